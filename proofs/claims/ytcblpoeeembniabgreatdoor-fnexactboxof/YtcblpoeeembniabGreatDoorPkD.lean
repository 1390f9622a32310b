/- Master, Bounds, BoundsOk, SpecBounds: one text. -/
import Derived.Test.YtcblpoeeembniabGreatDoorPkA
/- MasterOf of model and program: the first type of the master's number. -/
namespace Go.Proofs.YtcblpoeeembniabGreatDoor
open Go.RowKit
set_option linter.unusedVariables false
set_option linter.unusedSimpArgs false

def TypeV.zero : TypeV := ⟨0, 0, 0, 0, 0, 0, 0⟩
def isId (m : Int) (t : TypeV) : Bool := t.id == m
def masterV (r : ReqV) : TypeV := (r.types.find? (isId r.master)).getD TypeV.zero
def masterB (r : ReqV) : Bool := (r.types.find? (isId r.master)).isSome
theorem find_hit {α : Type} [Inhabited α] (f : α → Bool) (xs : List α) (k : Nat) (hk : k < xs.length) (h0 : (xs.take k).find? f = none) (h1 : f (xs.getD k default) = true) : xs.find? f = some (xs.getD k default) := by
 have hd : xs.drop k = xs[k] :: xs.drop (k + 1) := List.drop_eq_getElem_cons hk
 have hg : xs.getD k default = xs[k] := by simp [hk]
 rw [hg] at h1 ⊢
 have h2 : (xs.take k ++ xs.drop k).find? f = some xs[k] := by
  rw [List.find?_append, h0, hd, List.find?_cons_of_pos h1]
  rfl
 rwa [List.take_append_drop] at h2
theorem find_step {α : Type} [Inhabited α] (f : α → Bool) (xs : List α) (k : Nat) (hk : k < xs.length) (h0 : (xs.take k).find? f = none) (h1 : f (xs.getD k default) = false) : (xs.take (k + 1)).find? f = none := by
 have hg : xs.getD k default = xs[k] := by simp [hk]
 rw [hg] at h1
 rw [List.take_succ_eq_append_getElem hk, List.find?_append, h0]
 simp [h1]
theorem find_end {α : Type} (f : α → Bool) (xs : List α) (k : Nat) (hk : xs.length ≤ k) (h0 : (xs.take k).find? f = none) : xs.find? f = none := by rwa [List.take_of_length_le hk] at h0
theorem master_hit {r : ReqV} {q : TypeV} (h : r.types.find? (isId r.master) = some q) : masterV r = q ∧ masterB r = true := by simp [masterV, masterB, h]
theorem master_none {r : ReqV} (h : r.types.find? (isId r.master) = none) : masterV r = TypeV.zero ∧ masterB r = false := by simp [masterV, masterB, h]
theorem ret_master {p q : TypeV} {a b : Bool} (h1 : p = q) (h2 : a = b) : Ending.returned (.tuple #[.agg #[.int .i64 p.id, .int .i64 p.wd, .int .i64 p.ht, .int .i64 p.dp, .int .i64 p.tare, .int .i64 p.gram, .int .i64 p.cost], .bool a]) = .returned (.tuple #[.agg #[.int .i64 q.id, .int .i64 q.wd, .int .i64 q.ht, .int .i64 q.dp, .int .i64 q.tare, .int .i64 q.gram, .int .i64 q.cost], .bool b]) := by rw [h1, h2]
theorem below_fill7 {B g : Nat} {w u : World} {b0 b1 b2 b3 b4 b5 b6 : Value} (h : Below B w u) (hg : B ≤ g) :
 Below B w (((((((u.setCell ⟨g, 0, none⟩ b0).setCell ⟨g, 1, none⟩ b1).setCell ⟨g, 2, none⟩ b2).setCell ⟨g, 3, none⟩ b3).setCell ⟨g, 4, none⟩ b4).setCell ⟨g, 5, none⟩ b5).setCell ⟨g, 6, none⟩ b6) :=
 ((((((h.setCell hg _).setCell hg _).setCell hg _).setCell hg _).setCell hg _).setCell hg _).setCell hg _
theorem Blk.fill7 {w : World} {g : Nat} {a0 a1 a2 a3 a4 a5 a6 b0 b1 b2 b3 b4 b5 b6 : Value} (h : Blk w g [a0, a1, a2, a3, a4, a5, a6]) :
 Blk (((((((w.setCell ⟨g, 0, none⟩ b0).setCell ⟨g, 1, none⟩ b1).setCell ⟨g, 2, none⟩ b2).setCell ⟨g, 3, none⟩ b3).setCell ⟨g, 4, none⟩ b4).setCell ⟨g, 5, none⟩ b5).setCell ⟨g, 6, none⟩ b6) g [b0, b1, b2, b3, b4, b5, b6] :=
 ((((((h.set (j := 0) (v := b0) (by simp)).set (j := 1) (v := b1) (by simp)).set (j := 2) (v := b2) (by simp)).set (j := 3) (v := b3) (by simp)).set (j := 4) (v := b4) (by simp)).set (j := 5) (v := b5) (by simp)).set (j := 6) (v := b6) (by simp)

def byIdV (r : ReqV) (m : Int) : TypeV := (r.types.find? (isId m)).getD TypeV.zero
def byIdB (r : ReqV) (m : Int) : Bool := (r.types.find? (isId m)).isSome
theorem byId_hit {r : ReqV} {m : Int} {q : TypeV} (h : r.types.find? (isId m) = some q) : byIdV r m = q ∧ byIdB r m = true := by simp [byIdV, byIdB, h]
theorem byId_none {r : ReqV} {m : Int} (h : r.types.find? (isId m) = none) : byIdV r m = TypeV.zero ∧ byIdB r m = false := by simp [byIdV, byIdB, h]

set_option maxHeartbeats 2000000 in
theorem specMasterOf_any (r : ReqV) (h : ReqH) (w : World) (hr : RdReq w r h) (hs : r.types.length ≤ 1048600) :
 Calls Tryz.prog 51 #[reqVal r h] w fun e w' => e = .returned (.tuple #[.agg #[.int .i64 (masterV r).id, .int .i64 (masterV r).wd, .int .i64 (masterV r).ht, .int .i64 (masterV r).dp, .int .i64 (masterV r).tare, .int .i64 (masterV r).gram, .int .i64 (masterV r).cost], .bool (masterB r)]) ∧ Below w.heap.size w w' := by
 unfold reqVal
 have hty := hr.2.1
 have hlen := hty.1
 clear hr
 generalize h.at' = ta at *
 go_enter Tryz.func51, Tryz.ntmps51
 go_wp2
 have HX : Blk ((w.alloc (.cells #[.int .i64 r.way, .int .i64 r.pal.wd, .int .i64 r.pal.dp, .int .i64 r.pal.ht, .int .i64 r.pal.gram, .int .i64 r.classes, .slice h.ap r.pairs.length h.cp, .slice ta r.types.length h.ct, .int .i64 r.master, .slice h.ai r.items.length h.ci] 41)).alloc (.cells #[.int .i64 0, .int .i64 0, .int .i64 0, .int .i64 0, .int .i64 0, .int .i64 0, .int .i64 0] 54)) w.heap.size [.int .i64 r.way, .int .i64 r.pal.wd, .int .i64 r.pal.dp, .int .i64 r.pal.ht, .int .i64 r.pal.gram, .int .i64 r.classes, .slice h.ap r.pairs.length h.cp, .slice ta r.types.length h.ct, .int .i64 r.master, .slice h.ai r.items.length h.ci] := (Blk.allocAt [.int .i64 r.way, .int .i64 r.pal.wd, .int .i64 r.pal.dp, .int .i64 r.pal.ht, .int .i64 r.pal.gram, .int .i64 r.classes, .slice h.ap r.pairs.length h.cp, .slice ta r.types.length h.ct, .int .i64 r.master, .slice h.ai r.items.length h.ci] rfl).allocOld (by simp) _
 have HT : Blk ((w.alloc (.cells #[.int .i64 r.way, .int .i64 r.pal.wd, .int .i64 r.pal.dp, .int .i64 r.pal.ht, .int .i64 r.pal.gram, .int .i64 r.classes, .slice h.ap r.pairs.length h.cp, .slice ta r.types.length h.ct, .int .i64 r.master, .slice h.ai r.items.length h.ci] 41)).alloc (.cells #[.int .i64 0, .int .i64 0, .int .i64 0, .int .i64 0, .int .i64 0, .int .i64 0, .int .i64 0] 54)) (w.heap.size + 1) [.int .i64 0, .int .i64 0, .int .i64 0, .int .i64 0, .int .i64 0, .int .i64 0, .int .i64 0] := Blk.allocAt [.int .i64 0, .int .i64 0, .int .i64 0, .int .i64 0, .int .i64 0, .int .i64 0, .int .i64 0] (by simp)
 have HB : Below w.heap.size w ((w.alloc (.cells #[.int .i64 r.way, .int .i64 r.pal.wd, .int .i64 r.pal.dp, .int .i64 r.pal.ht, .int .i64 r.pal.gram, .int .i64 r.classes, .slice h.ap r.pairs.length h.cp, .slice ta r.types.length h.ct, .int .i64 r.master, .slice h.ai r.items.length h.ci] 41)).alloc (.cells #[.int .i64 0, .int .i64 0, .int .i64 0, .int .i64 0, .int .i64 0, .int .i64 0, .int .i64 0] 54)) := ((Below.refl w.heap.size w).alloc (Nat.le_refl _) _).alloc (by simp) _
 have hz : w.heap.size + 1 < ((w.alloc (.cells #[.int .i64 r.way, .int .i64 r.pal.wd, .int .i64 r.pal.dp, .int .i64 r.pal.ht, .int .i64 r.pal.gram, .int .i64 r.classes, .slice h.ap r.pairs.length h.cp, .slice ta r.types.length h.ct, .int .i64 r.master, .slice h.ai r.items.length h.ci] 41)).alloc (.cells #[.int .i64 0, .int .i64 0, .int .i64 0, .int .i64 0, .int .i64 0, .int .i64 0, .int .i64 0] 54)).heap.size := by simp
 have HTY : Hid (RdR TypeV.cells 7 ((w.alloc (.cells #[.int .i64 r.way, .int .i64 r.pal.wd, .int .i64 r.pal.dp, .int .i64 r.pal.ht, .int .i64 r.pal.gram, .int .i64 r.classes, .slice h.ap r.pairs.length h.cp, .slice ta r.types.length h.ct, .int .i64 r.master, .slice h.ai r.items.length h.ci] 41)).alloc (.cells #[.int .i64 0, .int .i64 0, .int .i64 0, .int .i64 0, .int .i64 0, .int .i64 0, .int .i64 0] 54)) ta r.types.length r.types) := hty.mono (by omega) TypeV.len (HB.mono (Nat.le_refl _))
 generalize ((w.alloc (.cells #[.int .i64 r.way, .int .i64 r.pal.wd, .int .i64 r.pal.dp, .int .i64 r.pal.ht, .int .i64 r.pal.gram, .int .i64 r.classes, .slice h.ap r.pairs.length h.cp, .slice ta r.types.length h.ct, .int .i64 r.master, .slice h.ai r.items.length h.ci] 41)).alloc (.cells #[.int .i64 0, .int .i64 0, .int .i64 0, .int .i64 0, .int .i64 0, .int .i64 0, .int .i64 0] 54)) = W at *
 obtain ⟨G, hG⟩ : ∃ G, G = w.heap.size := ⟨_, rfl⟩
 rw [← hG] at HX HT hz ⊢
 have HG := hide hG
 have HBH := hide HB
 have HXX := hide HX
 have HTT := hide HT
 have lt0 : G < W.heap.size := by omega
 clear hG HB HX HT hty hlen
 go_loopw [4] (fun i wr => ∃ k : Nat, k ≤ r.types.length ∧ i = .int .i64 (k : Int) ∧ (r.types.take k).find? (isId r.master) = none ∧ Below W.heap.size W wr) (fun i _ => r.types.length - (intOf i).toNat)
 case atStart => exact ⟨0, Nat.zero_le _, rfl, by simp, Below.refl _ _⟩
 case round =>
  obtain ⟨k, hk, rfl, hno, hb⟩ := hrel
  have A1 := Blk.below hb lt0 HXX.out
  have T1 := Blk.below hb hz HTT.out
  have a7 : wr.cell? ⟨G, 7, none⟩ = some (.slice ta r.types.length h.ct) := (A1 7 (by simp)).1
  have a8 : wr.cell? ⟨G, 8, none⟩ = some (.int .i64 r.master) := (A1 8 (by simp)).1
  obtain ⟨t0, tf0, t1, tf1, t2, tf2, t3, tf3, t4, tf4, t5, tf5, t6, tf6⟩ := Blk.cf7 T1

  have z1 : G + 1 < wr.heap.size := Nat.lt_of_lt_of_le hz hb.size
  have z0 : G < wr.heap.size := by omega
  have HBB := hide hb
  have HNO := hide hno
  have HTZ := hide T1
  by_cases hlt : k < r.types.length
  · obtain ⟨b, off, rfl, hc⟩ := HTY.out.2 k hlt
    have HSTEP := hide (fun h1 => find_step (isId r.master) r.types k hlt hno h1)
    have HHIT := hide (fun h1 => find_hit (isId r.master) r.types k hlt hno h1)
    generalize r.types.getD k default = q at hc HSTEP HHIT
    have d0 : wr.cell? ⟨b, off + k * 7, none⟩ = some (.int .i64 q.id) := (hb.cell (World.block_lt_of_cell? _ _ (hc 0 (by omega)))).trans (hc 0 (by omega))
    have d1 : wr.cell? ⟨b, off + k * 7 + 1, none⟩ = some (.int .i64 q.wd) := (hb.cell (World.block_lt_of_cell? _ _ (hc 1 (by omega)))).trans (hc 1 (by omega))
    have d2 : wr.cell? ⟨b, off + k * 7 + 2, none⟩ = some (.int .i64 q.ht) := (hb.cell (World.block_lt_of_cell? _ _ (hc 2 (by omega)))).trans (hc 2 (by omega))
    have d3 : wr.cell? ⟨b, off + k * 7 + 3, none⟩ = some (.int .i64 q.dp) := (hb.cell (World.block_lt_of_cell? _ _ (hc 3 (by omega)))).trans (hc 3 (by omega))
    have d4 : wr.cell? ⟨b, off + k * 7 + 4, none⟩ = some (.int .i64 q.tare) := (hb.cell (World.block_lt_of_cell? _ _ (hc 4 (by omega)))).trans (hc 4 (by omega))
    have d5 : wr.cell? ⟨b, off + k * 7 + 5, none⟩ = some (.int .i64 q.gram) := (hb.cell (World.block_lt_of_cell? _ _ (hc 5 (by omega)))).trans (hc 5 (by omega))
    have d6 : wr.cell? ⟨b, off + k * 7 + 6, none⟩ = some (.int .i64 q.cost) := (hb.cell (World.block_lt_of_cell? _ _ (hc 6 (by omega)))).trans (hc 6 (by omega))
    have hqm : isId r.master q = (q.id == r.master) := rfl
    rw [hqm] at HSTEP HHIT
    clear hc hb hno A1 T1 hqm
    cases hid : (q.id == r.master)
    · have HST := hide (HSTEP.out hid)
      clear HSTEP HHIT
      go_wp2
      go_quiet (fail)
      go_wp2
      go_roundw
      case rel => exact ⟨k + 1, by omega, by go_num, unhide HST, below_drewN HBB.out _⟩
      case measure => simp [intOf]; omega
    · have HH := hide (master_hit (HHIT.out hid))
      clear HSTEP HHIT
      go_wp2
      go_quiet (fail)
      go_wp2
      have e1 := HH.out.1
      have e2 := HH.out.2
      have HE1 := hide e1
      have HE2 := hide e2
      clear e1 e2 HH
      refine bodyPost_ret (v := .tuple #[.agg #[.int .i64 q.id, .int .i64 q.wd, .int .i64 q.ht, .int .i64 q.dp, .int .i64 q.tare, .int .i64 q.gram, .int .i64 q.cost], .bool true]) (by simp [results, Tryz.results51, go_sem, t0, t1, t2, t3, t4, t5, t6]) rfl ⟨ret_master HE1.out.symm HE2.out.symm, ?_⟩
      exact below_fill7 (HBH.out.trans ((below_drewN HBB.out _).mono HBH.out.size)) (by have := unhide HG; omega)
  · have HH := hide (master_none (find_end (isId r.master) r.types k (by omega) hno))
    clear hb hno A1 T1
    go_wp2
    have HE1 := hide HH.out.1
    have HE2 := hide HH.out.2
    refine bodyPost_ret (v := .tuple #[.agg #[.int .i64 0, .int .i64 0, .int .i64 0, .int .i64 0, .int .i64 0, .int .i64 0, .int .i64 0], .bool false]) (by simp [results, Tryz.results51, go_sem, t0, t1, t2, t3, t4, t5, t6]) rfl ⟨ret_master (p := TypeV.zero) HE1.out.symm HE2.out.symm, ?_⟩
    refine below_fill7 ?_ (by have := unhide HG; omega)
    exact HBH.out.trans (HBB.out.mono HBH.out.size)
set_option maxHeartbeats 2000000 in
theorem specTypeById_any (r : ReqV) (h : ReqH) (m : Int) (w : World) (hr : RdReq w r h) (hs : r.types.length ≤ 1048600) :
 Calls Tryz.prog 24 #[reqVal r h, .int .i64 m] w fun e w' => e = .returned (.tuple #[.agg #[.int .i64 (byIdV r m).id, .int .i64 (byIdV r m).wd, .int .i64 (byIdV r m).ht, .int .i64 (byIdV r m).dp, .int .i64 (byIdV r m).tare, .int .i64 (byIdV r m).gram, .int .i64 (byIdV r m).cost], .bool (byIdB r m)]) ∧ Below w.heap.size w w' := by
 unfold reqVal
 have hty := hr.2.1
 have hlen := hty.1
 clear hr
 generalize h.at' = ta at *
 go_enter Tryz.func24, Tryz.ntmps24
 go_wp2
 have HX : Blk ((w.alloc (.cells #[.int .i64 r.way, .int .i64 r.pal.wd, .int .i64 r.pal.dp, .int .i64 r.pal.ht, .int .i64 r.pal.gram, .int .i64 r.classes, .slice h.ap r.pairs.length h.cp, .slice ta r.types.length h.ct, .int .i64 r.master, .slice h.ai r.items.length h.ci] 41)).alloc (.cells #[.int .i64 0, .int .i64 0, .int .i64 0, .int .i64 0, .int .i64 0, .int .i64 0, .int .i64 0] 54)) w.heap.size [.int .i64 r.way, .int .i64 r.pal.wd, .int .i64 r.pal.dp, .int .i64 r.pal.ht, .int .i64 r.pal.gram, .int .i64 r.classes, .slice h.ap r.pairs.length h.cp, .slice ta r.types.length h.ct, .int .i64 r.master, .slice h.ai r.items.length h.ci] := (Blk.allocAt [.int .i64 r.way, .int .i64 r.pal.wd, .int .i64 r.pal.dp, .int .i64 r.pal.ht, .int .i64 r.pal.gram, .int .i64 r.classes, .slice h.ap r.pairs.length h.cp, .slice ta r.types.length h.ct, .int .i64 r.master, .slice h.ai r.items.length h.ci] rfl).allocOld (by simp) _
 have HT : Blk ((w.alloc (.cells #[.int .i64 r.way, .int .i64 r.pal.wd, .int .i64 r.pal.dp, .int .i64 r.pal.ht, .int .i64 r.pal.gram, .int .i64 r.classes, .slice h.ap r.pairs.length h.cp, .slice ta r.types.length h.ct, .int .i64 r.master, .slice h.ai r.items.length h.ci] 41)).alloc (.cells #[.int .i64 0, .int .i64 0, .int .i64 0, .int .i64 0, .int .i64 0, .int .i64 0, .int .i64 0] 54)) (w.heap.size + 1) [.int .i64 0, .int .i64 0, .int .i64 0, .int .i64 0, .int .i64 0, .int .i64 0, .int .i64 0] := Blk.allocAt [.int .i64 0, .int .i64 0, .int .i64 0, .int .i64 0, .int .i64 0, .int .i64 0, .int .i64 0] (by simp)
 have HB : Below w.heap.size w ((w.alloc (.cells #[.int .i64 r.way, .int .i64 r.pal.wd, .int .i64 r.pal.dp, .int .i64 r.pal.ht, .int .i64 r.pal.gram, .int .i64 r.classes, .slice h.ap r.pairs.length h.cp, .slice ta r.types.length h.ct, .int .i64 r.master, .slice h.ai r.items.length h.ci] 41)).alloc (.cells #[.int .i64 0, .int .i64 0, .int .i64 0, .int .i64 0, .int .i64 0, .int .i64 0, .int .i64 0] 54)) := ((Below.refl w.heap.size w).alloc (Nat.le_refl _) _).alloc (by simp) _
 have hz : w.heap.size + 1 < ((w.alloc (.cells #[.int .i64 r.way, .int .i64 r.pal.wd, .int .i64 r.pal.dp, .int .i64 r.pal.ht, .int .i64 r.pal.gram, .int .i64 r.classes, .slice h.ap r.pairs.length h.cp, .slice ta r.types.length h.ct, .int .i64 r.master, .slice h.ai r.items.length h.ci] 41)).alloc (.cells #[.int .i64 0, .int .i64 0, .int .i64 0, .int .i64 0, .int .i64 0, .int .i64 0, .int .i64 0] 54)).heap.size := by simp
 have HTY : Hid (RdR TypeV.cells 7 ((w.alloc (.cells #[.int .i64 r.way, .int .i64 r.pal.wd, .int .i64 r.pal.dp, .int .i64 r.pal.ht, .int .i64 r.pal.gram, .int .i64 r.classes, .slice h.ap r.pairs.length h.cp, .slice ta r.types.length h.ct, .int .i64 r.master, .slice h.ai r.items.length h.ci] 41)).alloc (.cells #[.int .i64 0, .int .i64 0, .int .i64 0, .int .i64 0, .int .i64 0, .int .i64 0, .int .i64 0] 54)) ta r.types.length r.types) := hty.mono (by omega) TypeV.len (HB.mono (Nat.le_refl _))
 generalize ((w.alloc (.cells #[.int .i64 r.way, .int .i64 r.pal.wd, .int .i64 r.pal.dp, .int .i64 r.pal.ht, .int .i64 r.pal.gram, .int .i64 r.classes, .slice h.ap r.pairs.length h.cp, .slice ta r.types.length h.ct, .int .i64 r.master, .slice h.ai r.items.length h.ci] 41)).alloc (.cells #[.int .i64 0, .int .i64 0, .int .i64 0, .int .i64 0, .int .i64 0, .int .i64 0, .int .i64 0] 54)) = W at *
 obtain ⟨G, hG⟩ : ∃ G, G = w.heap.size := ⟨_, rfl⟩
 rw [← hG] at HX HT hz ⊢
 have HG := hide hG
 have HBH := hide HB
 have HXX := hide HX
 have HTT := hide HT
 have lt0 : G < W.heap.size := by omega
 clear hG HB HX HT hty hlen
 go_loopw [6] (fun i wr => ∃ k : Nat, k ≤ r.types.length ∧ i = .int .i64 (k : Int) ∧ (r.types.take k).find? (isId m) = none ∧ Below W.heap.size W wr) (fun i _ => r.types.length - (intOf i).toNat)
 case atStart => exact ⟨0, Nat.zero_le _, rfl, by simp, Below.refl _ _⟩
 case round =>
  obtain ⟨k, hk, rfl, hno, hb⟩ := hrel
  have A1 := Blk.below hb lt0 HXX.out
  have T1 := Blk.below hb hz HTT.out
  have a7 : wr.cell? ⟨G, 7, none⟩ = some (.slice ta r.types.length h.ct) := (A1 7 (by simp)).1
  have a8 : wr.cell? ⟨G, 8, none⟩ = some (.int .i64 r.master) := (A1 8 (by simp)).1
  obtain ⟨t0, tf0, t1, tf1, t2, tf2, t3, tf3, t4, tf4, t5, tf5, t6, tf6⟩ := Blk.cf7 T1

  have z1 : G + 1 < wr.heap.size := Nat.lt_of_lt_of_le hz hb.size
  have z0 : G < wr.heap.size := by omega
  have HBB := hide hb
  have HNO := hide hno
  have HTZ := hide T1
  by_cases hlt : k < r.types.length
  · obtain ⟨b, off, rfl, hc⟩ := HTY.out.2 k hlt
    have HSTEP := hide (fun h1 => find_step (isId m) r.types k hlt hno h1)
    have HHIT := hide (fun h1 => find_hit (isId m) r.types k hlt hno h1)
    generalize r.types.getD k default = q at hc HSTEP HHIT
    have d0 : wr.cell? ⟨b, off + k * 7, none⟩ = some (.int .i64 q.id) := (hb.cell (World.block_lt_of_cell? _ _ (hc 0 (by omega)))).trans (hc 0 (by omega))
    have d1 : wr.cell? ⟨b, off + k * 7 + 1, none⟩ = some (.int .i64 q.wd) := (hb.cell (World.block_lt_of_cell? _ _ (hc 1 (by omega)))).trans (hc 1 (by omega))
    have d2 : wr.cell? ⟨b, off + k * 7 + 2, none⟩ = some (.int .i64 q.ht) := (hb.cell (World.block_lt_of_cell? _ _ (hc 2 (by omega)))).trans (hc 2 (by omega))
    have d3 : wr.cell? ⟨b, off + k * 7 + 3, none⟩ = some (.int .i64 q.dp) := (hb.cell (World.block_lt_of_cell? _ _ (hc 3 (by omega)))).trans (hc 3 (by omega))
    have d4 : wr.cell? ⟨b, off + k * 7 + 4, none⟩ = some (.int .i64 q.tare) := (hb.cell (World.block_lt_of_cell? _ _ (hc 4 (by omega)))).trans (hc 4 (by omega))
    have d5 : wr.cell? ⟨b, off + k * 7 + 5, none⟩ = some (.int .i64 q.gram) := (hb.cell (World.block_lt_of_cell? _ _ (hc 5 (by omega)))).trans (hc 5 (by omega))
    have d6 : wr.cell? ⟨b, off + k * 7 + 6, none⟩ = some (.int .i64 q.cost) := (hb.cell (World.block_lt_of_cell? _ _ (hc 6 (by omega)))).trans (hc 6 (by omega))
    have hqm : isId m q = (q.id == m) := rfl
    rw [hqm] at HSTEP HHIT
    clear hc hb hno A1 T1 hqm
    cases hid : (q.id == m)
    · have HST := hide (HSTEP.out hid)
      clear HSTEP HHIT
      go_wp2
      go_roundw
      case rel => exact ⟨k + 1, by omega, by go_num, unhide HST, unhide HBB⟩
      case measure => simp [intOf]; omega
    · have HH := hide (byId_hit (HHIT.out hid))
      clear HSTEP HHIT
      go_wp2
      have e1 := HH.out.1
      have e2 := HH.out.2
      have HE1 := hide e1
      have HE2 := hide e2
      clear e1 e2 HH
      refine bodyPost_ret (v := .tuple #[.agg #[.int .i64 q.id, .int .i64 q.wd, .int .i64 q.ht, .int .i64 q.dp, .int .i64 q.tare, .int .i64 q.gram, .int .i64 q.cost], .bool true]) (by simp [results, Tryz.results24, go_sem, t0, t1, t2, t3, t4, t5, t6]) rfl ⟨ret_master HE1.out.symm HE2.out.symm, ?_⟩
      exact below_fill7 (HBH.out.trans (HBB.out.mono HBH.out.size)) (by have := unhide HG; omega)
  · have HH := hide (byId_none (find_end (isId m) r.types k (by omega) hno))
    clear hb hno A1 T1
    go_wp2
    have HE1 := hide HH.out.1
    have HE2 := hide HH.out.2
    refine bodyPost_ret (v := .tuple #[.agg #[.int .i64 0, .int .i64 0, .int .i64 0, .int .i64 0, .int .i64 0, .int .i64 0, .int .i64 0], .bool false]) (by simp [results, Tryz.results24, go_sem, t0, t1, t2, t3, t4, t5, t6]) rfl ⟨ret_master (p := TypeV.zero) HE1.out.symm HE2.out.symm, ?_⟩
    refine below_fill7 ?_ (by have := unhide HG; omega)
    exact HBH.out.trans (HBB.out.mono HBH.out.size)
set_option maxHeartbeats 2000000 in
theorem typeById_any (r : ReqV) (h : ReqH) (m : Int) (w : World) (hr : RdReq w r h) (hs : r.types.length ≤ 1048600) :
 Calls Tryz.prog 32 #[reqVal r h, .int .i64 m] w fun e w' => e = .returned (.tuple #[.agg #[.int .i64 (byIdV r m).id, .int .i64 (byIdV r m).wd, .int .i64 (byIdV r m).ht, .int .i64 (byIdV r m).dp, .int .i64 (byIdV r m).tare, .int .i64 (byIdV r m).gram, .int .i64 (byIdV r m).cost], .bool (byIdB r m)]) ∧ Below w.heap.size w w' := by
 unfold reqVal
 have hty := hr.2.1
 have hlen := hty.1
 clear hr
 generalize h.at' = ta at *
 go_enter Tryz.func32, Tryz.ntmps32
 go_wp2
 have HX : Blk ((w.alloc (.cells #[.int .i64 r.way, .int .i64 r.pal.wd, .int .i64 r.pal.dp, .int .i64 r.pal.ht, .int .i64 r.pal.gram, .int .i64 r.classes, .slice h.ap r.pairs.length h.cp, .slice ta r.types.length h.ct, .int .i64 r.master, .slice h.ai r.items.length h.ci] 41)).alloc (.cells #[.int .i64 0, .int .i64 0, .int .i64 0, .int .i64 0, .int .i64 0, .int .i64 0, .int .i64 0] 54)) w.heap.size [.int .i64 r.way, .int .i64 r.pal.wd, .int .i64 r.pal.dp, .int .i64 r.pal.ht, .int .i64 r.pal.gram, .int .i64 r.classes, .slice h.ap r.pairs.length h.cp, .slice ta r.types.length h.ct, .int .i64 r.master, .slice h.ai r.items.length h.ci] := (Blk.allocAt [.int .i64 r.way, .int .i64 r.pal.wd, .int .i64 r.pal.dp, .int .i64 r.pal.ht, .int .i64 r.pal.gram, .int .i64 r.classes, .slice h.ap r.pairs.length h.cp, .slice ta r.types.length h.ct, .int .i64 r.master, .slice h.ai r.items.length h.ci] rfl).allocOld (by simp) _
 have HT : Blk ((w.alloc (.cells #[.int .i64 r.way, .int .i64 r.pal.wd, .int .i64 r.pal.dp, .int .i64 r.pal.ht, .int .i64 r.pal.gram, .int .i64 r.classes, .slice h.ap r.pairs.length h.cp, .slice ta r.types.length h.ct, .int .i64 r.master, .slice h.ai r.items.length h.ci] 41)).alloc (.cells #[.int .i64 0, .int .i64 0, .int .i64 0, .int .i64 0, .int .i64 0, .int .i64 0, .int .i64 0] 54)) (w.heap.size + 1) [.int .i64 0, .int .i64 0, .int .i64 0, .int .i64 0, .int .i64 0, .int .i64 0, .int .i64 0] := Blk.allocAt [.int .i64 0, .int .i64 0, .int .i64 0, .int .i64 0, .int .i64 0, .int .i64 0, .int .i64 0] (by simp)
 have HB : Below w.heap.size w ((w.alloc (.cells #[.int .i64 r.way, .int .i64 r.pal.wd, .int .i64 r.pal.dp, .int .i64 r.pal.ht, .int .i64 r.pal.gram, .int .i64 r.classes, .slice h.ap r.pairs.length h.cp, .slice ta r.types.length h.ct, .int .i64 r.master, .slice h.ai r.items.length h.ci] 41)).alloc (.cells #[.int .i64 0, .int .i64 0, .int .i64 0, .int .i64 0, .int .i64 0, .int .i64 0, .int .i64 0] 54)) := ((Below.refl w.heap.size w).alloc (Nat.le_refl _) _).alloc (by simp) _
 have hz : w.heap.size + 1 < ((w.alloc (.cells #[.int .i64 r.way, .int .i64 r.pal.wd, .int .i64 r.pal.dp, .int .i64 r.pal.ht, .int .i64 r.pal.gram, .int .i64 r.classes, .slice h.ap r.pairs.length h.cp, .slice ta r.types.length h.ct, .int .i64 r.master, .slice h.ai r.items.length h.ci] 41)).alloc (.cells #[.int .i64 0, .int .i64 0, .int .i64 0, .int .i64 0, .int .i64 0, .int .i64 0, .int .i64 0] 54)).heap.size := by simp
 have HTY : Hid (RdR TypeV.cells 7 ((w.alloc (.cells #[.int .i64 r.way, .int .i64 r.pal.wd, .int .i64 r.pal.dp, .int .i64 r.pal.ht, .int .i64 r.pal.gram, .int .i64 r.classes, .slice h.ap r.pairs.length h.cp, .slice ta r.types.length h.ct, .int .i64 r.master, .slice h.ai r.items.length h.ci] 41)).alloc (.cells #[.int .i64 0, .int .i64 0, .int .i64 0, .int .i64 0, .int .i64 0, .int .i64 0, .int .i64 0] 54)) ta r.types.length r.types) := hty.mono (by omega) TypeV.len (HB.mono (Nat.le_refl _))
 generalize ((w.alloc (.cells #[.int .i64 r.way, .int .i64 r.pal.wd, .int .i64 r.pal.dp, .int .i64 r.pal.ht, .int .i64 r.pal.gram, .int .i64 r.classes, .slice h.ap r.pairs.length h.cp, .slice ta r.types.length h.ct, .int .i64 r.master, .slice h.ai r.items.length h.ci] 41)).alloc (.cells #[.int .i64 0, .int .i64 0, .int .i64 0, .int .i64 0, .int .i64 0, .int .i64 0, .int .i64 0] 54)) = W at *
 obtain ⟨G, hG⟩ : ∃ G, G = w.heap.size := ⟨_, rfl⟩
 rw [← hG] at HX HT hz ⊢
 have HG := hide hG
 have HBH := hide HB
 have HXX := hide HX
 have HTT := hide HT
 have lt0 : G < W.heap.size := by omega
 clear hG HB HX HT hty hlen
 go_loopw [11] (fun i wr => ∃ k : Nat, k ≤ r.types.length ∧ i = .int .i64 (k : Int) ∧ (r.types.take k).find? (isId m) = none ∧ Below W.heap.size W wr) (fun i _ => r.types.length - (intOf i).toNat)
 case atStart => exact ⟨0, Nat.zero_le _, rfl, by simp, Below.refl _ _⟩
 case round =>
  obtain ⟨k, hk, rfl, hno, hb⟩ := hrel
  have A1 := Blk.below hb lt0 HXX.out
  have T1 := Blk.below hb hz HTT.out
  have a7 : wr.cell? ⟨G, 7, none⟩ = some (.slice ta r.types.length h.ct) := (A1 7 (by simp)).1
  have a8 : wr.cell? ⟨G, 8, none⟩ = some (.int .i64 r.master) := (A1 8 (by simp)).1
  obtain ⟨t0, tf0, t1, tf1, t2, tf2, t3, tf3, t4, tf4, t5, tf5, t6, tf6⟩ := Blk.cf7 T1

  have z1 : G + 1 < wr.heap.size := Nat.lt_of_lt_of_le hz hb.size
  have z0 : G < wr.heap.size := by omega
  have HBB := hide hb
  have HNO := hide hno
  have HTZ := hide T1
  by_cases hlt : k < r.types.length
  · obtain ⟨b, off, rfl, hc⟩ := HTY.out.2 k hlt
    have HSTEP := hide (fun h1 => find_step (isId m) r.types k hlt hno h1)
    have HHIT := hide (fun h1 => find_hit (isId m) r.types k hlt hno h1)
    generalize r.types.getD k default = q at hc HSTEP HHIT
    have d0 : wr.cell? ⟨b, off + k * 7, none⟩ = some (.int .i64 q.id) := (hb.cell (World.block_lt_of_cell? _ _ (hc 0 (by omega)))).trans (hc 0 (by omega))
    have d1 : wr.cell? ⟨b, off + k * 7 + 1, none⟩ = some (.int .i64 q.wd) := (hb.cell (World.block_lt_of_cell? _ _ (hc 1 (by omega)))).trans (hc 1 (by omega))
    have d2 : wr.cell? ⟨b, off + k * 7 + 2, none⟩ = some (.int .i64 q.ht) := (hb.cell (World.block_lt_of_cell? _ _ (hc 2 (by omega)))).trans (hc 2 (by omega))
    have d3 : wr.cell? ⟨b, off + k * 7 + 3, none⟩ = some (.int .i64 q.dp) := (hb.cell (World.block_lt_of_cell? _ _ (hc 3 (by omega)))).trans (hc 3 (by omega))
    have d4 : wr.cell? ⟨b, off + k * 7 + 4, none⟩ = some (.int .i64 q.tare) := (hb.cell (World.block_lt_of_cell? _ _ (hc 4 (by omega)))).trans (hc 4 (by omega))
    have d5 : wr.cell? ⟨b, off + k * 7 + 5, none⟩ = some (.int .i64 q.gram) := (hb.cell (World.block_lt_of_cell? _ _ (hc 5 (by omega)))).trans (hc 5 (by omega))
    have d6 : wr.cell? ⟨b, off + k * 7 + 6, none⟩ = some (.int .i64 q.cost) := (hb.cell (World.block_lt_of_cell? _ _ (hc 6 (by omega)))).trans (hc 6 (by omega))
    have hqm : isId m q = (q.id == m) := rfl
    rw [hqm] at HSTEP HHIT
    clear hc hb hno A1 T1 hqm
    cases hid : (q.id == m)
    · have HST := hide (HSTEP.out hid)
      clear HSTEP HHIT
      go_wp2
      go_roundw
      case rel => exact ⟨k + 1, by omega, by go_num, unhide HST, bw_alloc HBB.out _⟩
      case measure => simp [intOf]; omega
    · have HH := hide (byId_hit (HHIT.out hid))
      clear HSTEP HHIT
      go_wp2
      have e1 := HH.out.1
      have e2 := HH.out.2
      have HE1 := hide e1
      have HE2 := hide e2
      clear e1 e2 HH
      have CC : Blk ((((((((wr.setCell ⟨G + 1, 0, none⟩ (.int .i64 q.id)).setCell ⟨G + 1, 1, none⟩ (.int .i64 q.wd)).setCell ⟨G + 1, 2, none⟩ (.int .i64 q.ht)).setCell ⟨G + 1, 3, none⟩ (.int .i64 q.dp)).setCell ⟨G + 1, 4, none⟩ (.int .i64 q.tare)).setCell ⟨G + 1, 5, none⟩ (.int .i64 q.gram)).setCell ⟨G + 1, 6, none⟩ (.int .i64 q.cost)).alloc (.cells #[.int .i64 q.id, .int .i64 q.wd, .int .i64 q.ht, .int .i64 q.dp, .int .i64 q.tare, .int .i64 q.gram, .int .i64 q.cost] 54)) (G + 1) [.int .i64 q.id, .int .i64 q.wd, .int .i64 q.ht, .int .i64 q.dp, .int .i64 q.tare, .int .i64 q.gram, .int .i64 q.cost] := (Blk.fill7 HTZ.out).allocOld (by simpa using z1) _
      obtain ⟨c0, c1, c2, c3, c4, c5, c6⟩ := Blk.cs7 CC
      clear CC
      refine bodyPost_ret (v := .tuple #[.agg #[.int .i64 q.id, .int .i64 q.wd, .int .i64 q.ht, .int .i64 q.dp, .int .i64 q.tare, .int .i64 q.gram, .int .i64 q.cost], .bool true]) (by simp [results, Tryz.results32, go_sem, c0, c1, c2, c3, c4, c5, c6]) rfl ⟨ret_master HE1.out.symm HE2.out.symm, ?_⟩
      exact ((below_fill7 (HBH.out.trans (HBB.out.mono HBH.out.size)) (by have := unhide HG; omega)).alloc (by have := HBH.out.size; have := HBB.out.size; simp; omega) _)
  · have HH := hide (byId_none (find_end (isId m) r.types k (by omega) hno))
    clear hb hno A1 T1
    go_wp2
    have HE1 := hide HH.out.1
    have HE2 := hide HH.out.2
    refine bodyPost_ret (v := .tuple #[.agg #[.int .i64 0, .int .i64 0, .int .i64 0, .int .i64 0, .int .i64 0, .int .i64 0, .int .i64 0], .bool false]) (by simp [results, Tryz.results32, go_sem, t0, t1, t2, t3, t4, t5, t6]) rfl ⟨ret_master (p := TypeV.zero) HE1.out.symm HE2.out.symm, ?_⟩
    refine below_fill7 ?_ (by have := unhide HG; omega)
    exact HBH.out.trans (HBB.out.mono HBH.out.size)
set_option maxHeartbeats 2000000 in
theorem masterOf_any (r : ReqV) (h : ReqH) (w : World) (hr : RdReq w r h) (hs : r.types.length ≤ 1048600) :
 Calls Tryz.prog 19 #[reqVal r h] w fun e w' => e = .returned (.tuple #[.agg #[.int .i64 (masterV r).id, .int .i64 (masterV r).wd, .int .i64 (masterV r).ht, .int .i64 (masterV r).dp, .int .i64 (masterV r).tare, .int .i64 (masterV r).gram, .int .i64 (masterV r).cost], .bool (masterB r)]) ∧ Below w.heap.size w w' := by
 have HR := hide hr
 clear hr
 unfold reqVal
 go_enter Tryz.func19, Tryz.ntmps19
 go_wp2_with fail
 have HT : Blk ((w.alloc (.cells #[.int .i64 r.way, .int .i64 r.pal.wd, .int .i64 r.pal.dp, .int .i64 r.pal.ht, .int .i64 r.pal.gram, .int .i64 r.classes, .slice h.ap r.pairs.length h.cp, .slice h.at' r.types.length h.ct, .int .i64 r.master, .slice h.ai r.items.length h.ci] 41)).alloc (.cells #[.int .i64 0, .int .i64 0, .int .i64 0, .int .i64 0, .int .i64 0, .int .i64 0, .int .i64 0] 54)) (w.heap.size + 1) [.int .i64 0, .int .i64 0, .int .i64 0, .int .i64 0, .int .i64 0, .int .i64 0, .int .i64 0] := Blk.allocAt [.int .i64 0, .int .i64 0, .int .i64 0, .int .i64 0, .int .i64 0, .int .i64 0, .int .i64 0] (by simp)
 have HB : Below w.heap.size w ((w.alloc (.cells #[.int .i64 r.way, .int .i64 r.pal.wd, .int .i64 r.pal.dp, .int .i64 r.pal.ht, .int .i64 r.pal.gram, .int .i64 r.classes, .slice h.ap r.pairs.length h.cp, .slice h.at' r.types.length h.ct, .int .i64 r.master, .slice h.ai r.items.length h.ci] 41)).alloc (.cells #[.int .i64 0, .int .i64 0, .int .i64 0, .int .i64 0, .int .i64 0, .int .i64 0, .int .i64 0] 54)) := ((Below.refl w.heap.size w).alloc (Nat.le_refl _) _).alloc (by simp) _
 have hz : w.heap.size + 1 < ((w.alloc (.cells #[.int .i64 r.way, .int .i64 r.pal.wd, .int .i64 r.pal.dp, .int .i64 r.pal.ht, .int .i64 r.pal.gram, .int .i64 r.classes, .slice h.ap r.pairs.length h.cp, .slice h.at' r.types.length h.ct, .int .i64 r.master, .slice h.ai r.items.length h.ci] 41)).alloc (.cells #[.int .i64 0, .int .i64 0, .int .i64 0, .int .i64 0, .int .i64 0, .int .i64 0, .int .i64 0] 54)).heap.size := by simp
 generalize ((w.alloc (.cells #[.int .i64 r.way, .int .i64 r.pal.wd, .int .i64 r.pal.dp, .int .i64 r.pal.ht, .int .i64 r.pal.gram, .int .i64 r.classes, .slice h.ap r.pairs.length h.cp, .slice h.at' r.types.length h.ct, .int .i64 r.master, .slice h.ai r.items.length h.ci] 41)).alloc (.cells #[.int .i64 0, .int .i64 0, .int .i64 0, .int .i64 0, .int .i64 0, .int .i64 0, .int .i64 0] 54)) = W at *
 refine (typeById_any r h r.master W (HR.out.mono HB) hs).mono ?_
 rintro e w1 ⟨rfl, hb⟩
 have HTZ := hide (Blk.below hb hz HT)
 have HB1 := hide (HB.trans (hb.mono HB.size))
 have HZ := hide (show byIdV r r.master = masterV r from rfl)
 have HY := hide (show byIdB r r.master = masterB r from rfl)
 rw [unhide HZ, unhide HY]
 clear hb HT HB hz HZ HY
 obtain ⟨t0, tf0, t1, tf1, t2, tf2, t3, tf3, t4, tf4, t5, tf5, t6, tf6⟩ := Blk.cf7 HTZ.out
 go_wp2
 have CC : Blk (((((((w1.setCell ⟨w.heap.size + 1, 0, none⟩ (.int .i64 (masterV r).id)).setCell ⟨w.heap.size + 1, 1, none⟩ (.int .i64 (masterV r).wd)).setCell ⟨w.heap.size + 1, 2, none⟩ (.int .i64 (masterV r).ht)).setCell ⟨w.heap.size + 1, 3, none⟩ (.int .i64 (masterV r).dp)).setCell ⟨w.heap.size + 1, 4, none⟩ (.int .i64 (masterV r).tare)).setCell ⟨w.heap.size + 1, 5, none⟩ (.int .i64 (masterV r).gram)).setCell ⟨w.heap.size + 1, 6, none⟩ (.int .i64 (masterV r).cost)) (w.heap.size + 1) [.int .i64 (masterV r).id, .int .i64 (masterV r).wd, .int .i64 (masterV r).ht, .int .i64 (masterV r).dp, .int .i64 (masterV r).tare, .int .i64 (masterV r).gram, .int .i64 (masterV r).cost] := Blk.fill7 HTZ.out
 obtain ⟨c0, c1, c2, c3, c4, c5, c6⟩ := Blk.cs7 CC
 refine bodyPost_ret (v := .tuple #[.agg #[.int .i64 (masterV r).id, .int .i64 (masterV r).wd, .int .i64 (masterV r).ht, .int .i64 (masterV r).dp, .int .i64 (masterV r).tare, .int .i64 (masterV r).gram, .int .i64 (masterV r).cost], .bool (masterB r)]) (by simp [results, Tryz.results19, go_sem, c0, c1, c2, c3, c4, c5, c6]) rfl ⟨rfl, ?_⟩
 exact below_fill7 HB1.out (by omega)
end Go.Proofs.YtcblpoeeembniabGreatDoor

/- BoundsOk of the program. -/
namespace Go.Proofs.YtcblpoeeembniabGreatDoor
open Go.RowKit
set_option linter.unusedVariables false

def pairB (p : PairV) : Bool := inB p.a 0 3 && inB p.b 0 3
def TypeV.ok (t : TypeV) : Bool := typeB t.id t.wd t.ht t.dp t.tare t.gram t.cost
def ItemV.ok (t : ItemV) : Bool := itemB t.id t.wd t.ht t.dp t.gram t.cls t.cnt
def PalletV.ok (t : PalletV) : Bool := palletB t.wd t.dp t.ht t.gram
def cntSum (xs : List ItemV) : Int := (xs.map (·.cnt)).sum
def pairsB (xs : List PairV) : Bool := decide (xs.length ≤ 16) && xs.all pairB
def typesB (xs : List TypeV) : Bool := inB xs.length 1 5 && xs.all TypeV.ok
def itemsB (xs : List ItemV) : Bool := decide (xs.length ≤ 8) && (xs.all ItemV.ok && decide (cntSum xs ≤ 12))
def boundsB (r : ReqV) : Bool := inB r.way 0 1 && r.pal.ok && inB r.classes 1 4 && pairsB r.pairs && typesB r.types && inB r.master 0 999 && itemsB r.items

theorem all_step {α : Type} [Inhabited α] (f : α → Bool) (xs : List α) (k : Nat) (h : k < xs.length) (h0 : (xs.take k).all f = true) (h1 : f (xs.getD k default) = true) : (xs.take (k + 1)).all f = true := by
 rw [List.take_succ_eq_append_getElem h, List.all_append, h0]
 simpa [h] using h1
theorem all_fell {α : Type} [Inhabited α] (f : α → Bool) (xs : List α) (k : Nat) (h : k < xs.length) (h1 : f (xs.getD k default) = false) : xs.all f = false := by
 rw [List.all_eq_false]
 exact ⟨xs[k], List.getElem_mem _, by simpa [h] using h1⟩
theorem all_whole {α : Type} (f : α → Bool) (xs : List α) (k : Nat) (h : xs.length ≤ k) (h0 : (xs.take k).all f = true) : xs.all f = true := by
 rwa [List.take_of_length_le h] at h0
theorem ret_bool {a b : Bool} (h : a = b) : Ending.returned (.bool a) = .returned (.bool b) := by rw [h]
theorem pairsB_long {xs : List PairV} (h : ¬ xs.length ≤ 16) : pairsB xs = false := by simp [pairsB, h]
theorem pairsB_fell {xs : List PairV} (h : xs.all pairB = false) : pairsB xs = false := by simp [pairsB, h]
theorem pairsB_true {xs : List PairV} (h0 : xs.length ≤ 16) (h : xs.all pairB = true) : pairsB xs = true := by simp [pairsB, h, h0]
theorem typesB_long {xs : List TypeV} (h : inB xs.length 1 5 = false) : typesB xs = false := by simp [typesB, h]
theorem typesB_fell {xs : List TypeV} (h : xs.all TypeV.ok = false) : typesB xs = false := by simp [typesB, h]
theorem typesB_true {xs : List TypeV} (h0 : inB xs.length 1 5 = true) (h : xs.all TypeV.ok = true) : typesB xs = true := by simp [typesB, h, h0]
theorem itemsB_long {xs : List ItemV} (h : ¬ xs.length ≤ 8) : itemsB xs = false := by simp [itemsB, h]
theorem itemsB_fell {xs : List ItemV} (h : xs.all ItemV.ok = false) : itemsB xs = false := by simp [itemsB, h]
theorem itemsB_end {xs : List ItemV} (h0 : xs.length ≤ 8) (h : xs.all ItemV.ok = true) : itemsB xs = decide (cntSum xs ≤ 12) := by simp [itemsB, h, h0]
theorem item_cnt {q : ItemV} (h : q.ok = true) : 1 ≤ q.cnt ∧ q.cnt ≤ 6 := by
 simp only [ItemV.ok, itemB, Bool.and_eq_true] at h
 exact inB_iff.1 h.2
theorem cntSum_snoc (l : List ItemV) (x : ItemV) : cntSum (l ++ [x]) = cntSum l + x.cnt := by simp [cntSum, List.sum_append]
theorem cntSum_step (xs : List ItemV) (k : Nat) (h : k < xs.length) : cntSum (xs.take (k + 1)) = cntSum (xs.take k) + (xs.getD k default).cnt := by
 rw [List.take_succ_eq_append_getElem h, cntSum_snoc]
 simp [h]
theorem cntSum_bd (xs : List ItemV) (h : xs.all ItemV.ok = true) : 0 ≤ cntSum xs ∧ cntSum xs ≤ 6 * xs.length := by
 induction xs with
 | nil => simp [cntSum]
 | cons x r ih =>
  simp only [List.all_cons, Bool.and_eq_true] at h
  have := item_cnt h.1
  have := ih h.2
  have e : cntSum (x :: r) = x.cnt + cntSum r := by simp [cntSum]
  rw [e, List.length_cons]
  omega

set_option maxHeartbeats 1000000 in
theorem pairsOk_any (a : Option Addr) (n c : Nat) (xs : List PairV) (w : World) (hr : RdR PairV.cells 2 w a n xs) (hn : n ≤ 1048576) :
 Calls Tryz.prog 107 #[.slice a n c] w fun e w' => e = .returned (.bool (pairsB xs)) ∧ Below w.heap.size w w' := by
 by_cases h16 : n ≤ 16
 case neg =>
  have HP := hide (pairsB_long (xs := xs) (by rw [hr.1]; exact h16))
  go_enter Tryz.func107, Tryz.ntmps107
  go_wp2
  go_ret
  exact ⟨ret_bool HP.out.symm, Below.refl _ _⟩
 go_enter Tryz.func107, Tryz.ntmps107
 go_wp2
 go_loopw [10] (fun i wr => ∃ k : Nat, k ≤ n ∧ i = .int .i64 k ∧ (xs.take k).all pairB = true ∧ Below w.heap.size w wr) (fun i _ => n - (intOf i).toNat)
 case atStart => exact ⟨0, Nat.zero_le _, rfl, rfl, Below.refl _ _⟩
 case round =>
  obtain ⟨k, hk, rfl, hall, hbel⟩ := hrel
  have HA := hide hall
  clear hall
  by_cases hlt : k < n
  · obtain ⟨b, off, rfl, hc⟩ := hr.2 k hlt
    have HS := hide (all_step pairB xs k (by rw [hr.1]; exact hlt) HA.out)
    have HF := hide (all_fell pairB xs k (by rw [hr.1]; exact hlt))
    generalize xs.getD k default = q at hc HS HF
    have d0 : wr.cell? ⟨b, off + k * 2, none⟩ = some (.int .i64 q.a) := (hbel.cell (World.block_lt_of_cell? w _ (hc 0 (by omega)))).trans (hc 0 (by omega))
    have d1 : wr.cell? ⟨b, off + k * 2 + 1, none⟩ = some (.int .i64 q.b) := (hbel.cell (World.block_lt_of_cell? w _ (hc 1 (by omega)))).trans (hc 1 (by omega))
    have HB := hide hbel
    clear hc hr hbel HA
    cases h1 : inB q.a 0 3
    · have HF' := hide (unhide HF (by simp [pairB, h1]))
      clear HF HS
      go_wp2_with ((go_at_call 73; refine (within_any _ _ _ _).mono ?_; rintro e w' ⟨rfl, hw⟩; subst w'))
      go_ret
      exact ⟨ret_bool (pairsB_fell (unhide HF')).symm, HB.out.alloc HB.out.size _⟩
    cases h2 : inB q.b 0 3
    · have HF' := hide (unhide HF (by simp [pairB, h2]))
      clear HF HS
      go_wp2_with ((go_at_call 73; refine (within_any _ _ _ _).mono ?_; rintro e w' ⟨rfl, hw⟩; subst w'))
      go_ret
      exact ⟨ret_bool (pairsB_fell (unhide HF')).symm, HB.out.alloc HB.out.size _⟩
    have HS' := hide (unhide HS (by simp [pairB, h1, h2]))
    clear HF HS
    go_wp2_with ((go_at_call 73; refine (within_any _ _ _ _).mono ?_; rintro e w' ⟨rfl, hw⟩; subst w'))
    go_roundw
    case rel => exact ⟨k + 1, by omega, by go_num, unhide HS', HB.out.alloc HB.out.size _⟩
    case measure => simp [intOf]; omega
  · have HW := hide (pairsB_true (by rw [hr.1]; exact h16) (all_whole pairB xs k (by rw [hr.1]; omega) HA.out))
    go_wp2
    go_ret
    exact ⟨ret_bool HW.out.symm, hbel⟩

set_option maxHeartbeats 1000000 in
theorem typesOk_any (a : Option Addr) (n c : Nat) (xs : List TypeV) (w : World) (hr : RdR TypeV.cells 7 w a n xs) (hn : n ≤ 1048576) :
 Calls Tryz.prog 108 #[.slice a n c] w fun e w' => e = .returned (.bool (typesB xs)) ∧ Below w.heap.size w w' := by
 cases h16 : inB n 1 5
 case false =>
  have HP := hide (typesB_long (xs := xs) (by rw [hr.1]; exact h16))
  go_enter Tryz.func108, Tryz.ntmps108
  go_wp2_with ((go_at_call 73; refine (within_any _ _ _ _).mono ?_; rintro e w' ⟨rfl, hw⟩; subst w'))
  go_ret
  exact ⟨ret_bool HP.out.symm, Below.refl _ _⟩
 go_enter Tryz.func108, Tryz.ntmps108
 go_wp2_with ((go_at_call 73; refine (within_any _ _ _ _).mono ?_; rintro e w' ⟨rfl, hw⟩; subst w'))
 go_loopw [11] (fun i wr => ∃ k : Nat, k ≤ n ∧ i = .int .i64 k ∧ (xs.take k).all TypeV.ok = true ∧ Below w.heap.size w wr) (fun i _ => n - (intOf i).toNat)
 case atStart => exact ⟨0, Nat.zero_le _, rfl, rfl, Below.refl _ _⟩
 case round =>
  obtain ⟨k, hk, rfl, hall, hbel⟩ := hrel
  have HA := hide hall
  clear hall
  by_cases hlt : k < n
  · obtain ⟨b, off, rfl, hc⟩ := hr.2 k hlt
    have HS := hide (all_step TypeV.ok xs k (by rw [hr.1]; exact hlt) HA.out)
    have HF := hide (all_fell TypeV.ok xs k (by rw [hr.1]; exact hlt))
    generalize xs.getD k default = q at hc HS HF
    have d0 : wr.cell? ⟨b, off + k * 7, none⟩ = some (.int .i64 q.id) := (hbel.cell (World.block_lt_of_cell? w _ (hc 0 (by omega)))).trans (hc 0 (by omega))
    have d1 : wr.cell? ⟨b, off + k * 7 + 1, none⟩ = some (.int .i64 q.wd) := (hbel.cell (World.block_lt_of_cell? w _ (hc 1 (by omega)))).trans (hc 1 (by omega))
    have d2 : wr.cell? ⟨b, off + k * 7 + 2, none⟩ = some (.int .i64 q.ht) := (hbel.cell (World.block_lt_of_cell? w _ (hc 2 (by omega)))).trans (hc 2 (by omega))
    have d3 : wr.cell? ⟨b, off + k * 7 + 3, none⟩ = some (.int .i64 q.dp) := (hbel.cell (World.block_lt_of_cell? w _ (hc 3 (by omega)))).trans (hc 3 (by omega))
    have d4 : wr.cell? ⟨b, off + k * 7 + 4, none⟩ = some (.int .i64 q.tare) := (hbel.cell (World.block_lt_of_cell? w _ (hc 4 (by omega)))).trans (hc 4 (by omega))
    have d5 : wr.cell? ⟨b, off + k * 7 + 5, none⟩ = some (.int .i64 q.gram) := (hbel.cell (World.block_lt_of_cell? w _ (hc 5 (by omega)))).trans (hc 5 (by omega))
    have d6 : wr.cell? ⟨b, off + k * 7 + 6, none⟩ = some (.int .i64 q.cost) := (hbel.cell (World.block_lt_of_cell? w _ (hc 6 (by omega)))).trans (hc 6 (by omega))
    have HB := hide hbel
    clear hc hr hbel HA
    go_wp2_with fail
    refine (typeOk_any _ _ _ _ _ _ _ _).mono ?_
    rintro e w2 ⟨rfl, hb2⟩
    have HB2 : Hid (Below w.heap.size w w2) := (HB.out.alloc HB.out.size _).trans (hb2.mono (by have := HB.out.size; simp; omega))
    clear hb2
    cases h1 : typeB q.id q.wd q.ht q.dp q.tare q.gram q.cost
    · have HF' := hide (unhide HF h1)
      go_wp2_with fail
      go_ret
      exact ⟨ret_bool (typesB_fell (unhide HF')).symm, unhide HB2⟩
    · have HS' := hide (unhide HS h1)
      go_wp2_with fail
      go_roundw
      case rel => exact ⟨k + 1, by omega, by go_num, unhide HS', unhide HB2⟩
      case measure => simp [intOf]; omega
  · have HW := hide (typesB_true (by rw [hr.1]; exact h16) (all_whole TypeV.ok xs k (by rw [hr.1]; omega) HA.out))
    go_wp2
    go_ret
    exact ⟨ret_bool HW.out.symm, hbel⟩

set_option maxHeartbeats 1000000 in
theorem itemsOk_any (a : Option Addr) (n c : Nat) (xs : List ItemV) (w : World) (hr : RdR ItemV.cells 7 w a n xs) (hn : n ≤ 1048576) :
 Calls Tryz.prog 109 #[.slice a n c] w fun e w' => e = .returned (.bool (itemsB xs)) ∧ Below w.heap.size w w' := by
 by_cases h16 : n ≤ 8
 case neg =>
  have HP := hide (itemsB_long (xs := xs) (by rw [hr.1]; exact h16))
  go_enter Tryz.func109, Tryz.ntmps109
  go_wp2
  go_ret
  exact ⟨ret_bool HP.out.symm, Below.refl _ _⟩
 go_enter Tryz.func109, Tryz.ntmps109
 go_wp2
 go_loopw [3, 11] (fun u i wr => ∃ k : Nat, k ≤ n ∧ i = .int .i64 k ∧ u = .int .i64 (cntSum (xs.take k)) ∧ (xs.take k).all ItemV.ok = true ∧ Below w.heap.size w wr) (fun _ i _ => n - (intOf i).toNat)
 case atStart => exact ⟨0, Nat.zero_le _, rfl, rfl, rfl, Below.refl _ _⟩
 case round =>
  obtain ⟨k, hk, rfl, rfl, hall, hbel⟩ := hrel
  obtain ⟨s0, s1⟩ := cntSum_bd _ hall
  have s2 : (xs.take k).length ≤ 8 := by rw [List.length_take]; omega
  have HA := hide hall
  clear hall
  by_cases hlt : k < n
  · obtain ⟨b, off, rfl, hc⟩ := hr.2 k hlt
    have HS := hide (all_step ItemV.ok xs k (by rw [hr.1]; exact hlt) HA.out)
    have HF := hide (all_fell ItemV.ok xs k (by rw [hr.1]; exact hlt))
    have HC := hide (cntSum_step xs k (by rw [hr.1]; exact hlt))
    have HQ := hide (fun h => item_cnt (q := xs.getD k default) h)
    generalize xs.getD k default = q at hc HS HF HC HQ
    generalize cntSum (xs.take k) = s at s0 s1 HC
    have d0 : wr.cell? ⟨b, off + k * 7, none⟩ = some (.int .i64 q.id) := (hbel.cell (World.block_lt_of_cell? w _ (hc 0 (by omega)))).trans (hc 0 (by omega))
    have d1 : wr.cell? ⟨b, off + k * 7 + 1, none⟩ = some (.int .i64 q.wd) := (hbel.cell (World.block_lt_of_cell? w _ (hc 1 (by omega)))).trans (hc 1 (by omega))
    have d2 : wr.cell? ⟨b, off + k * 7 + 2, none⟩ = some (.int .i64 q.ht) := (hbel.cell (World.block_lt_of_cell? w _ (hc 2 (by omega)))).trans (hc 2 (by omega))
    have d3 : wr.cell? ⟨b, off + k * 7 + 3, none⟩ = some (.int .i64 q.dp) := (hbel.cell (World.block_lt_of_cell? w _ (hc 3 (by omega)))).trans (hc 3 (by omega))
    have d4 : wr.cell? ⟨b, off + k * 7 + 4, none⟩ = some (.int .i64 q.gram) := (hbel.cell (World.block_lt_of_cell? w _ (hc 4 (by omega)))).trans (hc 4 (by omega))
    have d5 : wr.cell? ⟨b, off + k * 7 + 5, none⟩ = some (.int .i64 q.cls) := (hbel.cell (World.block_lt_of_cell? w _ (hc 5 (by omega)))).trans (hc 5 (by omega))
    have d6 : wr.cell? ⟨b, off + k * 7 + 6, none⟩ = some (.int .i64 q.cnt) := (hbel.cell (World.block_lt_of_cell? w _ (hc 6 (by omega)))).trans (hc 6 (by omega))
    have HB := hide hbel
    clear hc hr hbel HA
    go_wp2_with fail
    refine (itemOk_any _ _ _ _ _ _ _ _).mono ?_
    rintro e w2 ⟨rfl, hb2⟩
    have HB2 : Hid (Below w.heap.size w w2) := (HB.out.alloc HB.out.size _).trans (hb2.mono (by have := HB.out.size; simp; omega))
    have x6 := (Blk.below hb2 (by simp) (Blk.allocAt (ItemV.cells q) rfl) 6 (by simp [ItemV.cells])).1
    clear hb2
    cases h1 : itemB q.id q.wd q.ht q.dp q.gram q.cls q.cnt
    · have HF' := hide (unhide HF h1)
      go_wp2_with fail
      go_ret
      exact ⟨ret_bool (itemsB_fell (unhide HF')).symm, unhide HB2⟩
    · have HS' := hide (unhide HS h1)
      obtain ⟨c1, c2⟩ := unhide HQ h1
      have x6' : w2.cell? ⟨wr.heap.size, 6, none⟩ = some (.int .i64 q.cnt) := x6
      clear x6
      go_wp2_with fail
      go_roundw
      case rel => exact ⟨k + 1, by omega, by go_num, by rw [unhide HC], unhide HS', unhide HB2⟩
      case measure => simp [intOf]; omega
  · have HW := hide (itemsB_end (by rw [hr.1]; exact h16) (all_whole ItemV.ok xs k (by rw [hr.1]; omega) HA.out))
    rw [List.take_of_length_le (show xs.length ≤ k by rw [hr.1]; omega)]
    clear HA s0 s1
    generalize cntSum xs = s at HW
    go_wp2
    go_ret
    exact ⟨ret_bool HW.out.symm, hbel⟩

end Go.Proofs.YtcblpoeeembniabGreatDoor

/- BoundsOk of the program answers as the bounds say. -/
namespace Go.Proofs.YtcblpoeeembniabGreatDoor
open Go.RowKit
set_option linter.unusedVariables false

theorem boundsB_no {r : ReqV} (h : inB r.way 0 1 = false ∨ palletB r.pal.wd r.pal.dp r.pal.ht r.pal.gram = false ∨ inB r.classes 1 4 = false ∨ pairsB r.pairs = false ∨ typesB r.types = false ∨ inB r.master 0 999 = false ∨ itemsB r.items = false) : boundsB r = false := by
 rcases h with h | h | h | h | h | h | h <;> simp [boundsB, PalletV.ok, h]
theorem boundsB_yes {r : ReqV} (h1 : inB r.way 0 1 = true) (h2 : palletB r.pal.wd r.pal.dp r.pal.ht r.pal.gram = true) (h3 : inB r.classes 1 4 = true) (h4 : pairsB r.pairs = true) (h5 : typesB r.types = true) (h6 : inB r.master 0 999 = true) (h7 : itemsB r.items = true) : boundsB r = true := by
 simp [boundsB, PalletV.ok, h1, h2, h3, h4, h5, h6, h7]
set_option maxHeartbeats 1000000 in
theorem boundsOk_any (r : ReqV) (h : ReqH) (w : World) (hr : RdReq w r h) (hs : r.small) :
 Calls Tryz.prog 86 #[reqVal r h] w fun e w' => e = .returned (.bool (boundsB r)) ∧ Below w.heap.size w w' := by
 unfold ReqV.small at hs
 unfold reqVal
 go_enter Tryz.func86, Tryz.ntmps86
 go_wp2_with fail
 refine (within_any _ _ _ _).mono ?_
 rintro e w' ⟨rfl, hw⟩
 subst w'
 cases h1 : inB r.way 0 1
 · have HN := hide (boundsB_no (r := r) (.inl h1))
   go_wp2_with fail
   go_ret
   exact ⟨ret_bool HN.out.symm, (Below.refl _ _).alloc (Nat.le_refl _) _⟩
 go_wp2_with fail
 refine (palletOk_any _ _ _ _ _).mono ?_
 rintro e w1 ⟨rfl, hb1⟩
 have H1 : Hid (Below w.heap.size w w1) := ((Below.refl w.heap.size w).alloc (Nat.le_refl _) _).trans (hb1.mono (by simp))
 have z1 : w.heap.size < w1.heap.size := by have := hb1.size; simp at this; omega
 have A1 : Blk w1 w.heap.size [.int .i64 r.way, .int .i64 r.pal.wd, .int .i64 r.pal.dp, .int .i64 r.pal.ht, .int .i64 r.pal.gram, .int .i64 r.classes, .slice h.ap r.pairs.length h.cp, .slice h.at' r.types.length h.ct, .int .i64 r.master, .slice h.ai r.items.length h.ci] := Blk.below hb1 (by simp) (Blk.allocAt [.int .i64 r.way, .int .i64 r.pal.wd, .int .i64 r.pal.dp, .int .i64 r.pal.ht, .int .i64 r.pal.gram, .int .i64 r.classes, .slice h.ap r.pairs.length h.cp, .slice h.at' r.types.length h.ct, .int .i64 r.master, .slice h.ai r.items.length h.ci] rfl)
 obtain ⟨a1_0, a1_1, a1_2, a1_3, a1_4, a1_5, a1_6, a1_7, a1_8, a1_9⟩ := Blk.cs10 A1
 have HA1 := hide A1
 clear hb1 A1
 cases h2 : palletB r.pal.wd r.pal.dp r.pal.ht r.pal.gram
 · have HN := hide (boundsB_no (r := r) (.inr (.inl h2)))
   go_wp2_with fail
   go_ret
   exact ⟨ret_bool HN.out.symm, unhide H1⟩
 go_wp2_with fail
 refine (within_any _ _ _ _).mono ?_
 rintro e w' ⟨rfl, hw⟩
 subst w'
 cases h3 : inB r.classes 1 4
 · have HN := hide (boundsB_no (r := r) (.inr (.inr (.inl h3))))
   go_wp2_with fail
   go_ret
   exact ⟨ret_bool HN.out.symm, unhide H1⟩
 go_wp2_with fail
 refine (pairsOk_any _ _ _ r.pairs _ ?hq2 (by omega)).mono ?_
 case hq2 => exact (hr.mono H1.out).1
 rintro e w2 ⟨rfl, hb2⟩
 clear a1_0 a1_1 a1_2 a1_3 a1_4 a1_5 a1_6 a1_7 a1_8 a1_9
 have H2 : Hid (Below w.heap.size w w2) := H1.out.trans (hb2.mono H1.out.size)
 have z2 : w.heap.size < w2.heap.size := Nat.lt_of_lt_of_le z1 hb2.size
 have A2 := Blk.below hb2 (by omega) HA1.out
 obtain ⟨a2_0, a2_1, a2_2, a2_3, a2_4, a2_5, a2_6, a2_7, a2_8, a2_9⟩ := Blk.cs10 A2
 have HA2 := hide A2
 clear hb2 A2 HA1 H1
 cases h4 : pairsB r.pairs
 · have HN := hide (boundsB_no (r := r) (.inr (.inr (.inr (.inl h4)))))
   go_wp2_with fail
   go_ret
   exact ⟨ret_bool HN.out.symm, unhide H2⟩
 go_wp2_with fail
 refine (typesOk_any _ _ _ r.types _ ?hq3 (by omega)).mono ?_
 case hq3 => exact (hr.mono H2.out).2.1
 rintro e w3 ⟨rfl, hb3⟩
 clear a2_0 a2_1 a2_2 a2_3 a2_4 a2_5 a2_6 a2_7 a2_8 a2_9
 have H3 : Hid (Below w.heap.size w w3) := H2.out.trans (hb3.mono H2.out.size)
 have z3 : w.heap.size < w3.heap.size := Nat.lt_of_lt_of_le z2 hb3.size
 have A3 := Blk.below hb3 (by omega) HA2.out
 obtain ⟨a3_0, a3_1, a3_2, a3_3, a3_4, a3_5, a3_6, a3_7, a3_8, a3_9⟩ := Blk.cs10 A3
 have HA3 := hide A3
 clear hb3 A3 HA2 H2
 cases h5 : typesB r.types
 · have HN := hide (boundsB_no (r := r) (.inr (.inr (.inr (.inr (.inl h5))))))
   go_wp2_with fail
   go_ret
   exact ⟨ret_bool HN.out.symm, unhide H3⟩
 go_wp2_with fail
 refine (within_any _ _ _ _).mono ?_
 rintro e w' ⟨rfl, hw⟩
 subst w'
 cases h6 : inB r.master 0 999
 · have HN := hide (boundsB_no (r := r) (.inr (.inr (.inr (.inr (.inr (.inl h6)))))))
   go_wp2_with fail
   go_ret
   exact ⟨ret_bool HN.out.symm, unhide H3⟩
 go_wp2_with fail
 refine (itemsOk_any _ _ _ r.items _ ?hq4 (by omega)).mono ?_
 case hq4 => exact (hr.mono H3.out).2.2
 rintro e w4 ⟨rfl, hb4⟩
 clear a3_0 a3_1 a3_2 a3_3 a3_4 a3_5 a3_6 a3_7 a3_8 a3_9
 have H4 : Hid (Below w.heap.size w w4) := H3.out.trans (hb4.mono H3.out.size)
 have z4 : w.heap.size < w4.heap.size := Nat.lt_of_lt_of_le z3 hb4.size
 have A4 := Blk.below hb4 (by omega) HA3.out
 obtain ⟨a4_0, a4_1, a4_2, a4_3, a4_4, a4_5, a4_6, a4_7, a4_8, a4_9⟩ := Blk.cs10 A4
 have HA4 := hide A4
 clear hb4 A4 HA3 H3
 cases h7 : itemsB r.items
 · have HN := hide (boundsB_no (r := r) (.inr (.inr (.inr (.inr (.inr (.inr (h7))))))))
   go_wp2_with fail
   go_ret
   exact ⟨ret_bool HN.out.symm, unhide H4⟩
 have HN := hide (boundsB_yes h1 h2 h3 h4 h5 h6 h7)
 go_wp2_with fail
 go_ret
 exact ⟨ret_bool HN.out.symm, unhide H4⟩
end Go.Proofs.YtcblpoeeembniabGreatDoor

/- BoundsOk of the model answers as the bounds say. -/
namespace Go.Proofs.YtcblpoeeembniabGreatDoor
open Go.RowKit
set_option linter.unusedVariables false
set_option maxHeartbeats 2000000 in
theorem specBoundsOk_any (r : ReqV) (h : ReqH) (w : World) (hr : RdReq w r h) (hs : r.small) :
 Calls Tryz.prog 48 #[reqVal r h] w fun e w' => e = .returned (.bool (boundsB r)) ∧ Below w.heap.size w w' := by
 unfold ReqV.small at hs
 unfold reqVal
 go_enter Tryz.func48, Tryz.ntmps48
 go_wp2_with fail
 refine (l1In_any _ _ _ _).mono ?_
 rintro e w' ⟨rfl, hw⟩
 subst w'
 cases h1 : inB r.way 0 1
 · have HN := hide (boundsB_no (r := r) (.inl h1))
   go_wp2_with fail
   go_ret
   exact ⟨ret_bool HN.out.symm, (Below.refl _ _).alloc (Nat.le_refl _) _⟩
 go_wp2_with fail
 refine (specPalletOk_any _ _ _ _ _).mono ?_
 rintro e w1 ⟨rfl, hb1⟩
 have H1 : Hid (Below w.heap.size w w1) := ((Below.refl w.heap.size w).alloc (Nat.le_refl _) _).trans (hb1.mono (by simp))
 have z1 : w.heap.size < w1.heap.size := by have := hb1.size; simp at this; omega
 have A1 : Blk w1 w.heap.size [.int .i64 r.way, .int .i64 r.pal.wd, .int .i64 r.pal.dp, .int .i64 r.pal.ht, .int .i64 r.pal.gram, .int .i64 r.classes, .slice h.ap r.pairs.length h.cp, .slice h.at' r.types.length h.ct, .int .i64 r.master, .slice h.ai r.items.length h.ci] := Blk.below hb1 (by simp) (Blk.allocAt [.int .i64 r.way, .int .i64 r.pal.wd, .int .i64 r.pal.dp, .int .i64 r.pal.ht, .int .i64 r.pal.gram, .int .i64 r.classes, .slice h.ap r.pairs.length h.cp, .slice h.at' r.types.length h.ct, .int .i64 r.master, .slice h.ai r.items.length h.ci] rfl)
 obtain ⟨a1_0, a1_1, a1_2, a1_3, a1_4, a1_5, a1_6, a1_7, a1_8, a1_9⟩ := Blk.cs10 A1
 have HA1 := hide A1
 clear hb1 A1
 cases h2 : palletB r.pal.wd r.pal.dp r.pal.ht r.pal.gram
 · have HN := hide (boundsB_no (r := r) (.inr (.inl h2)))
   go_wp2_with fail
   go_ret
   exact ⟨ret_bool HN.out.symm, unhide H1⟩
 go_wp2_with fail
 refine (l1In_any _ _ _ _).mono ?_
 rintro e w' ⟨rfl, hw⟩
 subst w'
 cases h3 : inB r.classes 1 4
 · have HN := hide (boundsB_no (r := r) (.inr (.inr (.inl h3))))
   go_wp2_with fail
   go_ret
   exact ⟨ret_bool HN.out.symm, unhide H1⟩
 by_cases h4 : r.pairs.length ≤ 16
 case neg =>
  have HN := hide (boundsB_no (r := r) (.inr (.inr (.inr (.inl (pairsB_long h4))))))
  go_wp2_with fail
  go_ret
  exact ⟨ret_bool HN.out.symm, unhide H1⟩
 go_wp2_with fail
 refine (l1In_any _ _ _ _).mono ?_
 rintro e w' ⟨rfl, hw⟩
 subst w'
 cases h5 : inB r.types.length 1 5
 · have HN := hide (boundsB_no (r := r) (.inr (.inr (.inr (.inr (.inl (typesB_long h5)))))))
   go_wp2_with fail
   go_ret
   exact ⟨ret_bool HN.out.symm, unhide H1⟩
 go_wp2_with fail
 refine (l2Id_any _ _).mono ?_
 rintro e w' ⟨rfl, hw⟩
 subst w'
 cases h6 : inB r.master 0 999
 · have HN := hide (boundsB_no (r := r) (.inr (.inr (.inr (.inr (.inr (.inl h6)))))))
   go_wp2_with fail
   go_ret
   exact ⟨ret_bool HN.out.symm, unhide H1⟩
 by_cases h7 : r.items.length ≤ 8
 case neg =>
  have HN := hide (boundsB_no (r := r) (.inr (.inr (.inr (.inr (.inr (.inr (itemsB_long h7))))))))
  go_wp2_with fail
  go_ret
  exact ⟨ret_bool HN.out.symm, unhide H1⟩
 go_wp2_with fail
 go_loopw [3] (fun i wr => ∃ k : Nat, k ≤ r.pairs.length ∧ i = .int .i64 k ∧ (r.pairs.take k).all pairB = true ∧ Blk wr w.heap.size [.int .i64 r.way, .int .i64 r.pal.wd, .int .i64 r.pal.dp, .int .i64 r.pal.ht, .int .i64 r.pal.gram, .int .i64 r.classes, .slice h.ap r.pairs.length h.cp, .slice h.at' r.types.length h.ct, .int .i64 r.master, .slice h.ai r.items.length h.ci] ∧ w.heap.size < wr.heap.size ∧ Below w.heap.size w wr) (fun i _ => r.pairs.length - (intOf i).toNat)
 case atStart => exact ⟨0, Nat.zero_le _, rfl, rfl, unhide HA1, z1, unhide H1⟩
 case round =>
  clear a1_0 a1_1 a1_2 a1_3 a1_4 a1_5 a1_6 a1_7 a1_8 a1_9 HA1 H1
  obtain ⟨k, hk, rfl, hall, hblk, hz, hbel⟩ := hrel
  have HA := hide hall
  have HK := hide hblk
  have b6 : wr.cell? ⟨w.heap.size, 6, none⟩ = some (.slice h.ap r.pairs.length h.cp) := (hblk 6 (by simp)).1
  have b7 : wr.cell? ⟨w.heap.size, 7, none⟩ = some (.slice h.at' r.types.length h.ct) := (hblk 7 (by simp)).1
  have b9 : wr.cell? ⟨w.heap.size, 9, none⟩ = some (.slice h.ai r.items.length h.ci) := (hblk 9 (by simp)).1
  have HB := hide hbel
  have hq := (hr.mono hbel).1
  clear hall hblk hbel
  by_cases hlt : k < r.pairs.length
  · obtain ⟨b, off, hap, hc⟩ := hq.2 k hlt
    have HS := hide (all_step pairB r.pairs k hlt HA.out)
    have HF := hide (all_fell pairB r.pairs k hlt)
    generalize r.pairs.getD k default = q at hc HS HF
    have d0 : wr.cell? ⟨b, off + k * 2, none⟩ = some (.int .i64 q.a) := hc 0 (by omega)
    have d1 : wr.cell? ⟨b, off + k * 2 + 1, none⟩ = some (.int .i64 q.b) := hc 1 (by omega)
    rw [hap] at b6
    have HAP := hide hap
    clear hc hq HA hap
    cases g1 : inB q.a 0 3
    · have HF' := hide (boundsB_no (r := r) (.inr (.inr (.inr (.inl (pairsB_fell (unhide HF (by simp [pairB, g1]))))))))
      clear HF HS
      go_wp2_with ((go_at_call 77; refine (l1In_any _ _ _ _).mono ?_; rintro e w' ⟨rfl, hw⟩; subst w'))
      go_ret
      exact ⟨ret_bool (unhide HF').symm, unhide HB⟩
    cases g2 : inB q.b 0 3
    · have HF' := hide (boundsB_no (r := r) (.inr (.inr (.inr (.inl (pairsB_fell (unhide HF (by simp [pairB, g2]))))))))
      clear HF HS
      go_wp2_with ((go_at_call 77; refine (l1In_any _ _ _ _).mono ?_; rintro e w' ⟨rfl, hw⟩; subst w'))
      go_ret
      exact ⟨ret_bool (unhide HF').symm, unhide HB⟩
    have HS' := hide (unhide HS (by simp [pairB, g1, g2]))
    clear HF HS
    go_wp2_with ((go_at_call 77; refine (l1In_any _ _ _ _).mono ?_; rintro e w' ⟨rfl, hw⟩; subst w'))
    go_roundw
    case rel => exact ⟨k + 1, by omega, by go_num, unhide HS', unhide HK, hz, unhide HB⟩
    case measure => simp [intOf]; omega
  have HP := hide (pairsB_true h4 (all_whole pairB r.pairs k (by omega) HA.out))
  clear hq HA
  go_wp2_with fail
  go_loopw [4] (fun i wr => ∃ k : Nat, k ≤ r.types.length ∧ i = .int .i64 k ∧ (r.types.take k).all TypeV.ok = true ∧ Blk wr w.heap.size [.int .i64 r.way, .int .i64 r.pal.wd, .int .i64 r.pal.dp, .int .i64 r.pal.ht, .int .i64 r.pal.gram, .int .i64 r.classes, .slice h.ap r.pairs.length h.cp, .slice h.at' r.types.length h.ct, .int .i64 r.master, .slice h.ai r.items.length h.ci] ∧ w.heap.size < wr.heap.size ∧ Below w.heap.size w wr) (fun i _ => r.types.length - (intOf i).toNat)
  case atStart => exact ⟨0, Nat.zero_le _, rfl, rfl, unhide HK, hz, unhide HB⟩
  case round =>
   clear b6 b7 b9 HK HB hz
   obtain ⟨k2, hk2, rfl, hall, hblk, hz, hbel⟩ := hrel
   have HA := hide hall
   have HK := hide hblk
   have b7 : wr.cell? ⟨w.heap.size, 7, none⟩ = some (.slice h.at' r.types.length h.ct) := (hblk 7 (by simp)).1
   have b9 : wr.cell? ⟨w.heap.size, 9, none⟩ = some (.slice h.ai r.items.length h.ci) := (hblk 9 (by simp)).1
   have HB := hide hbel
   have hq := (hr.mono hbel).2.1
   clear hall hblk hbel
   by_cases hlt2 : k2 < r.types.length
   · obtain ⟨b, off, hap, hc⟩ := hq.2 k2 hlt2
     have HS := hide (all_step TypeV.ok r.types k2 hlt2 HA.out)
     have HF := hide (all_fell TypeV.ok r.types k2 hlt2)
     generalize r.types.getD k2 default = q at hc HS HF
     have d0 : wr.cell? ⟨b, off + k2 * 7, none⟩ = some (.int .i64 q.id) := hc 0 (by omega)
     have d1 : wr.cell? ⟨b, off + k2 * 7 + 1, none⟩ = some (.int .i64 q.wd) := hc 1 (by omega)
     have d2 : wr.cell? ⟨b, off + k2 * 7 + 2, none⟩ = some (.int .i64 q.ht) := hc 2 (by omega)
     have d3 : wr.cell? ⟨b, off + k2 * 7 + 3, none⟩ = some (.int .i64 q.dp) := hc 3 (by omega)
     have d4 : wr.cell? ⟨b, off + k2 * 7 + 4, none⟩ = some (.int .i64 q.tare) := hc 4 (by omega)
     have d5 : wr.cell? ⟨b, off + k2 * 7 + 5, none⟩ = some (.int .i64 q.gram) := hc 5 (by omega)
     have d6 : wr.cell? ⟨b, off + k2 * 7 + 6, none⟩ = some (.int .i64 q.cost) := hc 6 (by omega)
     rw [hap] at b7
     clear hc hq HA hap
     go_wp2_with fail
     refine (specTypeOk_any _ _ _ _ _ _ _ _).mono ?_
     rintro e w2 ⟨rfl, hb2⟩
     have HB2 : Hid (Below w.heap.size w w2) := HB.out.trans (hb2.mono HB.out.size)
     have HK2 := hide (Blk.below hb2 hz HK.out)
     have z2 := Nat.lt_of_lt_of_le hz hb2.size
     clear hb2 HB HK
     cases g1 : typeB q.id q.wd q.ht q.dp q.tare q.gram q.cost
     · have HF' := hide (boundsB_no (r := r) (.inr (.inr (.inr (.inr (.inl (typesB_fell (unhide HF g1))))))))
       go_wp2_with fail
       go_ret
       exact ⟨ret_bool (unhide HF').symm, unhide HB2⟩
     · have HS' := hide (unhide HS g1)
       go_wp2_with fail
       go_roundw
       case rel => exact ⟨k2 + 1, by omega, by go_num, unhide HS', unhide HK2, z2, unhide HB2⟩
       case measure => simp [intOf]; omega
   have HT := hide (typesB_true h5 (all_whole TypeV.ok r.types k2 (by omega) HA.out))
   clear hq HA
   go_wp2_with fail
   go_loopw [5, 6] (fun u i wr => ∃ k : Nat, k ≤ r.items.length ∧ i = .int .i64 k ∧ u = .int .i64 (cntSum (r.items.take k)) ∧ (r.items.take k).all ItemV.ok = true ∧ Blk wr w.heap.size [.int .i64 r.way, .int .i64 r.pal.wd, .int .i64 r.pal.dp, .int .i64 r.pal.ht, .int .i64 r.pal.gram, .int .i64 r.classes, .slice h.ap r.pairs.length h.cp, .slice h.at' r.types.length h.ct, .int .i64 r.master, .slice h.ai r.items.length h.ci] ∧ w.heap.size < wr.heap.size ∧ Below w.heap.size w wr) (fun _ i _ => r.items.length - (intOf i).toNat)
   case atStart => exact ⟨0, Nat.zero_le _, rfl, rfl, rfl, unhide HK, hz, unhide HB⟩
   case round =>
    clear b7 b9 HK HB hz
    obtain ⟨k3, hk3, rfl, rfl, hall, hblk, hz, hbel⟩ := hrel
    obtain ⟨s0, s1⟩ := cntSum_bd _ hall
    have s2 : (r.items.take k3).length ≤ 8 := by rw [List.length_take]; omega
    have HA := hide hall
    have HK := hide hblk
    have b9 : wr.cell? ⟨w.heap.size, 9, none⟩ = some (.slice h.ai r.items.length h.ci) := (hblk 9 (by simp)).1
    have HB := hide hbel
    have hq := (hr.mono hbel).2.2
    clear hall hblk hbel
    by_cases hlt3 : k3 < r.items.length
    · obtain ⟨b, off, hap, hc⟩ := hq.2 k3 hlt3
      have hqb := RdR.lt (by omega) ItemV.len (hap ▸ hq) (by omega)
      have HS := hide (all_step ItemV.ok r.items k3 hlt3 HA.out)
      have HF := hide (all_fell ItemV.ok r.items k3 hlt3)
      have HC := hide (cntSum_step r.items k3 hlt3)
      have HQ := hide (fun hh => item_cnt (q := r.items.getD k3 default) hh)
      generalize r.items.getD k3 default = q at hc HS HF HC HQ
      generalize cntSum (r.items.take k3) = s at s0 s1 HC
      have d0 : wr.cell? ⟨b, off + k3 * 7, none⟩ = some (.int .i64 q.id) := hc 0 (by omega)
      have d1 : wr.cell? ⟨b, off + k3 * 7 + 1, none⟩ = some (.int .i64 q.wd) := hc 1 (by omega)
      have d2 : wr.cell? ⟨b, off + k3 * 7 + 2, none⟩ = some (.int .i64 q.ht) := hc 2 (by omega)
      have d3 : wr.cell? ⟨b, off + k3 * 7 + 3, none⟩ = some (.int .i64 q.dp) := hc 3 (by omega)
      have d4 : wr.cell? ⟨b, off + k3 * 7 + 4, none⟩ = some (.int .i64 q.gram) := hc 4 (by omega)
      have d5 : wr.cell? ⟨b, off + k3 * 7 + 5, none⟩ = some (.int .i64 q.cls) := hc 5 (by omega)
      have d6 : wr.cell? ⟨b, off + k3 * 7 + 6, none⟩ = some (.int .i64 q.cnt) := hc 6 (by omega)
      rw [hap] at b9
      clear hc hq HA hap
      go_wp2_with fail
      refine (specItemOk_any _ _ _ _ _ _ _ _).mono ?_
      rintro e w2 ⟨rfl, hb2⟩
      have HB2 : Hid (Below w.heap.size w w2) := HB.out.trans (hb2.mono HB.out.size)
      have HK2 := hide (Blk.below hb2 hz HK.out)
      have z2 := Nat.lt_of_lt_of_le hz hb2.size
      have c6 : w2.cell? ⟨b, off + k3 * 7 + 6, none⟩ = some (.int .i64 q.cnt) := (hb2.cell (p := ⟨b, off + k3 * 7 + 6, none⟩) hqb).trans d6
      have c9 : w2.cell? ⟨w.heap.size, 9, none⟩ = some (.slice (some ⟨b, off, none⟩) r.items.length h.ci) := (hb2.cell (p := ⟨w.heap.size, 9, none⟩) hz).trans b9
      clear hb2 HB HK
      cases g1 : itemB q.id q.wd q.ht q.dp q.gram q.cls q.cnt
      · have HF' := hide (boundsB_no (r := r) (.inr (.inr (.inr (.inr (.inr (.inr (itemsB_fell (unhide HF g1)))))))))
        go_wp2_with fail
        go_ret
        exact ⟨ret_bool (unhide HF').symm, unhide HB2⟩
      · have HS' := hide (unhide HS g1)
        obtain ⟨c1, c2⟩ := unhide HQ g1
        go_wp2_with fail
        go_roundw
        case rel => exact ⟨k3 + 1, by omega, by go_num, by rw [unhide HC], unhide HS', unhide HK2, z2, unhide HB2⟩
        case measure => simp [intOf]; omega
    have HI := hide (itemsB_end h7 (all_whole ItemV.ok r.items k3 (by omega) HA.out))
    have HE : Hid (boundsB r = decide (cntSum r.items ≤ 12)) := by
     show _ = _
     rw [← unhide HI]
     simp [boundsB, PalletV.ok, h1, h2, h3, unhide HP, unhide HT, h6]
    rw [List.take_of_length_le (show r.items.length ≤ k3 by omega)]
    clear HA s0 s1 HI
    generalize cntSum r.items = s at HE
    go_wp2_with fail
    go_ret
    exact ⟨ret_bool HE.out.symm, unhide HB⟩
end Go.Proofs.YtcblpoeeembniabGreatDoor
