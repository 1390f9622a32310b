/- GroupsOf of the program and of the model. -/
import Derived.Test.YtcblpoeeembniabGreatDoorPresImpl
import Derived.Test.YtcblpoeeembniabGreatDoorSpecPres
import Derived.Test.YtcblpoeeembniabGreatDoorPkE
import Derived.Deep.DeepMust
namespace Go.Proofs.YtcblpoeeembniabGreatDoor
open Go.RowKit
set_option linter.unusedVariables false

theorem totR_bnd4 {k : Nat} : ∀ (xs : List RowV), (∀ g ∈ xs.map RowV.l, g.length ≤ k) → totR xs ≤ k * xs.length
 | [], _ => by simp [totR]
 | r :: xs, h => by
  have h1 := totR_bnd4 xs (fun g hg => h g (by simp only [List.map_cons, List.mem_cons]; exact Or.inr hg))
  have h2 := h r.l (by simp)
  have e : totR (r :: xs) = r.l.length + totR xs := by simp [totR]
  rw [e, List.length_cons, Nat.mul_succ]
  omega
theorem groups_small4 {ps : List PairV} {l : List Int} {xs : List RowV} (h : xs.map RowV.l = groupsL ps l) : xs.length ≤ 4 ∧ totR xs ≤ 16 ∧ ∀ i, i < xs.length → ((groupsL ps l).getD i []).length ≤ 4 := by
 have hb := groupsTo_bnd ps l 4 (Nat.le_refl _)
 rw [groupsTo_four, ← h] at hb
 have h1 : xs.length ≤ 4 := by have := hb.1; simpa using this
 have h2 := totR_bnd4 xs hb.2
 refine ⟨h1, by omega, fun i hi => ?_⟩
 rw [← h]
 exact hb.row i (by simpa using hi)
theorem groupsR_len (r : ReqV) : (groupsR r).length ≤ 4 := by
 have hb := groupsTo_bnd r.pairs (presentR r) 4 (Nat.le_refl _)
 rw [groupsTo_four] at hb
 exact hb.1
theorem groupsR_row (r : ReqV) (k : Nat) (hk : k < (groupsR r).length) : ((groupsR r).getD k []).length ≤ 4 := by
 have hb := groupsTo_bnd r.pairs (presentR r) 4 (Nat.le_refl _)
 rw [groupsTo_four] at hb
 exact hb.row k hk


set_option maxRecDepth 100000 in
set_option maxHeartbeats 4000000 in
theorem specGroupsOf_any (r : ReqV) (h : ReqH) (w : World) (hr : RdReq w r h) (hs : r.small) :
 Calls Tryz.prog 119 #[reqVal r h] w fun e w' => ∃ g cap xs, e = .returned (.slice (some ⟨g, 0, none⟩) xs.length cap) ∧ Own2 w' w.heap.size g cap xs ∧ xs.map RowV.l = groupsR r ∧ Below w.heap.size w w' := by
 have hpl : r.pairs.length ≤ 1048600 := by unfold ReqV.small at hs; omega
 have hp4 : (presentR r).length ≤ 4 := presentL_len _
 unfold reqVal
 go_enter Tryz.func119, Tryz.ntmps119
 go_wp2_with fail
 generalize hW : (w.alloc (.cells #[.int .i64 r.way, .int .i64 r.pal.wd, .int .i64 r.pal.dp, .int .i64 r.pal.ht, .int .i64 r.pal.gram, .int .i64 r.classes, .slice h.ap r.pairs.length h.cp, .slice h.at' r.types.length h.ct, .int .i64 r.master, .slice h.ai r.items.length h.ci] 41)) = w1 at *
 obtain ⟨hb, Kaw1, zaw1⟩ := en1 hW
 have hb := unhide hb
 have Hw1 : Hid (Below w.heap.size w w1) := hb
 clear hb hW
 have Qrw1 : Hid (RdReq w1 r h) := hr.mono Hw1.out
 obtain ⟨aw1_0, aw1_1, aw1_2, aw1_3, aw1_4, aw1_5, aw1_6, aw1_7, aw1_8, aw1_9⟩ := Blk.cs10 Kaw1.out
 have DA : Hid (Blk w1.drew w.heap.size [.int .i64 r.way, .int .i64 r.pal.wd, .int .i64 r.pal.dp, .int .i64 r.pal.ht, .int .i64 r.pal.gram, .int .i64 r.classes, .slice h.ap r.pairs.length h.cp, .slice h.at' r.types.length h.ct, .int .i64 r.master, .slice h.ai r.items.length h.ci]) := unhide Kaw1
 have DQ : Hid (RdReq w1.drew r h) := Qrw1.out.mono (Below.refl _ _).drew
 have DB : Hid (Below w.heap.size w w1.drew) := Hw1.out.drew
 go_region_with (first
  | (go_at_call 135; go_must (refine (specPresent_any r h _ (by exact unhide DQ) hs).mono ?_; rintro e u1 ⟨g1, cap1, rfl, ho, hb⟩; have B1 := hide hb; have O1 := hide ho; have X1 := Blk.below hb (by exact zaw1) DA.out; have y6 : u1.cell? ⟨w.heap.size, 6, none⟩ = some (.slice h.ap r.pairs.length h.cp) := (X1 6 (by simp)).1; clear hb X1 ho))
  | (go_at_call 134; go_must (refine (specGroups_any _ _ _ r.pairs _ _ _ (presentR r) _ (by exact (DQ.out.mono B1.out).1) (by exact Rd.of_owns O1.out) (by omega) (by omega)).mono ?_; rintro e u2 ⟨g2, cap2, xs, rfl, ho, hx, hb⟩; have B2 := hide hb; have O2 := hide ho; have HX := hide hx; clear hb ho hx)))
 all_goals
  go_wp2
  go_ret
  have b0 := DB.out.size
  have b1 := B1.out.size
  exact ⟨g2, cap2, xs, rfl, O2.out.low (by omega), unhide HX, (DB.out.trans (B1.out.mono b0)).trans (B2.out.mono (Nat.le_trans b0 b1))⟩
end Go.Proofs.YtcblpoeeembniabGreatDoor
