/- itemOf of the program. -/
import Derived.Test.YtcblpoeeembniabGreatDoorEachUnit
namespace Go.Proofs.YtcblpoeeembniabGreatDoor
open Go.RowKit Go.Shelf
set_option linter.unusedVariables false
attribute [local go_sem] Oper.semAt_some

def itemVal (q : ItemV) : Value := .agg #[.int .i64 q.id, .int .i64 q.wd, .int .i64 q.ht, .int .i64 q.dp, .int .i64 q.gram, .int .i64 q.cls, .int .i64 q.cnt]
theorem blk_kept {W W' : World} {row : Option Nat} {g : Nat} {cs : List Value} (h : Blk W g cs) (hg : W.grownBy W' row) (hr : ∀ r, row = some r → ∃ o : Obj, W.heap[r]? = some o ∧ o.isCells = false) : Blk W' g cs := fun i hi => by
 have h1 := h i hi
 rw [List.getElem?_eq_getElem hi] at h1 ⊢
 exact ⟨cell_kept h1.1 hg hr, (frozen_kept h1.1 hg hr).trans h1.2⟩
theorem blk_own {β : Type} (g : Nat) (cs : List Value) : Own (fun (_ : β) W => Blk W g cs) := fun _ _ _ _ h hg hr => blk_kept h hg hr
theorem place_in {xs : List ItemV} (x : UnitOf xs) : ∃ p : Nat, placeOf xs x.val = p ∧ p < xs.length := by
 obtain ⟨i, e, hi⟩ := unitsL_lt xs x.val x.2
 exact ⟨i, e, hi⟩
theorem item_of_unit {xs : List ItemV} (x : UnitOf xs) {p : Nat} (hp : placeOf xs x.val = p) : itemAt xs ((x.val : Nat) : Int) = xs.getD p default := itemAt_in x.2 hp
theorem keeps7 (w : World) (g : Nat) (a b c d e f h : Value) : KeepsOthers w (((((((w.setCell ⟨g, 0, none⟩ a).setCell ⟨g, 1, none⟩ b).setCell ⟨g, 2, none⟩ c).setCell ⟨g, 3, none⟩ d).setCell ⟨g, 4, none⟩ e).setCell ⟨g, 5, none⟩ f).setCell ⟨g, 6, none⟩ h) :=
 ((((((KeepsOthers.setCell _ _ _).trans (KeepsOthers.setCell _ _ _)).trans (KeepsOthers.setCell _ _ _)).trans (KeepsOthers.setCell _ _ _)).trans (KeepsOthers.setCell _ _ _)).trans (KeepsOthers.setCell _ _ _)).trans (KeepsOthers.setCell _ _ _)
theorem below7 {B : Nat} {W w : World} {g : Nat} (hb : Below B W w) (hg : B ≤ g) (a b c d e f h : Value) : Below B W (((((((w.setCell ⟨g, 0, none⟩ a).setCell ⟨g, 1, none⟩ b).setCell ⟨g, 2, none⟩ c).setCell ⟨g, 3, none⟩ d).setCell ⟨g, 4, none⟩ e).setCell ⟨g, 5, none⟩ f).setCell ⟨g, 6, none⟩ h) :=
 ((((((hb.setCell (p := ⟨g, 0, none⟩) hg _).setCell (p := ⟨g, 1, none⟩) hg _).setCell (p := ⟨g, 2, none⟩) hg _).setCell (p := ⟨g, 3, none⟩) hg _).setCell (p := ⟨g, 4, none⟩) hg _).setCell (p := ⟨g, 5, none⟩) hg _).setCell (p := ⟨g, 6, none⟩) hg _
theorem come_has {xs : List ItemV} {ys : List (UnitOf xs)} (h : Come xs (unitsL xs).length ys) {v : Nat} (hv : v < (unitsL xs).length) : ∃ x ∈ ys, x.val = v := by
 have : v ∈ ys.map Fin.val := by rw [h]; exact List.mem_range.2 hv
 obtain ⟨x, hx, e⟩ := List.mem_map.1 this
 exact ⟨x, hx, e⟩
theorem itemAt_none {xs : List ItemV} {u : Int} {ys : List (UnitOf xs)} (h : Come xs (unitsL xs).length ys) (hne : ∀ x ∈ ys, ((x.val : Nat) : Int) ≠ u) : itemAt xs u = zeroItem := by
 refine itemAt_out ?_
 cases hb : inB u 0 ((unitsL xs).length - 1)
 · rfl
 · exfalso
   rw [inB_iff] at hb
   obtain ⟨x, hx, e⟩ := come_has h (v := u.toNat) (by omega)
   exact hne x hx (by omega)
theorem cells_of_blk {W : World} {D g : Nat} {cs : List Value} (h : Blk W g cs) (hK : W.heap[D]? = some (.deferred (some []))) : Blk (W.putObj D (.deferred none)) g cs :=
 blk_kept h (grownBy_putObj' _ D (.deferred none)) (fun r e => by cases e; exact ⟨_, hK, rfl⟩)

set_option maxRecDepth 100000 in
set_option maxHeartbeats 4000000 in
theorem itemOf_any (a : Option Addr) (n c : Nat) (xs : List ItemV) (u : Int) (w : World) (hgd : Good xs) (hr : RdR ItemV.cells 7 w a n xs) :
 Calls Tryz.prog 92 #[.slice a n c, .int .i64 u] w fun e w' => e = .returned (itemVal (itemAt xs u)) ∧ Below w.heap.size w w' := by
 have hlt := rdr_lt (by omega) ItemV.len hr
 have hlen := hr.1
 have hm8 := hgd.len
 have hN : (unitsL xs).length ≤ 12 := hgd.units
 have HRD := hide hr
 have HLT := hide hlt
 have HGD := hide hgd
 have HLEN := hide hlen
 clear hr hlt hgd hlen
 refine (callsIn_wide (n := 3)).1 ?_
 refine callsIn_of_wp_marks Tryz.func92 rfl trivial ?_ rfl
 simp only [Tryz.ntmps92, List.size_toArray, List.length_cons, List.length_nil, Nat.reduceAdd, Nat.reduceSub, Array.replicate_succ, Array.replicate_zero, List.push_toArray, List.append_toArray, List.nil_append, List.cons_append]
 gi_wp2_with fail
 have s3 : Blk (((w.alloc (.cells #[.slice a n c] 39)).alloc (.cells #[.int .i64 u] 3)).alloc (.cells #[.int .i64 0, .int .i64 0, .int .i64 0, .int .i64 0, .int .i64 0, .int .i64 0, .int .i64 0] 89)) w.heap.size [.slice a n c] := ((Blk.allocAt [.slice a n c] rfl).allocOld (by simp) _).allocOld (by simp; omega) _
 have u3 : Blk (((w.alloc (.cells #[.slice a n c] 39)).alloc (.cells #[.int .i64 u] 3)).alloc (.cells #[.int .i64 0, .int .i64 0, .int .i64 0, .int .i64 0, .int .i64 0, .int .i64 0, .int .i64 0] 89)) (w.heap.size + 1) [.int .i64 u] := (Blk.allocAt [.int .i64 u] (by simp)).allocOld (by simp) _
 have r3 : Blk (((w.alloc (.cells #[.slice a n c] 39)).alloc (.cells #[.int .i64 u] 3)).alloc (.cells #[.int .i64 0, .int .i64 0, .int .i64 0, .int .i64 0, .int .i64 0, .int .i64 0, .int .i64 0] 89)) (w.heap.size + 1 + 1) [.int .i64 0, .int .i64 0, .int .i64 0, .int .i64 0, .int .i64 0, .int .i64 0, .int .i64 0] := Blk.allocAt [.int .i64 0, .int .i64 0, .int .i64 0, .int .i64 0, .int .i64 0, .int .i64 0, .int .i64 0] (by simp)
 have h3 : Below w.heap.size w (((w.alloc (.cells #[.slice a n c] 39)).alloc (.cells #[.int .i64 u] 3)).alloc (.cells #[.int .i64 0, .int .i64 0, .int .i64 0, .int .i64 0, .int .i64 0, .int .i64 0, .int .i64 0] 89)) := (((Below.refl _ _).alloc (Nat.le_refl _) _).alloc (by simp) _).alloc (by simp; omega) _
 have z3 : w.heap.size + 1 + 1 < (((w.alloc (.cells #[.slice a n c] 39)).alloc (.cells #[.int .i64 u] 3)).alloc (.cells #[.int .i64 0, .int .i64 0, .int .i64 0, .int .i64 0, .int .i64 0, .int .i64 0, .int .i64 0] 89)).heap.size := by simp
 generalize (((w.alloc (.cells #[.slice a n c] 39)).alloc (.cells #[.int .i64 u] 3)).alloc (.cells #[.int .i64 0, .int .i64 0, .int .i64 0, .int .i64 0, .int .i64 0, .int .i64 0, .int .i64 0] 89)) = w3 at *
 refine ⟨trivial, ?_⟩
 refine (eachUnit_in Fence.wide _ trivial rfl _ _ _ _).mono ?_
 rintro e w2 ⟨rfl, hw2⟩
 have hb2 : Below w3.heap.size w3 w2 := by rw [hw2]; exact (Below.refl _ _).alloc (Nat.le_refl _) _
 have k2 : w2.cell? ⟨w3.heap.size, 0, none⟩ = some (.slice a n c) := by rw [hw2]; exact (Boxed.new w3 _ _).cell
 have z2 : w3.heap.size < w2.heap.size := by rw [hw2]; simp
 have s2 := Blk.below hb2 (by omega) s3
 have u2 := Blk.below hb2 (by omega) u3
 have r2 := Blk.below hb2 (by omega) r3
 have h2 := h3.trans (hb2.mono h3.size)
 have rd2 := rdr_low HRD.out h2 HLT.out
 have hs2 := h2.size
 generalize hBs : w3.heap.size = Bs at *
 have HBS := hide hBs
 clear s3 u3 r3 h3 hb2 hw2 hBs
 gi_wp2_with fail
 refine wpIn_rangeFunc_ownG rfl (by omega) (gf := 121) (lb := #[.pointer (some ⟨Bs, 0, none⟩)]) rfl trivial (enters_of Tryz.func121 (by kernel_rfl) rfl)
  (each_stops Fence.wide (3 - 1) trivial rfl (by omega) Bs w.heap.size a n c xs HGD.out w2 z2 hs2 k2 rd2 HLT.out) belowK_t (belowK_b hs2) (Below.refl _ _) (fun _ => rfl)
  (fun pre W => (((∀ x ∈ pre, ((x.val : Nat) : Int) ≠ u) ∧ Blk W w.heap.size [.slice a n c]) ∧ Blk W (w.heap.size + 1) [.int .i64 u] ∧ Blk W (w.heap.size + 1 + 1) [.int .i64 0, .int .i64 0, .int .i64 0, .int .i64 0, .int .i64 0, .int .i64 0, .int .i64 0]) ∧ Below w.heap.size w W)
  (fun cd pre W => (cd = .ret ∧ ∃ x ∈ pre, ((x.val : Nat) : Int) = u ∧ Blk W (w.heap.size + 1 + 1) (ItemV.cells (xs.getD (placeOf xs x.val).toNat default))) ∧ Below w.heap.size w W)
  (OwnFrom.and (Own.from (fun s A B row hs hg hr => ⟨⟨hs.1.1, blk_kept hs.1.2 hg hr⟩, blk_kept hs.2.1 hg hr, blk_kept hs.2.2 hg hr⟩) _) (ownFrom_below (Nat.le_refl _) hs2))
  (fun cd => OwnFrom.and (Own.from (fun s A B row hs hg hr => by obtain ⟨h1, x, h4, h5, h6⟩ := hs; exact ⟨h1, x, h4, h5, blk_kept h6 hg hr⟩) _) (ownFrom_below (Nat.le_refl _) hs2))
  ⟨⟨⟨fun x hx => by simp at hx, s2⟩, u2, r2⟩, h2⟩
  ?act ?assign ?body ?done ?stop
 case assign =>
  intro l x W K hK
  gi_wp2
  exact hK
 case body =>
  rintro l pre x W ⟨⟨⟨hne, hS⟩, hU, hR⟩, hB⟩ _
  obtain ⟨p, hp, hpl⟩ := place_in x
  have cS : W.cell? ⟨w.heap.size, 0, none⟩ = some (.slice a n c) := (hS 0 (by simp)).1
  have cU : W.cell? ⟨w.heap.size + 1, 0, none⟩ = some (.int .i64 u) := (hU 0 (by simp)).1
  have hpn : p < n := by rw [← unhide HLEN]; exact hpl
  obtain ⟨b, off, ha, hc⟩ := (rdr_low HRD.out hB HLT.out).2 p hpn
  have HGET := hide (show xs.getD (placeOf xs x.val).toNat default = xs.getD p default by rw [hp]; rfl)
  rw [ha] at cS
  rw [hp]
  generalize xs.getD p default = q at hc HGET
  have d0 : W.cell? ⟨b, off + p * 7, none⟩ = some (.int .i64 q.id) := hc 0 (by omega)
  have d1 : W.cell? ⟨b, off + p * 7 + 1, none⟩ = some (.int .i64 q.wd) := hc 1 (by omega)
  have d2 : W.cell? ⟨b, off + p * 7 + 2, none⟩ = some (.int .i64 q.ht) := hc 2 (by omega)
  have d3 : W.cell? ⟨b, off + p * 7 + 3, none⟩ = some (.int .i64 q.dp) := hc 3 (by omega)
  have d4 : W.cell? ⟨b, off + p * 7 + 4, none⟩ = some (.int .i64 q.gram) := hc 4 (by omega)
  have d5 : W.cell? ⟨b, off + p * 7 + 5, none⟩ = some (.int .i64 q.cls) := hc 5 (by omega)
  have d6 : W.cell? ⟨b, off + p * 7 + 6, none⟩ = some (.int .i64 q.cnt) := hc 6 (by omega)
  obtain ⟨r0, rf0, r1, rf1, r2, rf2, r3, rf3, r4, rf4, r5, rf5, r6, rf6⟩ := Blk.cf7 hR
  have HS := hide hS
  have HU := hide hU
  have HR := hide hR
  have HB := hide hB
  have HNE := hide hne
  have hxv : x.val ≤ 12 := by omega
  have HX := hide (show ∃ y : UnitOf xs, y = x from ⟨x, rfl⟩)
  obtain ⟨xv, hxe⟩ : ∃ xv : Nat, x.val = xv := ⟨_, rfl⟩
  rw [hxe]
  have HXE := hide hxe
  clear hc ha hS hU hR hB hne hp hxe
  by_cases hq : ((xv : Nat) : Int) = u
  · have hqb : (((xv : Nat) : Int) == u) = true := by simp [hq]
    have HQ := hide hq
    clear hq
    gi_wp2
    exact ⟨(keeps7 _ _ _ _ _ _ _ _ _).from _, ⟨rfl, x, by simp, by rw [unhide HXE]; exact unhide HQ, by rw [unhide HGET]; exact Blk.fill7 HR.out⟩, below7 HB.out (by omega) _ _ _ _ _ _ _⟩
  · have hqb : (((xv : Nat) : Int) == u) = false := by simp [hq]
    have HQ := hide hq
    clear hq
    gi_wp2
    refine ⟨KeepsFrom.refl _ _, Below.refl _ _, ⟨⟨fun y hy => ?_, unhide HS⟩, unhide HU, unhide HR⟩, unhide HB⟩
    rcases List.mem_append.1 hy with hy | hy
    · exact HNE.out y hy
    · have : y = x := by simpa using hy
      subst this
      rw [unhide HXE]
      exact unhide HQ
 case done =>
  rintro D ys W hD hys ⟨⟨⟨hne, hS⟩, hU, hR⟩, hB⟩ hK
  have HIT := hide (itemAt_none hys hne)
  obtain ⟨r0, rf0, r1, rf1, r2, rf2, r3, rf3, r4, rf4, r5, rf5, r6, rf6⟩ := Blk.cf7 hR
  have HR := hide hR
  have HB := hide hB
  have HK := hide hK
  clear hys hne hS hU hR hB
  gi_wp2
  have hR' := Blk.fill7 (b0 := .int .i64 0) (b1 := .int .i64 0) (b2 := .int .i64 0) (b3 := .int .i64 0) (b4 := .int .i64 0) (b5 := .int .i64 0) (b6 := .int .i64 0) HR.out
  have hK' := (keeps7 W (w.heap.size + 1 + 1) (.int .i64 0) (.int .i64 0) (.int .i64 0) (.int .i64 0) (.int .i64 0) (.int .i64 0) (.int .i64 0)).same D _ HK.out rfl
  refine ⟨by simp, .inl ⟨_, _, rfl, run_takeDeferred hK', ?_⟩⟩
  have hc := cells_of_blk hR' hK'
  have k0 := (hc 0 (by simp)).1
  have k1 := (hc 1 (by simp)).1
  have k2 := (hc 2 (by simp)).1
  have k3 := (hc 3 (by simp)).1
  have k4 := (hc 4 (by simp)).1
  have k5 := (hc 5 (by simp)).1
  have k6 := (hc 6 (by simp)).1
  refine ⟨itemVal zeroItem, ?_, by rw [unhide HIT], (below7 HB.out (by omega) _ _ _ _ _ _ _).trans (belowK_b (w := w) (Nat.le_refl _) _ D _ _ (by omega) hK' rfl rfl)⟩
  simp [results, Tryz.f92, go_sem, k0, k1, k2, k3, k4, k5, k6, itemVal, zeroItem]
 case stop =>
  rintro D cd pre W hD ⟨k, hk, hcm⟩ ⟨⟨rfl, x, hx, hu, hR⟩, hB⟩ hK
  obtain ⟨p, hp, hpl⟩ := place_in x
  have HIT : Hid (itemAt xs u = xs.getD (placeOf xs x.val).toNat default) := by
   have := item_of_unit x hp
   rw [hu] at this
   rw [Hid, this, hp]
   rfl
  generalize xs.getD (placeOf xs x.val).toNat default = q at hR HIT
  have HR := hide hR
  have HB := hide hB
  have HK := hide hK
  clear hx hu hR hB hp hcm
  gi_wp2
  refine ⟨by simp, .inl ⟨_, _, rfl, run_takeDeferred HK.out, ?_⟩⟩
  have hc := cells_of_blk HR.out HK.out
  have k0 : (W.putObj D (.deferred none)).cell? ⟨w.heap.size + 1 + 1, 0, none⟩ = some (.int .i64 q.id) := (hc 0 (by simp [ItemV.cells])).1
  have k1 : (W.putObj D (.deferred none)).cell? ⟨w.heap.size + 1 + 1, 1, none⟩ = some (.int .i64 q.wd) := (hc 1 (by simp [ItemV.cells])).1
  have k2 : (W.putObj D (.deferred none)).cell? ⟨w.heap.size + 1 + 1, 2, none⟩ = some (.int .i64 q.ht) := (hc 2 (by simp [ItemV.cells])).1
  have k3 : (W.putObj D (.deferred none)).cell? ⟨w.heap.size + 1 + 1, 3, none⟩ = some (.int .i64 q.dp) := (hc 3 (by simp [ItemV.cells])).1
  have k4 : (W.putObj D (.deferred none)).cell? ⟨w.heap.size + 1 + 1, 4, none⟩ = some (.int .i64 q.gram) := (hc 4 (by simp [ItemV.cells])).1
  have k5 : (W.putObj D (.deferred none)).cell? ⟨w.heap.size + 1 + 1, 5, none⟩ = some (.int .i64 q.cls) := (hc 5 (by simp [ItemV.cells])).1
  have k6 : (W.putObj D (.deferred none)).cell? ⟨w.heap.size + 1 + 1, 6, none⟩ = some (.int .i64 q.cnt) := (hc 6 (by simp [ItemV.cells])).1
  refine ⟨itemVal q, ?_, by rw [unhide HIT], HB.out.trans (belowK_b (w := w) (Nat.le_refl _) _ D _ _ (by omega) HK.out rfl rfl)⟩
  simp [results, Tryz.f92, go_sem, k0, k1, k2, k3, k4, k5, k6, itemVal]
end Go.Proofs.YtcblpoeeembniabGreatDoor
