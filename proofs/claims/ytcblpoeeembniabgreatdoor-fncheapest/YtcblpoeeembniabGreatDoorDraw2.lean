/- l2Draw: the model draws an order, within bounds or out of them by one number or one list. -/
import Derived.Test.YtcblpoeeembniabGreatDoorDrawRight
import Derived.Test.YtcblpoeeembniabGreatDoorDraw2St
import Derived.Deep.CutBlock
namespace Go.Proofs.YtcblpoeeembniabGreatDoor
open Go.RowKit
set_option linter.unusedVariables false
set_option linter.unusedSimpArgs false

theorem bounds_loose {r : ReqV} (h : boundsB r = true) : r.pairs.length ≤ 16 ∧ 1 ≤ r.types.length ∧ r.types.length ≤ 5 ∧ r.items.length ≤ 8 := by
 simp [boundsB, pairsB, typesB, itemsB, inB] at h
 omega
theorem own_some {w : World} {B e k n cap m : Nat} {a : Option Addr} {xs : List Value} (h : w.ownsRow B e k (.slice a n cap) m xs) (hm : 0 < m) : ∃ g, a = some ⟨g, 0, none⟩ := by
 obtain ⟨g, cap', hv, _⟩ := h.form hm
 simp only [Value.slice.injEq] at hv
 exact ⟨g, hv.1⟩
theorem own_cap2 {w : World} {B e k n cap : Nat} {a : Option Addr} {xs : List Value} (h : w.ownsRow B e k (.slice a n cap) n xs) (hm : 0 < n) : n ≤ cap := by
 rcases h.2 with ⟨h1, h2⟩ | ⟨g, cap', cur, h1, _, _, h3, _⟩
 · omega
 · simp only [Value.slice.injEq] at h1
   omega
theorem typeCell {w : World} {B cap g : Nat} {a : Option Addr} {xs : List TypeV} (h : w.ownsRow B 54 7 (.slice a xs.length cap) xs.length (xs.flatMap TypeV.cells)) (hg : a = some ⟨g, 0, none⟩) (hl : 0 < xs.length) (j : Nat) (v : Value) (hj : j < 7) (hv : (TypeV.cells (xs.getD 0 default))[j]? = some v) : w.cell? ⟨g, j, none⟩ = some v := by
 subst hg
 rw [h.cellAt j (by omega), ← hv]
 have := flat_get TypeV.len xs 0 j hl hj
 simpa using this
theorem typeFree {w : World} {B cap g : Nat} {a : Option Addr} {xs : List TypeV} (h : w.ownsRow B 54 7 (.slice a xs.length cap) xs.length (xs.flatMap TypeV.cells)) (hg : a = some ⟨g, 0, none⟩) (j : Nat) : w.frozen? ⟨g, j, none⟩ = false := by
 subst hg
 exact h.frozenAt j
theorem itemCell {w : World} {B cap g : Nat} {a : Option Addr} {xs : List ItemV} (h : w.ownsRow B 89 7 (.slice a xs.length cap) xs.length (xs.flatMap ItemV.cells)) (hg : a = some ⟨g, 0, none⟩) (hl : 0 < xs.length) (j : Nat) (v : Value) (hj : j < 7) (hv : (ItemV.cells (xs.getD 0 default))[j]? = some v) : w.cell? ⟨g, j, none⟩ = some v := by
 subst hg
 rw [h.cellAt j (by omega), ← hv]
 have := flat_get ItemV.len xs 0 j hl hj
 simpa using this
theorem itemFree {w : World} {B cap g : Nat} {a : Option Addr} {xs : List ItemV} (h : w.ownsRow B 89 7 (.slice a xs.length cap) xs.length (xs.flatMap ItemV.cells)) (hg : a = some ⟨g, 0, none⟩) (j : Nat) : w.frozen? ⟨g, j, none⟩ = false := by
 subst hg
 exact h.frozenAt j
theorem typeCellAt {w : World} {B cap g : Nat} {a : Option Addr} {xs : List TypeV} (h : w.ownsRow B 54 7 (.slice a xs.length cap) xs.length (xs.flatMap TypeV.cells)) (hg : a = some ⟨g, 0, none⟩) (i : Nat) (hl : i < xs.length) (j : Nat) (v : Value) (hj : j < 7) (hv : (TypeV.cells (xs.getD i default))[j]? = some v) : w.cell? ⟨g, i * 7 + j, none⟩ = some v := by
 subst hg
 rw [h.cellAt (i * 7 + j) (by omega), ← hv]
 exact flat_get TypeV.len xs i j hl hj
section
variable {w : World} {k : Nat} {a : Option Addr} {n c : Nat} {zs : List Int} {R : Nat} {r : ReqV} {h : ReqH} {W : World}
theorem below_s2 (m : Int) (s : S2 w k a n c zs R r h W) (hm0 : 1 ≤ m) (hm1 : m ≤ 256) :
 Calls Tryz.prog 65 #[.pointer (some ⟨k, 0, none⟩), .int .i64 m] W fun e w' => ∃ x : Int, e = .returned (.int .i64 x) ∧ 0 ≤ x ∧ x < m ∧ S2 w k a n c zs R r h w' ∧ W.grownBy w' (some k) := by
 refine (l1Below_any k a n c zs m W s.cur hm0 hm1).mono ?_
 rintro e w' ⟨x, rfl, h1, h2, h3, h4⟩
 exact ⟨x, rfl, h1, h2, s.call h4 h3, h4⟩
theorem pick_s2 (ls : List Int) {b : Nat} (s : S2 w k a n c zs R r h W) (hb : b = W.heap.size) (hm0 : 1 ≤ ls.length) (hm1 : ls.length ≤ 256) :
 Calls Tryz.prog 140 #[.pointer (some ⟨k, 0, none⟩), .slice (some ⟨b, 0, none⟩) ls.length ls.length] (W.alloc (.cells (ls.map (Value.int .i64)).toArray 3)) fun e w' => ∃ v : Int, e = .returned (.int .i64 v) ∧ v ∈ ls ∧ S2 w k a n c zs R r h w' := by
 subst hb
 refine (pickL k a n c zs ls W s.cur hm0 hm1).mono ?_
 rintro e w' ⟨v, rfl, hv, h3, h4⟩
 exact ⟨_, rfl, hv, s.call h4 h3⟩
theorem boxFacts (s : S2 w k a n c zs R r h W) : (∀ j, j < 10 → W.frozen? ⟨R, j, none⟩ = false) ∧ Blk W R (reqCells r h) := ⟨fun j hj => (s.box j (by simpa [reqCells] using hj)).2, s.box⟩
end
set_option maxRecDepth 100000 in
set_option maxHeartbeats 4000000 in
theorem l2Draw_any (k : Nat) (a : Option Addr) (n c : Nat) (zs : List Int) (w : World) (hc : Cur w k a n c zs) :
 Calls Tryz.prog 133 #[.pointer (some ⟨k, 0, none⟩)] w fun e w' => ∃ r h, e = .returned (reqVal r h) ∧ Loose r ∧ RdReq w' r h ∧ From (w.heap.size + 1) h ∧ Cur w' k a n c zs ∧ w.grownBy w' (some k) := by
 have hkw : k < w.heap.size := by obtain ⟨_, _, _, _, h⟩ := hc.cells; exact lt_of_block h
 have HB := hide (fun hn x hx => ha_lt hc (World.grownBy.refl w none) hn x hx)
 have HC := hide hc
 clear hc
 go_enter Tryz.func133, Tryz.ntmps133
 go_wp2_with fail
 refine (l2Right_any k a n c zs _ (by exact HC.out.mono ((Below.refl _ _).alloc (Nat.le_refl _) _))).mono ?_
 rintro e w1 ⟨r, h, rfl, hbd, l1, hc1, hg1⟩
 have z1 : w.heap.size < w1.heap.size := by have := hg1.size; simp at this; omega
 obtain ⟨bp, bt0, bt1, bi⟩ := bounds_loose hbd
 have HS : Hid (S2 w k a n c zs w1.heap.size r h (w1.alloc (.cells (reqCells r h).toArray 41))) :=
  ⟨hc1.mono ((Below.refl _ _).alloc (Nat.le_refl _) _), gb_any (gb_same (World.grownBy_alloc w _ (some k)) hg1) (World.grownBy_alloc w1 _ none) (fun g e => by cases e), ((Blk.allocAt zeroReq rfl).grown hg1 (by simp) (by intro e; injection e with e; omega)).allocOld z1 _, Blk.allocAt _ rfl,
   ((by simpa using l1 : Lst (w.heap.size + 1) r h w1).kept (World.grownBy_alloc w1 _ none) (fun g e => by cases e)), l1.old, hkw, z1, by simp, unhide HB⟩
 clear hc1 hg1 l1 hbd HC
 simp only [reqVal]
 go_wp2_with fail
 refine (pick_s2 [-1, 0, 2001, 100001, 1000, 9223372036854775807] (b := w1.heap.size + 1) HS.out (by simp) (by decide) (by decide)).mono ?_
 rintro e w2 ⟨far, rfl, mf, hs2⟩
 have HS2 := hide hs2
 clear HS hs2 mf
 generalize w1.heap.size = R at HS2 z1 ⊢
 go_wp2_with fail
 refine (below_s2 20 (by exact unhide HS2) (by omega) (by omega)).mono ?_
 rintro e w3 ⟨x, rfl, p3, q3, hs3, hg3⟩
 have HS := hide hs3
 clear HS2 hs3 hg3
 go_upto_block 0 with fail
 go_cut [] (fun wc => ∃ r h, Fin2 w k a n c zs R r h wc)
 case first =>
  have hL : Hid (Loose r) := ⟨by omega, by omega, by omega⟩
  obtain ⟨a0, a1, a2, a3, a4, a5, a6, a7, a8, a9⟩ := reqFacts HS.out.box
  have f0 := (boxFacts HS.out).1 0 (by omega)
  have f1 := (boxFacts HS.out).1 1 (by omega)
  have f4 := (boxFacts HS.out).1 4 (by omega)
  have f5 := (boxFacts HS.out).1 5 (by omega)
  have f6 := (boxFacts HS.out).1 6 (by omega)
  have f7 := (boxFacts HS.out).1 7 (by omega)
  have f8 := (boxFacts HS.out).1 8 (by omega)
  have f9 := (boxFacts HS.out).1 9 (by omega)
  have hx : x = 0 ∨ x = 1 ∨ x = 2 ∨ x = 3 ∨ x = 4 ∨ x = 5 ∨ x = 6 ∨ x = 7 ∨ x = 8 ∨ x = 9 ∨ x = 10 ∨ x = 11 ∨ x = 12 ∨ 13 ≤ x := by omega
  rcases hx with rfl | rfl | rfl | rfl | rfl | rfl | rfl | rfl | rfl | rfl | rfl | rfl | rfl | hx
  · -- 0: the way
    clear a0 a1 a2 a3 a4 a5 a6 a7 a8 a9 f0 f1 f4 f5 f6 f7 f8 f9
    go_wp2_with fail
    refine (pick_s2 [-1, 2] (b := w3.heap.size) HS.out (by simp) (by decide) (by decide)).mono ?_
    rintro e w4 ⟨v, rfl, mv, hs4⟩
    have HS4 := hide hs4
    clear HS hs4 mv
    obtain ⟨a0, a1, a2, a3, a4, a5, a6, a7, a8, a9⟩ := reqFacts HS4.out.box
    have f0 := (boxFacts HS4.out).1 0 (by omega)
    go_wp2_with fail
    go_meet
    case rel => exact ⟨{ r with way := v }, h, (HS4.out.scal 0 _ { r with way := v } (by omega) rfl rfl rfl rfl).fin ⟨hL.out.lp, hL.out.lt, hL.out.li⟩⟩
  · -- 1: the pallet's width
    go_wp2_with fail
    go_meet
    case rel => exact ⟨{ r with pal := { r.pal with wd := far } }, h, (HS.out.scal 1 _ { r with pal := { r.pal with wd := far } } (by omega) rfl rfl rfl rfl).fin ⟨hL.out.lp, hL.out.lt, hL.out.li⟩⟩
  · -- 2: the pallet's weight
    go_wp2_with fail
    go_meet
    case rel => exact ⟨{ r with pal := { r.pal with gram := far } }, h, (HS.out.scal 4 _ { r with pal := { r.pal with gram := far } } (by omega) rfl rfl rfl rfl).fin ⟨hL.out.lp, hL.out.lt, hL.out.li⟩⟩
  · -- 3: the kinds
    clear a0 a1 a2 a3 a4 a5 a6 a7 a8 a9 f0 f1 f4 f5 f6 f7 f8 f9
    go_wp2_with fail
    refine (pick_s2 [0, 5, 1] (b := w3.heap.size) HS.out (by simp) (by decide) (by decide)).mono ?_
    rintro e w4 ⟨v, rfl, mv, hs4⟩
    have HS4 := hide hs4
    clear HS hs4 mv
    obtain ⟨a0, a1, a2, a3, a4, a5, a6, a7, a8, a9⟩ := reqFacts HS4.out.box
    have f5 := (boxFacts HS4.out).1 5 (by omega)
    go_wp2_with fail
    go_meet
    case rel => exact ⟨{ r with classes := v }, h, (HS4.out.scal 5 _ { r with classes := v } (by omega) rfl rfl rfl rfl).fin ⟨hL.out.lp, hL.out.lt, hL.out.li⟩⟩
  · -- 4: a pair more
    obtain ⟨i0, hi0, hz0, hz1, hz2⟩ := info_parts Tryz.dinfoPair
    have hz := HS.out.hz
    have hRk := HS.out.hR
    have S1 := unhide HS
    go_wp2_with fail
    clear a0 a1 a2 a3 a4 a5 a7 a8 a9
    refine wp_region_noPanic ?_
    refine wp_region_to (S := fun w' => w'.cell? ⟨R, 6, none⟩ = some (.slice h.ap r.pairs.length h.cp)) (T := [9, 10, 11]) (by kernel_rfl) a6 (fun hHeld => ?_)
    refine wpTo_tk (i := 0) (v := ?_) rfl (by kernel_rfl) (Or.inl ⟨by rfl, ?_⟩) (by assumption) ?_
    rotate_left
    · intro w hSw
      (try dsimp only at hSw)
      go_simp <;> with_reducible rfl
    refine wpTo_tk (i := 1) (v := ?_) rfl (by kernel_rfl) (Or.inl ⟨by rfl, ?_⟩) (by assumption) ?_
    rotate_left
    · intro w hSw
      (try dsimp only at hSw)
      go_simp <;> with_reducible rfl
    refine wpTo_tk (i := 2) (v := ?_) rfl (by kernel_rfl) (Or.inl ⟨by rfl, ?_⟩) (by assumption) ?_
    rotate_left
    · intro w hSw
      (try dsimp only at hSw)
      go_simp <;> with_reducible rfl
    try simp only [Act.put, zz1, zz2, zz3, zz4, zz5, zz6]
    refine wpTo_tk (i := 5) (v := ?_) rfl (by kernel_rfl) (Or.inl ⟨by rfl, ?_⟩) (by assumption) ?_
    rotate_left
    · intro w hSw
      (try dsimp only at hSw)
      go_simp <;> with_reducible rfl
    try simp only [Act.put, zz1, zz2, zz3, zz4, zz5, zz6]
    refine wpTo_ready (rs := [3]) (by kernel_rfl) (by simp) ?_
    refine AllTo.cons (o := _) rfl (fun K hK => ?_) ?_
    · (try simp only [zz1, zz2, zz3])
      go_simp
      refine (below_s2 (w := w) (a := a) (n := n) (c := c) (zs := zs) (R := R) (r := r) (h := h) 6 (by repeat' (first | refine S2.alloc ?_ _ | refine S2.drew ?_ | assumption)) (by omega) (by omega)).mono ?_
      rintro e wA ⟨y1, rfl, py1, qy1, sA, gA⟩
      have cA : wA.cell? ⟨R, 6, none⟩ = some (.slice h.ap r.pairs.length h.cp) := (sA.box 6 (by simp [reqCells])).1
      have rA := sA.hz
      have zA : w3.heap.size ≤ wA.heap.size := by (have h9 := gA.size; (try simp at h9); first | omega | exact h9)
      go_wp2_with fail
      refine hK.out _ _ (fun _ => ?_) ?_
      · first | assumption | go_keep
      clear hK K
      try simp only [Act.put, zz1, zz2, zz3, zz4, zz5, zz6]
      refine wpTo_tk (i := 4) (v := ?_) rfl (by kernel_rfl) (Or.inl ⟨by rfl, ?_⟩) (by assumption) ?_
      rotate_left
      · intro w hSw
        (try dsimp only at hSw)
        go_simp <;> with_reducible rfl
      try simp only [Act.put, zz1, zz2, zz3, zz4, zz5, zz6]
      rw [wrap_small (x := y1 - 1) (by omega) (by omega)]
      refine wpTo_ready (rs := [6]) (by kernel_rfl) (by simp) ?_
      refine AllTo.cons (o := _) rfl (fun K hK => ?_) ?_
      · (try simp only [zz1, zz2, zz3])
        go_simp
        refine (below_s2 (w := w) (a := a) (n := n) (c := c) (zs := zs) (R := R) (r := r) (h := h) 4 (by repeat' (first | refine S2.alloc ?_ _ | refine S2.drew ?_ | assumption)) (by omega) (by omega)).mono ?_
        rintro e wB ⟨y2, rfl, py2, qy2, sB, gB⟩
        have cB : wB.cell? ⟨R, 6, none⟩ = some (.slice h.ap r.pairs.length h.cp) := (sB.box 6 (by simp [reqCells])).1
        have rB := sB.hz
        have zB : wA.heap.size ≤ wB.heap.size := by (have h9 := gB.size; (try simp at h9); first | omega | exact h9)
        go_wp2_with fail
        refine hK.out _ _ (fun _ => ?_) ?_
        · first | assumption | go_keep
        clear hK K
        try simp only [Act.put, zz1, zz2, zz3, zz4, zz5, zz6]
        refine wpTo_tk (i := 7) (v := ?_) rfl (by kernel_rfl) (Or.inl ⟨by rfl, ?_⟩) (by assumption) ?_
        rotate_left
        · intro w hSw
          (try dsimp only at hSw)
          go_simp <;> with_reducible rfl
        try simp only [Act.put, zz1, zz2, zz3, zz4, zz5, zz6]
        refine wpTo_ready (rs := [8]) (by kernel_rfl) (by simp) ?_
        refine AllTo.cons (o := _) rfl (fun K hK => ?_) ?_
        · (try simp only [zz1, zz2, zz3])
          go_simp
          refine hK.out _ _ (fun _ => ?_) ?_
          · first | assumption | go_keep
          clear hK K
          try simp only [Act.put, zz1, zz2, zz3, zz4, zz5, zz6]
          refine wpTo_ready (rs := [9]) (by kernel_rfl) (by simp) ?_
          refine AllTo.cons (o := _) rfl (fun K hK => ?_) ?_
          · skip
            refine step_append_lies _ (by rfl) _ _ 37 (by rfl) (w.heap.size + 1) 92 i0 (.agg #[.int .i64 0, .int .i64 0]) 2 16 Tryz.underlying37 hi0 hz0 hz1 hz2 rfl (by omega) (.slice h.ap r.pairs.length h.cp) r.pairs.length (r.pairs.flatMap PairV.cells) (by rfl) (sB.alloc _).lst.op ⟨wB.heap.size, 0, none⟩ 1 1 (PairV.cells ⟨y1 - 1, y2⟩) (by rfl) rfl (World.news_of_block (heap_alloc_new _ _)) (by simp [PairV.cells, Value.oneCell']) (by omega) (by unfold maxLen; omega) (by omega) (by simp; omega) (wB.heap.size + 1) (by simp) ?_
            intro g cap wC hown hgrow hat hltC
            obtain ⟨cC, tC⟩ := (sB.alloc _).aftPair hgrow
            have HO := hide hown
            have HGR := hide hgrow
            have HAT := hide hat
            clear hown hgrow hat
            refine hK.out _ _ (fun hn => absurd (by decide) hn) ?_
            clear hK K
            try simp only [Act.put, zz1, zz2, zz3, zz4, zz5, zz6]
            refine wpTo_ready (rs := [10]) (by kernel_rfl) (by simp) ?_
            refine AllTo.cons (o := _) rfl (fun K hK => ?_) ?_
            · (try simp only [zz1, zz2, zz3])
              go_simp
              refine hK.out _ _ (fun hn => absurd (by decide) hn) ?_
              clear hK K
              try simp only [Act.put, zz1, zz2, zz3, zz4, zz5, zz6]
              refine wpTo_ready (rs := [11]) (by kernel_rfl) (by simp) ?_
              refine AllTo.cons (o := _) rfl (fun K hK => ?_) ?_
              · (try simp only [zz1, zz2, zz3])
                go_simp
                refine hK.out _ _ (fun hn => absurd (by decide) hn) ?_
                clear hK K
                try simp only [Act.put, zz1, zz2, zz3, zz4, zz5, zz6]
                refine wpTo_done (by kernel_rfl) ?_ _
                refine NoPanic.normal ?_
                go_wp2_with fail
                go_meet
                case rel => exact ⟨_, _, ((sB.alloc _).appPair [⟨y1 - 1, y2⟩] HO.out HGR.out HAT.out (Nat.le_of_eq (by simp))).fin ⟨by simp; omega, hL.out.lt, hL.out.li⟩⟩
              exact AllTo.nil
            exact AllTo.nil
          exact AllTo.nil
        exact AllTo.nil
      exact AllTo.nil
    exact AllTo.nil
  · -- 5: the first type's height
    obtain ⟨g, hg⟩ := own_some HS.out.lst.ot (by omega)
    have tc : w3.cell? ⟨g, 2, none⟩ = some (.int .i64 (r.types.getD 0 default).ht) := typeCell HS.out.lst.ot hg (by omega) 2 _ (by omega) rfl
    have tf : w3.frozen? ⟨g, 2, none⟩ = false := typeFree HS.out.lst.ot hg 2
    have HG := hide hg
    rw [hg] at a7
    clear hg
    go_wp2_with fail
    go_meet
    case rel => exact ⟨_, _, (HS.out.inType HG.out 0 2 (.int .i64 far) { r.types.getD 0 default with ht := far } (by omega) (by omega) rfl).fin ⟨hL.out.lp, by simp; omega, hL.out.li⟩⟩
  · -- 6: a type's weight
    obtain ⟨g0, hg0⟩ := own_some HS.out.lst.ot (by omega)
    obtain ⟨ap, at_, ai, cp, ct, ci⟩ := h
    simp only at hg0
    subst hg0
    dsimp only at a0 a1 a2 a3 a4 a5 a6 a7 a8 a9
    obtain ⟨i0, hi0, hz0, hz1, hz2⟩ := info_parts Tryz.dinfoType
    have hz := HS.out.hz
    have hRk := HS.out.hR
    have S1 := unhide HS
    go_wp2_with fail
    clear a0 a1 a2 a3 a4 a5 a6 a8 a9
    refine wp_region_noPanic ?_
    refine wp_region_to (S := fun w' => w'.cell? ⟨R, 7, none⟩ = some (.slice (some ⟨g0, 0, none⟩ : Option Addr) r.types.length ct)) (T := [10]) (by kernel_rfl) a7 (fun hHeld => ?_)
    refine wpTo_tk (i := 0) (v := ?_) rfl (by kernel_rfl) (Or.inl ⟨by rfl, ?_⟩) (by assumption) ?_
    rotate_left
    · intro w hSw
      (try dsimp only at hSw)
      go_simp <;> with_reducible rfl
    refine wpTo_tk (i := 1) (v := ?_) rfl (by kernel_rfl) (Or.inl ⟨by rfl, ?_⟩) (by assumption) ?_
    rotate_left
    · intro w hSw
      (try dsimp only at hSw)
      go_simp <;> with_reducible rfl
    refine wpTo_tk (i := 2) (v := ?_) rfl (by kernel_rfl) (Or.inl ⟨by rfl, ?_⟩) (by assumption) ?_
    rotate_left
    · intro w hSw
      (try dsimp only at hSw)
      go_simp <;> with_reducible rfl
    try simp only [Act.put, zz1, zz2, zz3, zz4, zz5, zz6]
    refine wpTo_tk (i := 3) (v := ?_) rfl (by kernel_rfl) (Or.inl ⟨by rfl, ?_⟩) (by assumption) ?_
    rotate_left
    · intro w hSw
      (try dsimp only at hSw)
      go_simp <;> with_reducible rfl
    refine wpTo_tk (i := 4) (v := ?_) rfl (by kernel_rfl) (Or.inl ⟨by rfl, ?_⟩) (by assumption) ?_
    rotate_left
    · intro w hSw
      (try dsimp only at hSw)
      go_simp <;> with_reducible rfl
    refine wpTo_tk (i := 7) (v := ?_) rfl (by kernel_rfl) (Or.inl ⟨by rfl, ?_⟩) (by assumption) ?_
    rotate_left
    · intro w hSw
      (try dsimp only at hSw)
      go_simp <;> with_reducible rfl
    try simp only [Act.put, zz1, zz2, zz3, zz4, zz5, zz6]
    refine wpTo_ready (rs := [5]) (by kernel_rfl) (by simp) ?_
    refine AllTo.cons (o := _) rfl (fun K hK => ?_) ?_
    · (try simp only [zz1, zz2, zz3])
      go_simp
      refine hK.out _ _ (fun _ => ?_) ?_
      · first | assumption | go_keep
      clear hK K
      try simp only [Act.put, zz1, zz2, zz3, zz4, zz5, zz6]
      refine wpTo_ready (rs := [6]) (by kernel_rfl) (by simp) ?_
      refine AllTo.cons (o := _) rfl (fun K hK => ?_) ?_
      · (try simp only [zz1, zz2, zz3])
        go_simp
        refine (below_s2 (w := w) (a := a) (n := n) (c := c) (zs := zs) (R := R) (r := r) (h := ⟨ap, some ⟨g0, 0, none⟩, ai, cp, ct, ci⟩) (r.types.length : Int) (by repeat' (first | refine S2.alloc ?_ _ | refine S2.drew ?_ | assumption)) (by omega) (by omega)).mono ?_
        rintro e wA ⟨y1, rfl, py1, qy1, sA, gA⟩
        have cA : wA.cell? ⟨R, 7, none⟩ = some (.slice (some ⟨g0, 0, none⟩ : Option Addr) r.types.length ct) := (sA.box 7 (by simp [reqCells])).1
        have rA := sA.hz
        have zA : w3.heap.size ≤ wA.heap.size := by (have h9 := gA.size; (try simp at h9); first | omega | exact h9)
        obtain ⟨i, rfl⟩ := Int.eq_ofNat_of_zero_le py1
        have tcA : wA.cell? ⟨g0, i * 7 + 5, none⟩ = some (.int .i64 (r.types.getD i default).gram) := typeCellAt sA.lst.ot rfl i (by omega) 5 _ (by omega) rfl
        have tfA : wA.frozen? ⟨g0, i * 7 + 5, none⟩ = false := typeFree sA.lst.ot rfl _
        go_wp2_with fail
        refine hK.out _ _ (fun _ => ?_) ?_
        · first | assumption | go_keep
        clear hK K
        try simp only [Act.put, zz1, zz2, zz3, zz4, zz5, zz6]
        refine wpTo_ready (rs := [8]) (by kernel_rfl) (by simp) ?_
        refine AllTo.cons (o := _) rfl (fun K hK => ?_) ?_
        · (try simp only [zz1, zz2, zz3])
          go_simp
          refine hK.out _ _ (fun _ => ?_) ?_
          · first | assumption | go_keep
          clear hK K
          try simp only [Act.put, zz1, zz2, zz3, zz4, zz5, zz6]
          refine wpTo_ready (rs := [9]) (by kernel_rfl) (by simp) ?_
          refine AllTo.cons (o := _) rfl (fun K hK => ?_) ?_
          · (try simp only [zz1, zz2, zz3])
            go_simp
            refine hK.out _ _ (fun _ => ?_) ?_
            · first | assumption | go_keep
            clear hK K
            try simp only [Act.put, zz1, zz2, zz3, zz4, zz5, zz6]
            refine wpTo_ready (rs := [10]) (by kernel_rfl) (by simp) ?_
            refine AllTo.cons (o := _) rfl (fun K hK => ?_) ?_
            · (try simp only [zz1, zz2, zz3])
              go_simp
              refine hK.out _ _ (fun hn => absurd (by decide) hn) ?_
              clear hK K
              try simp only [Act.put, zz1, zz2, zz3, zz4, zz5, zz6]
              refine wpTo_done (by kernel_rfl) ?_ _
              refine NoPanic.normal ?_
              go_wp2_with fail
              go_meet
              case rel => exact ⟨_, _, (sA.inType rfl i 5 (.int .i64 far) { r.types.getD i default with gram := far } (by omega) (by omega) rfl).fin ⟨hL.out.lp, by simp; omega, hL.out.li⟩⟩
            exact AllTo.nil
          exact AllTo.nil
        exact AllTo.nil
      exact AllTo.nil
    exact AllTo.nil
  · -- 7: the master
    clear a0 a1 a2 a3 a4 a5 a6 a7 a8 a9 f0 f1 f4 f5 f6 f7 f8 f9
    go_wp2_with fail
    refine (pick_s2 [8, -1, 1000] (b := w3.heap.size) HS.out (by simp) (by decide) (by decide)).mono ?_
    rintro e w4 ⟨v, rfl, mv, hs4⟩
    have HS4 := hide hs4
    clear HS hs4 mv
    obtain ⟨a0, a1, a2, a3, a4, a5, a6, a7, a8, a9⟩ := reqFacts HS4.out.box
    have f8 := (boxFacts HS4.out).1 8 (by omega)
    go_wp2_with fail
    go_meet
    case rel => exact ⟨{ r with master := v }, h, (HS4.out.scal 8 _ { r with master := v } (by omega) rfl rfl rfl rfl).fin ⟨hL.out.lp, hL.out.lt, hL.out.li⟩⟩
  · -- 8: an item more
    obtain ⟨i0, hi0, hz0, hz1, hz2⟩ := info_parts Tryz.dinfoItem
    have hz := HS.out.hz
    have hRk := HS.out.hR
    have S1 := unhide HS
    go_wp2_with fail
    clear a0 a1 a2 a3 a4 a5 a6 a7 a8
    refine wp_region_noPanic ?_
    refine wp_region_to (S := fun w' => w'.cell? ⟨R, 9, none⟩ = some (.slice h.ai r.items.length h.ci)) (T := [8, 9, 10]) (by kernel_rfl) a9 (fun hHeld => ?_)
    refine wpTo_tk (i := 0) (v := ?_) rfl (by kernel_rfl) (Or.inl ⟨by rfl, ?_⟩) (by assumption) ?_
    rotate_left
    · intro w hSw
      (try dsimp only at hSw)
      go_simp <;> with_reducible rfl
    try simp only [Act.put, zz1, zz2, zz3, zz4, zz5, zz6]
    refine wpTo_tk (i := 1) (v := ?_) rfl (by kernel_rfl) (Or.inl ⟨by rfl, ?_⟩) (by assumption) ?_
    rotate_left
    · intro w hSw
      (try dsimp only at hSw)
      go_simp <;> with_reducible rfl
    refine wpTo_tk (i := 2) (v := ?_) rfl (by kernel_rfl) (Or.inl ⟨by rfl, ?_⟩) (by assumption) ?_
    rotate_left
    · intro w hSw
      (try dsimp only at hSw)
      go_simp <;> with_reducible rfl
    refine wpTo_tk (i := 4) (v := ?_) rfl (by kernel_rfl) (Or.inl ⟨by rfl, ?_⟩) (by assumption) ?_
    rotate_left
    · intro w hSw
      (try dsimp only at hSw)
      go_simp <;> with_reducible rfl
    try simp only [Act.put, zz1, zz2, zz3, zz4, zz5, zz6]
    refine wpTo_ready (rs := [3]) (by kernel_rfl) (by simp) ?_
    refine AllTo.cons (o := _) rfl (fun K hK => ?_) ?_
    · (try simp only [zz1, zz2, zz3])
      go_simp
      refine (below_s2 (w := w) (a := a) (n := n) (c := c) (zs := zs) (R := R) (r := r) (h := h) 5 (by repeat' (first | refine S2.alloc ?_ _ | refine S2.drew ?_ | assumption)) (by omega) (by omega)).mono ?_
      rintro e wA ⟨y1, rfl, py1, qy1, sA, gA⟩
      have cA : wA.cell? ⟨R, 9, none⟩ = some (.slice h.ai r.items.length h.ci) := (sA.box 9 (by simp [reqCells])).1
      have rA := sA.hz
      have zA : w3.heap.size ≤ wA.heap.size := by (have h9 := gA.size; (try simp at h9); first | omega | exact h9)
      go_wp2_with fail
      refine hK.out _ _ (fun _ => ?_) ?_
      · first | assumption | go_keep
      clear hK K
      try simp only [Act.put, zz1, zz2, zz3, zz4, zz5, zz6]
      refine wpTo_ready (rs := [5]) (by kernel_rfl) (by simp) ?_
      refine AllTo.cons (o := _) rfl (fun K hK => ?_) ?_
      · (try simp only [zz1, zz2, zz3])
        go_simp
        refine (below_s2 (w := w) (a := a) (n := n) (c := c) (zs := zs) (R := R) (r := r) (h := h) 8 (by repeat' (first | refine S2.alloc ?_ _ | refine S2.drew ?_ | assumption)) (by omega) (by omega)).mono ?_
        rintro e wB ⟨y2, rfl, py2, qy2, sB, gB⟩
        have cB : wB.cell? ⟨R, 9, none⟩ = some (.slice h.ai r.items.length h.ci) := (sB.box 9 (by simp [reqCells])).1
        have rB := sB.hz
        have zB : wA.heap.size ≤ wB.heap.size := by (have h9 := gB.size; (try simp at h9); first | omega | exact h9)
        go_wp2_with fail
        refine hK.out _ _ (fun _ => ?_) ?_
        · first | assumption | go_keep
        clear hK K
        try simp only [Act.put, zz1, zz2, zz3, zz4, zz5, zz6]
        refine wpTo_tk (i := 6) (v := ?_) rfl (by kernel_rfl) (Or.inl ⟨by rfl, ?_⟩) (by assumption) ?_
        rotate_left
        · intro w hSw
          (try dsimp only at hSw)
          go_simp <;> with_reducible rfl
        try simp only [Act.put, zz1, zz2, zz3, zz4, zz5, zz6]
        refine wpTo_ready (rs := [7]) (by kernel_rfl) (by simp) ?_
        refine AllTo.cons (o := _) rfl (fun K hK => ?_) ?_
        · (try simp only [zz1, zz2, zz3])
          go_simp
          refine hK.out _ _ (fun _ => ?_) ?_
          · first | assumption | go_keep
          clear hK K
          try simp only [Act.put, zz1, zz2, zz3, zz4, zz5, zz6]
          refine wpTo_ready (rs := [8]) (by kernel_rfl) (by simp) ?_
          refine AllTo.cons (o := _) rfl (fun K hK => ?_) ?_
          · skip
            refine step_append_lies _ (by rfl) _ _ 39 (by rfl) (w.heap.size + 1) 89 i0 (.agg #[.int .i64 0, .int .i64 0, .int .i64 0, .int .i64 0, .int .i64 0, .int .i64 0, .int .i64 0]) 7 56 Tryz.underlying39 hi0 hz0 hz1 hz2 rfl (by omega) (.slice h.ai r.items.length h.ci) r.items.length (r.items.flatMap ItemV.cells) (by rfl) (sB.alloc _).lst.oi ⟨wB.heap.size, 0, none⟩ 1 1 (ItemV.cells ⟨3, 1, 2, 3, 4, y1, y2⟩) (by rfl) rfl (World.news_of_block (heap_alloc_new _ _)) (by simp [ItemV.cells, Value.oneCell']) (by omega) (by unfold maxLen; omega) (by omega) (by simp; omega) (wB.heap.size + 1) (by simp) ?_
            intro g cap wC hown hgrow hat hltC
            obtain ⟨cC, tC⟩ := (sB.alloc _).aftItem hgrow
            have HO := hide hown
            have HGR := hide hgrow
            have HAT := hide hat
            clear hown hgrow hat
            refine hK.out _ _ (fun hn => absurd (by decide) hn) ?_
            clear hK K
            try simp only [Act.put, zz1, zz2, zz3, zz4, zz5, zz6]
            refine wpTo_ready (rs := [9]) (by kernel_rfl) (by simp) ?_
            refine AllTo.cons (o := _) rfl (fun K hK => ?_) ?_
            · (try simp only [zz1, zz2, zz3])
              go_simp
              refine hK.out _ _ (fun hn => absurd (by decide) hn) ?_
              clear hK K
              try simp only [Act.put, zz1, zz2, zz3, zz4, zz5, zz6]
              refine wpTo_ready (rs := [10]) (by kernel_rfl) (by simp) ?_
              refine AllTo.cons (o := _) rfl (fun K hK => ?_) ?_
              · (try simp only [zz1, zz2, zz3])
                go_simp
                refine hK.out _ _ (fun hn => absurd (by decide) hn) ?_
                clear hK K
                try simp only [Act.put, zz1, zz2, zz3, zz4, zz5, zz6]
                refine wpTo_done (by kernel_rfl) ?_ _
                refine NoPanic.normal ?_
                go_wp2_with fail
                go_meet
                case rel => exact ⟨_, _, ((sB.alloc _).appItem [⟨3, 1, 2, 3, 4, y1, y2⟩] HO.out HGR.out HAT.out (Nat.le_of_eq (by simp))).fin ⟨hL.out.lp, hL.out.lt, by simp; omega⟩⟩
              exact AllTo.nil
            exact AllTo.nil
          exact AllTo.nil
        exact AllTo.nil
      exact AllTo.nil
    exact AllTo.nil
  · -- 9: the first item's depth
    by_cases hi0 : 0 < r.items.length
    · obtain ⟨g, hg⟩ := own_some HS.out.lst.oi hi0
      have tc : w3.cell? ⟨g, 3, none⟩ = some (.int .i64 (r.items.getD 0 default).dp) := itemCell HS.out.lst.oi hg (by omega) 3 _ (by omega) rfl
      have tf : w3.frozen? ⟨g, 3, none⟩ = false := itemFree HS.out.lst.oi hg 3
      have HG := hide hg
      rw [hg] at a9
      clear hg
      go_wp2_with fail
      go_meet
      case rel => exact ⟨_, _, (HS.out.inItem HG.out 0 3 (.int .i64 far) { r.items.getD 0 default with dp := far } (by omega) (by omega) rfl).fin ⟨hL.out.lp, hL.out.lt, by simp; omega⟩⟩
    · go_wp2_with fail
      go_meet
      case rel => exact ⟨r, h, HS.out.fin hL.out⟩
  · -- 10: the pairs without the first
    by_cases hi0 : 0 < r.pairs.length
    · obtain ⟨g, hg⟩ := own_some HS.out.lst.op hi0
      have hcap : r.pairs.length ≤ h.cp := own_cap2 HS.out.lst.op hi0
      have HG := hide hg
      rw [hg] at a6
      clear hg
      go_wp2_with fail
      all_goals go_meet
      all_goals first | (case rel => exact ⟨_, _, HS.out.tailPairs HG.out hi0 hL.out⟩) | (case rel => exact ⟨_, _, HS.out.tailOne HG.out (by omega) hL.out⟩)
    · go_wp2_with fail
      go_meet
      case rel => exact ⟨r, h, HS.out.fin hL.out⟩
  · -- 11: the first type once more
    obtain ⟨g0, hg0⟩ := own_some HS.out.lst.ot (by omega)
    obtain ⟨ap, at_, ai, cp, ct, ci⟩ := h
    simp only at hg0
    subst hg0
    dsimp only at a0 a1 a2 a3 a4 a5 a6 a7 a8 a9
    obtain ⟨i0, hi0, hz0, hz1, hz2⟩ := info_parts Tryz.dinfoType
    have hz := HS.out.hz
    have hRk := HS.out.hR
    have S1 := unhide HS
    have tc0 : w3.cell? ⟨g0, 0, none⟩ = some (.int .i64 (r.types.getD 0 default).id) := typeCell HS.out.lst.ot rfl (by omega) 0 _ (by omega) rfl
    have tc1 : w3.cell? ⟨g0, 1, none⟩ = some (.int .i64 (r.types.getD 0 default).wd) := typeCell HS.out.lst.ot rfl (by omega) 1 _ (by omega) rfl
    have tc2 : w3.cell? ⟨g0, 2, none⟩ = some (.int .i64 (r.types.getD 0 default).ht) := typeCell HS.out.lst.ot rfl (by omega) 2 _ (by omega) rfl
    have tc3 : w3.cell? ⟨g0, 3, none⟩ = some (.int .i64 (r.types.getD 0 default).dp) := typeCell HS.out.lst.ot rfl (by omega) 3 _ (by omega) rfl
    have tc4 : w3.cell? ⟨g0, 4, none⟩ = some (.int .i64 (r.types.getD 0 default).tare) := typeCell HS.out.lst.ot rfl (by omega) 4 _ (by omega) rfl
    have tc5 : w3.cell? ⟨g0, 5, none⟩ = some (.int .i64 (r.types.getD 0 default).gram) := typeCell HS.out.lst.ot rfl (by omega) 5 _ (by omega) rfl
    have tc6 : w3.cell? ⟨g0, 6, none⟩ = some (.int .i64 (r.types.getD 0 default).cost) := typeCell HS.out.lst.ot rfl (by omega) 6 _ (by omega) rfl
    go_wp2_with fail
    clear a0 a1 a2 a3 a4 a5 a6 a8 a9
    refine wp_region_noPanic ?_
    refine wp_region_to (S := fun w' => w'.cell? ⟨R, 7, none⟩ = some (.slice (some ⟨g0, 0, none⟩ : Option Addr) r.types.length ct)) (T := [7, 8, 9]) (by kernel_rfl) a7 (fun hHeld => ?_)
    refine wpTo_tk (i := 0) (v := ?_) rfl (by kernel_rfl) (Or.inl ⟨by rfl, ?_⟩) (by assumption) ?_
    rotate_left
    · intro w hSw
      (try dsimp only at hSw)
      go_simp <;> with_reducible rfl
    try simp only [Act.put, zz1, zz2, zz3, zz4, zz5, zz6]
    refine wpTo_tk (i := 1) (v := ?_) rfl (by kernel_rfl) (Or.inl ⟨by rfl, ?_⟩) (by assumption) ?_
    rotate_left
    · intro w hSw
      (try dsimp only at hSw)
      go_simp <;> with_reducible rfl
    refine wpTo_tk (i := 2) (v := ?_) rfl (by kernel_rfl) (Or.inl ⟨by rfl, ?_⟩) (by assumption) ?_
    rotate_left
    · intro w hSw
      (try dsimp only at hSw)
      go_simp <;> with_reducible rfl
    refine wpTo_tk (i := 3) (v := ?_) rfl (by kernel_rfl) (Or.inl ⟨by rfl, ?_⟩) (by assumption) ?_
    rotate_left
    · intro w hSw
      (try dsimp only at hSw)
      go_simp <;> with_reducible rfl
    try simp only [Act.put, zz1, zz2, zz3, zz4, zz5, zz6]
    refine wpTo_ready (rs := [4]) (by kernel_rfl) (by simp) ?_
    refine AllTo.cons (o := _) rfl (fun K hK => ?_) ?_
    · (try simp only [zz1, zz2, zz3])
      go_simp
      rw [if_pos (show 0 < r.types.length by omega)]
      go_simp
      refine hK.out _ _ (fun _ => ?_) ?_
      · first | assumption | go_keep
      clear hK K
      try simp only [Act.put, zz1, zz2, zz3, zz4, zz5, zz6]
      refine wpTo_ready (rs := [5]) (by kernel_rfl) (by simp) ?_
      refine AllTo.cons (o := _) rfl (fun K hK => ?_) ?_
      · (try simp only [zz1, zz2, zz3])
        go_simp
        refine hK.out _ _ (fun _ => ?_) ?_
        · first | assumption | go_keep
        clear hK K
        try simp only [Act.put, zz1, zz2, zz3, zz4, zz5, zz6]
        refine wpTo_ready (rs := [6]) (by kernel_rfl) (by simp) ?_
        refine AllTo.cons (o := _) rfl (fun K hK => ?_) ?_
        · (try simp only [zz1, zz2, zz3])
          go_simp
          refine hK.out _ _ (fun _ => ?_) ?_
          · first | assumption | go_keep
          clear hK K
          try simp only [Act.put, zz1, zz2, zz3, zz4, zz5, zz6]
          refine wpTo_ready (rs := [7]) (by kernel_rfl) (by simp) ?_
          refine AllTo.cons (o := _) rfl (fun K hK => ?_) ?_
          · skip
            refine step_append_lies _ (by rfl) _ _ 38 (by rfl) (w.heap.size + 1) 54 i0 (.agg #[.int .i64 0, .int .i64 0, .int .i64 0, .int .i64 0, .int .i64 0, .int .i64 0, .int .i64 0]) 7 56 Tryz.underlying38 hi0 hz0 hz1 hz2 rfl (by omega) (.slice (some ⟨g0, 0, none⟩ : Option Addr) r.types.length ct) r.types.length (r.types.flatMap TypeV.cells) (by rfl) (S1.drew.alloc _).lst.ot ⟨w3.heap.size, 0, none⟩ 1 1 (TypeV.cells (r.types.getD 0 default)) (by rfl) rfl (World.news_of_block (heap_alloc_new _ _)) (by simp [TypeV.cells, Value.oneCell']) (by omega) (by unfold maxLen; omega) (by omega) (by simp; omega) (w3.heap.size + 1) (by simp) ?_
            intro g cap wC hown hgrow hat hltC
            obtain ⟨cC, tC⟩ := (S1.drew.alloc _).aftType hgrow
            have HO := hide hown
            have HGR := hide hgrow
            have HAT := hide hat
            clear hown hgrow hat
            refine hK.out _ _ (fun hn => absurd (by decide) hn) ?_
            clear hK K
            try simp only [Act.put, zz1, zz2, zz3, zz4, zz5, zz6]
            refine wpTo_ready (rs := [8]) (by kernel_rfl) (by simp) ?_
            refine AllTo.cons (o := _) rfl (fun K hK => ?_) ?_
            · (try simp only [zz1, zz2, zz3])
              go_simp
              refine hK.out _ _ (fun hn => absurd (by decide) hn) ?_
              clear hK K
              try simp only [Act.put, zz1, zz2, zz3, zz4, zz5, zz6]
              refine wpTo_ready (rs := [9]) (by kernel_rfl) (by simp) ?_
              refine AllTo.cons (o := _) rfl (fun K hK => ?_) ?_
              · (try simp only [zz1, zz2, zz3])
                go_simp
                refine hK.out _ _ (fun hn => absurd (by decide) hn) ?_
                clear hK K
                try simp only [Act.put, zz1, zz2, zz3, zz4, zz5, zz6]
                refine wpTo_done (by kernel_rfl) ?_ _
                refine NoPanic.normal ?_
                go_wp2_with fail
                go_meet
                case rel => exact ⟨_, _, ((S1.drew.alloc _).appType [(r.types.getD 0 default)] HO.out HGR.out HAT.out (Nat.le_of_eq (by simp))).fin ⟨hL.out.lp, by simp; omega, hL.out.li⟩⟩
              exact AllTo.nil
            exact AllTo.nil
          exact AllTo.nil
        exact AllTo.nil
      exact AllTo.nil
    exact AllTo.nil
  · -- 12: no types
    go_wp2_with fail
    go_meet
    case rel => exact ⟨_, _, HS.out.noTypes.fin ⟨hL.out.lp, Nat.zero_le _, hL.out.li⟩⟩
  · -- as it is
    go_wp2_with fail
    go_meet
    case rel => exact ⟨r, h, HS.out.fin hL.out⟩
 case rest =>
  clear HS
  obtain ⟨r, h, s⟩ := hcut
  have HE := hide s.ls
  have HF := hide s.fr
  have HD := hide (s.done (reqCells r h))
  obtain ⟨a0, a1, a2, a3, a4, a5, a6, a7, a8, a9⟩ := reqFacts s.box
  have RR := s.res
  have q0 : wc.cell? ⟨w.heap.size, 0, none⟩ = some (.int .i64 0) := (RR 0 (by simp [zeroReq])).1
  have t0 := (RR 0 (by simp [zeroReq])).2
  have q1 : wc.cell? ⟨w.heap.size, 1, none⟩ = some (.int .i64 0) := (RR 1 (by simp [zeroReq])).1
  have t1 := (RR 1 (by simp [zeroReq])).2
  have q2 : wc.cell? ⟨w.heap.size, 2, none⟩ = some (.int .i64 0) := (RR 2 (by simp [zeroReq])).1
  have t2 := (RR 2 (by simp [zeroReq])).2
  have q3' : wc.cell? ⟨w.heap.size, 3, none⟩ = some (.int .i64 0) := (RR 3 (by simp [zeroReq])).1
  have t3 := (RR 3 (by simp [zeroReq])).2
  have q4 : wc.cell? ⟨w.heap.size, 4, none⟩ = some (.int .i64 0) := (RR 4 (by simp [zeroReq])).1
  have t4 := (RR 4 (by simp [zeroReq])).2
  have q5 : wc.cell? ⟨w.heap.size, 5, none⟩ = some (.int .i64 0) := (RR 5 (by simp [zeroReq])).1
  have t5 := (RR 5 (by simp [zeroReq])).2
  have q6 : wc.cell? ⟨w.heap.size, 6, none⟩ = some (.slice none 0 0) := (RR 6 (by simp [zeroReq])).1
  have t6 := (RR 6 (by simp [zeroReq])).2
  have q7 : wc.cell? ⟨w.heap.size, 7, none⟩ = some (.slice none 0 0) := (RR 7 (by simp [zeroReq])).1
  have t7 := (RR 7 (by simp [zeroReq])).2
  have q8 : wc.cell? ⟨w.heap.size, 8, none⟩ = some (.int .i64 0) := (RR 8 (by simp [zeroReq])).1
  have t8 := (RR 8 (by simp [zeroReq])).2
  have q9 : wc.cell? ⟨w.heap.size, 9, none⟩ = some (.slice none 0 0) := (RR 9 (by simp [zeroReq])).1
  have t9 := (RR 9 (by simp [zeroReq])).2
  clear s RR
  go_wp2_with fail
  refine bodyPost_ret (v := reqVal r h) (by simp [results, Tryz.results133, go_sem, reqVal, q0, q1, q2, q3', q4, q5, q6, q7, q8, q9]) rfl ?_
  exact ⟨r, h, rfl, unhide HE, HD.out.1, unhide HF, HD.out.2.1, HD.out.2.2⟩
end Go.Proofs.YtcblpoeeembniabGreatDoor
