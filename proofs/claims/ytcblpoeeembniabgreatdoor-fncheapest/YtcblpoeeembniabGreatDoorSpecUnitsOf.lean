/- UnitsOf of the model. -/
import Derived.Test.YtcblpoeeembniabGreatDoorGroupsOf
import Derived.BigQuiet
namespace Go.Proofs.YtcblpoeeembniabGreatDoor
open Go.RowKit
set_option linter.unusedVariables false
set_option linter.unusedSimpArgs false

theorem gb_app {w wr w5 : World} {D g : Nat} {o : Obj} (h : w.grownBy wr (some D)) (hg : (wr.alloc o).grownBy w5 (some g)) (hgd : g = D ∨ w.heap.size ≤ g) : w.grownBy w5 (some D) := by
 refine ⟨hg.os.trans h.os, hg.tape.trans h.tape, hg.output.trans h.output, Nat.le_trans h.size (Nat.le_trans (by simp) hg.size), fun k hk hne => ?_⟩
 have hk1 : k < wr.heap.size := Nat.lt_of_lt_of_le hk h.size
 have hkg : some k ≠ some g := by
  intro e
  injection e with e
  rcases hgd with h1 | h1
  · exact hne (by rw [e, h1])
  · omega
 exact ((hg.block k (by simp; omega) hkg).trans (Below.heap_alloc wr o k hk1)).trans (h.block k hk hne)
set_option maxRecDepth 100000 in
set_option maxHeartbeats 8000000 in
theorem specUnitsOf_any (r : ReqV) (h : ReqH) (k : Int) (w : World) (hr : RdReq w r h) (hs : r.small) :
 Calls Tryz.prog 95 #[reqVal r h, .int .i64 k] w fun e w' => ∃ g cap, e = .returned (.slice (some ⟨g, 0, none⟩) (unitsOfR r k).length cap) ∧ w'.ownsRow w.heap.size 3 1 (.slice (some ⟨g, 0, none⟩) (unitsOfR r k).length cap) (unitsOfR r k).length (ci (unitsOfR r k)) ∧ Below w.heap.size w w' := by
 obtain ⟨i0, hi, hz0, hz1, hz2⟩ := info_parts Tryz.infoInt
 have HR := hide hr
 clear hr
 unfold reqVal
 go_enter Tryz.func95, Tryz.ntmps95
 go_wp2_with fail
 have KA : Hid (Blk ((w.alloc (.cells #[.int .i64 r.way, .int .i64 r.pal.wd, .int .i64 r.pal.dp, .int .i64 r.pal.ht, .int .i64 r.pal.gram, .int .i64 r.classes, .slice h.ap r.pairs.length h.cp, .slice h.at' r.types.length h.ct, .int .i64 r.master, .slice h.ai r.items.length h.ci] 41)).alloc (.cells #[] 3)) w.heap.size [.int .i64 r.way, .int .i64 r.pal.wd, .int .i64 r.pal.dp, .int .i64 r.pal.ht, .int .i64 r.pal.gram, .int .i64 r.classes, .slice h.ap r.pairs.length h.cp, .slice h.at' r.types.length h.ct, .int .i64 r.master, .slice h.ai r.items.length h.ci]) := (Blk.allocAt [.int .i64 r.way, .int .i64 r.pal.wd, .int .i64 r.pal.dp, .int .i64 r.pal.ht, .int .i64 r.pal.gram, .int .i64 r.classes, .slice h.ap r.pairs.length h.cp, .slice h.at' r.types.length h.ct, .int .i64 r.master, .slice h.ai r.items.length h.ci] rfl).allocOld (by simp) _
 have O1 : Hid (((w.alloc (.cells #[.int .i64 r.way, .int .i64 r.pal.wd, .int .i64 r.pal.dp, .int .i64 r.pal.ht, .int .i64 r.pal.gram, .int .i64 r.classes, .slice h.ap r.pairs.length h.cp, .slice h.at' r.types.length h.ct, .int .i64 r.master, .slice h.ai r.items.length h.ci] 41)).alloc (.cells #[] 3)).ownsRow (w.heap.size + 1) 3 1 (.slice (some ⟨w.heap.size + 1, 0, none⟩) 0 0) 0 []) := by
  have := World.ownsRow_lit (e := 3) (w.alloc (.cells #[.int .i64 r.way, .int .i64 r.pal.wd, .int .i64 r.pal.dp, .int .i64 r.pal.ht, .int .i64 r.pal.gram, .int .i64 r.classes, .slice h.ap r.pairs.length h.cp, .slice h.at' r.types.length h.ct, .int .i64 r.master, .slice h.ai r.items.length h.ci] 41)) #[] 0 (base := w.heap.size + 1) (size := 1) (by simp) (Nat.zero_le _) rfl
  rw [World.size_alloc] at this
  exact this
 have H1 : Hid (Below w.heap.size w ((w.alloc (.cells #[.int .i64 r.way, .int .i64 r.pal.wd, .int .i64 r.pal.dp, .int .i64 r.pal.ht, .int .i64 r.pal.gram, .int .i64 r.classes, .slice h.ap r.pairs.length h.cp, .slice h.at' r.types.length h.ct, .int .i64 r.master, .slice h.ai r.items.length h.ci] 41)).alloc (.cells #[] 3))) := ((Below.refl _ _).alloc (Nat.le_refl _) _).alloc (by simp) _
 have z1 : w.heap.size + 1 < ((w.alloc (.cells #[.int .i64 r.way, .int .i64 r.pal.wd, .int .i64 r.pal.dp, .int .i64 r.pal.ht, .int .i64 r.pal.gram, .int .i64 r.classes, .slice h.ap r.pairs.length h.cp, .slice h.at' r.types.length h.ct, .int .i64 r.master, .slice h.ai r.items.length h.ci] 41)).alloc (.cells #[] 3)).heap.size := by simp
 generalize ((w.alloc (.cells #[.int .i64 r.way, .int .i64 r.pal.wd, .int .i64 r.pal.dp, .int .i64 r.pal.ht, .int .i64 r.pal.gram, .int .i64 r.classes, .slice h.ap r.pairs.length h.cp, .slice h.at' r.types.length h.ct, .int .i64 r.master, .slice h.ai r.items.length h.ci] 41)).alloc (.cells #[] 3)) = w1 at *
 refine (specGroupsOf_any r h w1 (HR.out.mono H1.out) hs).mono ?_
 rintro e w2 ⟨gg, gc, rows, rfl, ho2, hrows, hb2⟩
 have O2 := hide (own_later O1.out hb2)
 have H2 := hide (H1.out.trans (hb2.mono H1.out.size))
 have K2 := hide (Blk.below hb2 (by omega) KA.out)
 have z2 : w.heap.size + 1 < w2.heap.size := Nat.lt_of_lt_of_le z1 hb2.size
 have hl4 : rows.length ≤ 4 := by rw [show rows.length = (groupsR r).length by rw [← hrows, List.length_map]]; exact groupsR_len r
 have HLN : Hid (rows.length = (groupsR r).length) := by rw [← hrows, List.length_map]; rfl
 have HRW := hide hrows
 have G2 := hide ho2
 obtain ⟨m, hm⟩ : ∃ m, rows.length = m := ⟨_, rfl⟩
 rw [hm] at hl4 HLN ⊢
 have HM := hide hm
 have hz12 : w1.heap.size ≤ w2.heap.size := hb2.size
 clear hb2 O1 H1 KA hrows ho2 hm
 cases hin : inB k 0 ((m : Int) - 1)
 · have HZ : Hid (unitsOfR r k = []) := unitsOfR_out (by rw [← unhide HLN]; exact hin)
   clear HR K2
   go_wp2_with fail
   refine (l1In_any _ _ _ _).mono ?_
   rintro e w3 ⟨rfl, hw⟩
   subst w3
   rw [hin]
   go_wp2
   go_ret
   refine ⟨w.heap.size + 1, 0, by rw [unhide HZ]; rfl, ?_, unhide H2⟩
   rw [unhide HZ]
   exact World.ownsRow.mono O2.out (Nat.le_succ _)
 obtain ⟨kn, rfl⟩ : ∃ kn : Nat, k = (kn : Int) := ⟨k.toNat, by rw [inB_iff] at hin; omega⟩
 have hkm : kn < m := by rw [inB_iff] at hin; omega
 have hcl : classI r = 0 := groups_class (by rw [← unhide HLN]; exact hkm)
 have HZ : Hid (unitsOfR r kn = pickTo r.items (rows.getD kn default).l (unitsL r.items).length) := by
  rw [Hid, unitsOfR_in (by rw [← unhide HLN]; exact hkm), ← unhide HRW, map_getD_l rows kn (by rw [unhide HM]; exact hkm), unitsR, itemsR_zero hcl]
 have HGD := hide (good_items hcl)
 have hN : (unitsL r.items).length ≤ 12 := HGD.out.units
 obtain ⟨crow, _⟩ := G2.out.cell kn (by rw [unhide HM]; exact hkm)
 have hrow1 := G2.out.rws.row kn (by rw [unhide HM]; exact hkm)
 have hgg := G2.out.out.lt gg rfl
 have hll : (rows.getD kn default).l.length ≤ 4 := by
  have := groupsR_row r kn (by rw [← unhide HLN]; exact hkm)
  rwa [← unhide HRW, map_getD_l rows kn (by rw [unhide HM]; exact hkm)] at this
 unfold RowV.val at crow
 generalize rows.getD kn default = row at crow hrow1 HZ hll
 have HRD := hide (own_reads hrow1)
 have hrg := hrow1.lt
 have CROW := hide crow
 clear hrow1 hcl G2 HRW HLN HM crow
 go_wp2_with fail
 refine (l1In_any _ _ _ _).mono ?_
 rintro e w3 ⟨rfl, hw⟩
 subst w3
 rw [hin]
 obtain ⟨a0, a1, a2, a3, a4, a5, a6, a7, a8, a9⟩ := Blk.cs10 K2.out
 go_wp2_with fail
 refine (l6Units_any r h w2 (HR.out.mono H2.out) HGD.out).mono ?_
 rintro e w3 ⟨ug, uc, rfl, hu3, hb3⟩
 have hug : w2.heap.size ≤ ug := own_base hu3
 have UR := hide (Rd.of_owns hu3)
 have O3 := hide (own_later O2.out hb3)
 have H3 := hide (H2.out.trans (hb3.mono H2.out.size))
 have K3 := hide (Blk.below hb3 (by omega) K2.out)
 have RD3 := hide (HRD.out.mono hb3)
 have CR3 := hide ((hb3.cell (p := ⟨gg, kn, none⟩) hgg.2).trans CROW.out)
 have IR3 := hide ((HR.out.mono H3.out).2.2)
 have HLT := hide (rdr_lt7 ItemV.len HR.out.2.2)
 have hz23 : w2.heap.size ≤ w3.heap.size := hb3.size
 obtain ⟨N, hNe⟩ : ∃ N, (unitsL r.items).length = N := ⟨_, rfl⟩
 have HNE := hide hNe
 rw [hNe] at hN UR ⊢
 clear hb3 hu3 O2 H2 K2 HRD CROW hNe a0 a1 a2 a3 a4 a5 a6 a7 a8 a9
 go_wp2
 go_loopw [5, 8] (fun o i wr => ∃ u t g cap : Nat, u ≤ N ∧ t = (pickTo r.items row.l u).length ∧ i = .int .i64 u ∧ o = .slice (some ⟨g, 0, none⟩) t cap ∧ wr.ownsRow (w.heap.size + 1) 3 1 (.slice (some ⟨g, 0, none⟩) t cap) t (ci (pickTo r.items row.l u)) ∧ w3.grownBy wr (some (w.heap.size + 1)) ∧ (g = w.heap.size + 1 ∨ w3.heap.size ≤ g)) (fun _ i _ => N - (intOf i).toNat)
 case atStart => exact ⟨0, 0, w.heap.size + 1, 0, Nat.zero_le _, rfl, rfl, rfl, unhide O3, World.grownBy.refl _ _, Or.inl rfl⟩
 case round =>
  clear O3
  obtain ⟨u, t, g, cap, hu, ht, rfl, rfl, hown, hgb, hgd⟩ := hrel
  have ht12 : t ≤ 12 := by rw [ht]; have := pickTo_len r.items row.l u; omega
  have HT := hide ht
  have HOW := hide hown
  have HG := hide hgb
  have hsz := hgb.size
  by_cases hlu : u < N
  case neg =>
   obtain rfl : u = N := by omega
   clear hown hgb ht
   go_wp2
   go_ret
   have h1 := unhide HT
   have h2 := unhide HOW
   have e : unitsOfR r (kn : Int) = pickTo r.items row.l u := by rw [unhide HZ, unhide HNE]
   rw [← e] at h1 h2
   subst h1
   exact ⟨g, cap, rfl, World.ownsRow.mono h2 (Nat.le_succ _), H3.out.grown HG.out H3.out.size (fun b hb => by injection hb with hb; omega)⟩
  obtain ⟨p, hp, hpl⟩ := unitsL_lt r.items u (by rw [unhide HNE]; exact hlu)
  obtain ⟨ub, uoff, hua, huc⟩ := UR.out.2 u hlu
  injection hua with hua
  injection hua with e1 e2 _
  subst e1
  subst e2
  rw [Nat.zero_add, hp] at huc
  have cU : wr.cell? ⟨ug, u, none⟩ = some (.int .i64 p) := hgb.cell huc (fun e => by injection e with e; have e' : ug = w.heap.size + 1 := e; omega)
  have cA : wr.cell? ⟨w.heap.size, 9, none⟩ = some (.slice h.ai r.items.length h.ci) := hgb.cell (K3.out 9 (by simp)).1 (fun e => by injection e with e; have e' : w.heap.size = w.heap.size + 1 := e; omega)
  have cR : wr.cell? ⟨gg, kn, none⟩ = some (.slice (some ⟨row.g, 0, none⟩) row.l.length row.cap) := hgb.cell CR3.out (fun e => by injection e with e; have e' : gg = w.heap.size + 1 := e; omega)
  obtain ⟨b, off, ha, hc⟩ := IR3.out.2 p hpl
  have hbl : b < w.heap.size := HLT.out (by omega) _ ha
  rw [ha] at cA
  have hig : inGroup r.items row.l u = hasI row.l (r.items.getD p default).cls := by
   unfold inGroup
   rw [hp]
   rfl
  generalize r.items.getD p default = q at hc hig
  have d5 : wr.cell? ⟨b, off + p * 7 + 5, none⟩ = some (.int .i64 q.cls) := hgb.cell (hc 5 (by omega)) (fun e => by injection e with e; have e' : b = w.heap.size + 1 := e; omega)
  have HRD2 : Hid (∀ i, Rd (wr.drewN i) (some ⟨row.g, 0, none⟩) row.l.length row.l) := fun i => by
   have h0 : Rd wr (some ⟨row.g, 0, none⟩) row.l.length row.l := RD3.out.grown hgb (fun x hx => by injection hx with hx; subst hx; show row.g ≠ _; omega)
   exact h0
  obtain ⟨hb, hhb⟩ : ∃ hb, hasI row.l q.cls = hb := ⟨_, rfl⟩
  have HIG := hide (hig.trans hhb)
  have HHB := hide hhb
  clear hp hc ha hig hhb hown hgb ht huc
  go_wp2_with fail
  go_quiet ((go_at_call 120; exact Calls.quiet_of_same (l1Has_any _ _ _ row.l q.cls _ (HRD2.out _) (by omega))))
  rw [unhide HHB]
  clear cU cA cR d5 HRD2
  have HOW2 : Hid ((wr.drewN nq).ownsRow (w.heap.size + 1) 3 1 (.slice (some ⟨g, 0, none⟩) t cap) t (ci (pickTo r.items row.l u))) := unhide HOW
  have HG2 : Hid (w3.grownBy (wr.drewN nq) (some (w.heap.size + 1))) := gbi_drew HG.out nq
  have hsz2 : w3.heap.size ≤ (wr.drewN nq).heap.size := hsz
  clear HOW HG hsz
  generalize wr.drewN nq = wd at *
  cases hb
  · have HP := hide (pickTo_miss HIG.out)
    go_wp2
    go_roundw
    case rel => exact ⟨u + 1, t, g, cap, by omega, by rw [unhide HP]; exact unhide HT, by go_num, rfl, by rw [unhide HP]; exact unhide HOW2, unhide HG2, hgd⟩
    case measure => simp [intOf]; omega
  · have HP := hide (pickTo_hit HIG.out)
    go_wp2_with (first
     | (at_builtin; refine wpList_append_lies _ rfl _ _ 29 rfl (w.heap.size + 1) 3 i0 (.int .i64 0) 1 8 Tryz.underlying29 hi hz0 hz1 hz2 rfl (by decide) (.slice (some ⟨g, 0, none⟩) t cap) t (ci (pickTo r.items row.l u)) rfl (HOW2.out.alloc _) ⟨wd.heap.size, 0, none⟩ 1 1 [.int .i64 (u : Int)] rfl rfl (cell_one_new _ _ _) (by simp [Value.oneCell']) (by omega) (by unfold maxLen; omega) (by omega) (by simp; omega) (wd.heap.size + 1) (by simp) ?_; intro g5 cap5 w5 ho5 hg5 hat5 hlt5)
     | go_in)
    have HG5 := hide (gb_app HG2.out hg5 hgd)
    have hgd5 : g5 = w.heap.size + 1 ∨ w3.heap.size ≤ g5 := by
     rcases hat5 with e | e
     · have : g = g5 := by simpa [Value.ownBlock] using e
       omega
     · omega
    have HO5 : Hid (w5.ownsRow (w.heap.size + 1) 3 1 (.slice (some ⟨g5, 0, none⟩) (t + 1) cap5) (t + 1) (ci (pickTo r.items row.l u ++ [(u : Int)]))) := by simpa [ci, Hid] using ho5
    clear ho5 hg5 hat5 hlt5
    go_roundw
    case rel => exact ⟨u + 1, t + 1, g5, cap5, by omega, by rw [unhide HP, List.length_append, ← unhide HT]; rfl, by go_num, rfl, by rw [unhide HP]; exact unhide HO5, unhide HG5, hgd5⟩
    case measure => simp [intOf]; omega
end Go.Proofs.YtcblpoeeembniabGreatDoor
