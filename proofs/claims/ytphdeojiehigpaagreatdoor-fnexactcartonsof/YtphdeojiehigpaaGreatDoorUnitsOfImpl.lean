/- UnitsOf of the program. -/
import Derived.Test.YtphdeojiehigpaaGreatDoorGroupsOf
import Derived.Test.YtphdeojiehigpaaGreatDoorItemOf
import Derived.Test.YtphdeojiehigpaaGreatDoorInvRegion
namespace Go.Proofs.YtphdeojiehigpaaGreatDoor
open Go.RowKit Go.Shelf
set_option linter.unusedVariables false
attribute [local go_sem] Oper.semAt_some

/-- What is told: nil, of nothing; or a row that is owned. -/
def Told2 (w : World) (B : Nat) (v : Value) (L : List Int) : Prop := (v = .slice none 0 0 ∧ L = []) ∨ ∃ g cap, v = .slice (some ⟨g, 0, none⟩) L.length cap ∧ w.ownsRow B 3 1 (.slice (some ⟨g, 0, none⟩) L.length cap) L.length (ci L)
/-- Of the units that have come those of a group. -/
def pickOf (xs : List ItemV) (g : List Int) (pre : List (UnitOf xs)) : List Int := ((pre.map Fin.val).filter (inGroup xs g)).map fun (u : Nat) => (u : Int)
theorem pickOf_len (xs : List ItemV) (g : List Int) (pre : List (UnitOf xs)) : (pickOf xs g pre).length ≤ pre.length := by
  have := List.length_filter_le (inGroup xs g) (pre.map Fin.val)
  simpa [pickOf] using this
theorem pickOf_hit {xs : List ItemV} {g : List Int} {pre : List (UnitOf xs)} {x : UnitOf xs} (h : inGroup xs g x.val = true) : pickOf xs g (pre ++ [x]) = pickOf xs g pre ++ [((x.val : Nat) : Int)] := by simp [pickOf, h]
theorem pickOf_miss {xs : List ItemV} {g : List Int} {pre : List (UnitOf xs)} {x : UnitOf xs} (h : inGroup xs g x.val = false) : pickOf xs g (pre ++ [x]) = pickOf xs g pre := by simp [pickOf, h]
theorem pickOf_all {xs : List ItemV} {g : List Int} {pre : List (UnitOf xs)} (h : Come xs (unitsL xs).length pre) : pickOf xs g pre = pickTo xs g (unitsL xs).length := by
  rw [pickOf, h]; rfl

set_option maxRecDepth 100000 in
set_option maxHeartbeats 8000000 in
theorem unitsOf_any (r : ReqV) (h : ReqH) (k : Int) (w : World) (hr : RdReq w r h) (hs : r.small) (hg : ErrT w) :
    Calls Tryz.prog 62 #[reqVal r h, .int .i64 k] w fun e w' => ∃ v, e = .returned v ∧ Told2 w' w.heap.size v (unitsOfR r k) ∧ Below w.heap.size w w' := by
  obtain ⟨i0, hi, hz0, hz1, hz2⟩ := info_parts Tryz.infoInt
  have HGO := hide (fun W hb => groupsOf_any r h W (hr.mono hb) hs (hg.later hb))
  have HRI := hide hr.2.2
  have HLT := hide (rdr_lt (by omega) ItemV.len hr.2.2)
  have hmx : Tryz.prog.follows .mixedOrders = true := by kernel_rfl
  clear hr hg
  unfold reqVal
  unfold reqVal at HGO
  refine (callsIn_wide (n := 4)).1 ?_
  refine callsIn_of_wp_marks Tryz.func62 rfl trivial ?_ rfl
  simp only [Tryz.ntmps62, List.size_toArray, List.length_cons, List.length_nil, Nat.reduceAdd, Nat.reduceSub, Array.replicate_succ, Array.replicate_zero, List.push_toArray, List.append_toArray, List.nil_append, List.cons_append]
  gi_wp2_with fail
  have ka : Blk ((w.alloc (.cells #[.int .i64 r.way, .int .i64 r.pal.wd, .int .i64 r.pal.dp, .int .i64 r.pal.ht, .int .i64 r.pal.gram, .int .i64 r.classes, .slice h.ap r.pairs.length h.cp, .slice h.at' r.types.length h.ct, .int .i64 r.master, .slice h.ai r.items.length h.ci] 40)).alloc (.cells #[.int .i64 k] 3)) w.heap.size [.int .i64 r.way, .int .i64 r.pal.wd, .int .i64 r.pal.dp, .int .i64 r.pal.ht, .int .i64 r.pal.gram, .int .i64 r.classes, .slice h.ap r.pairs.length h.cp, .slice h.at' r.types.length h.ct, .int .i64 r.master, .slice h.ai r.items.length h.ci] := (Blk.allocAt [.int .i64 r.way, .int .i64 r.pal.wd, .int .i64 r.pal.dp, .int .i64 r.pal.ht, .int .i64 r.pal.gram, .int .i64 r.classes, .slice h.ap r.pairs.length h.cp, .slice h.at' r.types.length h.ct, .int .i64 r.master, .slice h.ai r.items.length h.ci] rfl).allocOld (by simp) _
  have kk : Blk ((w.alloc (.cells #[.int .i64 r.way, .int .i64 r.pal.wd, .int .i64 r.pal.dp, .int .i64 r.pal.ht, .int .i64 r.pal.gram, .int .i64 r.classes, .slice h.ap r.pairs.length h.cp, .slice h.at' r.types.length h.ct, .int .i64 r.master, .slice h.ai r.items.length h.ci] 40)).alloc (.cells #[.int .i64 k] 3)) (w.heap.size + 1) [.int .i64 k] := Blk.allocAt [.int .i64 k] (by simp)
  have h0 : Below w.heap.size w ((w.alloc (.cells #[.int .i64 r.way, .int .i64 r.pal.wd, .int .i64 r.pal.dp, .int .i64 r.pal.ht, .int .i64 r.pal.gram, .int .i64 r.classes, .slice h.ap r.pairs.length h.cp, .slice h.at' r.types.length h.ct, .int .i64 r.master, .slice h.ai r.items.length h.ci] 40)).alloc (.cells #[.int .i64 k] 3)) := ((Below.refl _ _).alloc (Nat.le_refl _) _).alloc (by simp) _
  have z0 : w.heap.size + 1 < ((w.alloc (.cells #[.int .i64 r.way, .int .i64 r.pal.wd, .int .i64 r.pal.dp, .int .i64 r.pal.ht, .int .i64 r.pal.gram, .int .i64 r.classes, .slice h.ap r.pairs.length h.cp, .slice h.at' r.types.length h.ct, .int .i64 r.master, .slice h.ai r.items.length h.ci] 40)).alloc (.cells #[.int .i64 k] 3)).heap.size := by simp
  generalize ((w.alloc (.cells #[.int .i64 r.way, .int .i64 r.pal.wd, .int .i64 r.pal.dp, .int .i64 r.pal.ht, .int .i64 r.pal.gram, .int .i64 r.classes, .slice h.ap r.pairs.length h.cp, .slice h.at' r.types.length h.ct, .int .i64 r.master, .slice h.ai r.items.length h.ci] 40)).alloc (.cells #[.int .i64 k] 3)) = wA at *
  refine ⟨trivial, ?_⟩
  refine (callsIn_wide.2 (HGO.out wA h0)).mono ?_
  rintro e w1 ⟨gg, gc, rows, rfl, ho1, hrows, hb1⟩
  have KA := hide (Blk.below hb1 (by omega) ka)
  have KK := hide (Blk.below hb1 z0 kk)
  have H1 := hide (h0.trans (hb1.mono h0.size))
  have z1 : w.heap.size + 1 < w1.heap.size := Nat.lt_of_lt_of_le z0 hb1.size
  have O1 := hide ho1
  have hl4 : rows.length ≤ 4 := by rw [show rows.length = (groupsR r).length by rw [← hrows, List.length_map]]; exact groupsR_len r
  have HLN : Hid (rows.length = (groupsR r).length) := by rw [← hrows, List.length_map]; rfl
  have HRW := hide hrows
  obtain ⟨m, hm⟩ : ∃ m, rows.length = m := ⟨_, rfl⟩
  rw [hm] at hl4 HLN ⊢
  have HM := hide hm
  clear ka kk h0 z0 hb1 ho1 hrows HGO hm
  have k1 : w1.cell? ⟨w.heap.size + 1, 0, none⟩ = some (.int .i64 k) := (KK.out 0 (by simp)).1
  cases hin : inB k 0 ((m : Int) - 1)
  · have HZ : Hid (unitsOfR r k = []) := unitsOfR_out (by rw [← unhide HLN]; exact hin)
    gi_wp2_with fail
    refine ⟨trivial, ?_⟩
    refine (callsIn_wide.2 (within_any _ _ _ _)).mono ?_
    rintro e w2 ⟨rfl, hw⟩
    subst w2
    rw [hin]
    gi_wp2
    exact ⟨_, results_tmp rfl _ _ _, _, rfl, .inl ⟨rfl, unhide HZ⟩, H1.out.alloc H1.out.size _⟩
  obtain ⟨kn, rfl⟩ : ∃ kn : Nat, k = (kn : Int) := ⟨k.toNat, by rw [inB_iff] at hin; omega⟩
  have hkm : kn < m := by rw [inB_iff] at hin; omega
  have hcl : classI r = 0 := groups_class (by rw [← unhide HLN]; exact hkm)
  have HZ : Hid (unitsOfR r kn = pickTo r.items (rows.getD kn default).l (unitsL r.items).length) := by
    rw [Hid, unitsOfR_in (by rw [← unhide HLN]; exact hkm), ← unhide HRW, map_getD_l rows kn (by rw [unhide HM]; exact hkm), unitsR, itemsR_zero hcl]
  have HGD := hide (good_items hcl)
  have hN : (unitsL r.items).length ≤ 12 := HGD.out.units
  obtain ⟨crow, _⟩ := O1.out.cell kn (by rw [unhide HM]; exact hkm)
  have hrow1 := O1.out.rws.row kn (by rw [unhide HM]; exact hkm)
  have hgg := O1.out.out.lt gg rfl
  have hll : (rows.getD kn default).l.length ≤ 4 := by
    have := groupsR_row r kn (by rw [← unhide HLN]; exact hkm)
    rwa [← unhide HRW, map_getD_l rows kn (by rw [unhide HM]; exact hkm)] at this
  unfold RowV.val at crow
  generalize rows.getD kn default = row at crow hrow1 HZ hll
  have HRD := hide (own_reads hrow1)
  have hrg := hrow1.lt
  have CROW := hide crow
  clear hrow1 hcl O1 HRW HLN HM crow
  have a9 : w1.cell? ⟨w.heap.size, 9, none⟩ = some (.slice h.ai r.items.length h.ci) := (KA.out 9 (by simp)).1
  gi_wp2_with fail
  refine ⟨trivial, ?_⟩
  refine (callsIn_wide.2 (within_any _ _ _ _)).mono ?_
  rintro e w2 ⟨rfl, hw⟩
  subst w2
  rw [hin]
  have s3 : Blk (((w1.alloc (.cells #[.slice (some ⟨gg, 0, none⟩) m gc] 89)).alloc (.cells #[] 3)).alloc (.cells #[.slice (some ⟨w1.heap.size + 1, 0, none⟩) 0 0] 29)) w1.heap.size [.slice (some ⟨gg, 0, none⟩) m gc] := ((Blk.allocAt [.slice (some ⟨gg, 0, none⟩) m gc] rfl).allocOld (by simp) _).allocOld (by simp; omega) _
  have b3 : Boxed (((w1.alloc (.cells #[.slice (some ⟨gg, 0, none⟩) m gc] 89)).alloc (.cells #[] 3)).alloc (.cells #[.slice (some ⟨w1.heap.size + 1, 0, none⟩) 0 0] 29)) (w1.heap.size + 1 + 1) 29 (.slice (some ⟨w1.heap.size + 1, 0, none⟩) 0 0) := by
    have := Boxed.new ((w1.alloc (.cells #[.slice (some ⟨gg, 0, none⟩) m gc] 89)).alloc (.cells #[] 3)) 29 (.slice (some ⟨w1.heap.size + 1, 0, none⟩) 0 0)
    simpa using this
  have o3 : (((w1.alloc (.cells #[.slice (some ⟨gg, 0, none⟩) m gc] 89)).alloc (.cells #[] 3)).alloc (.cells #[.slice (some ⟨w1.heap.size + 1, 0, none⟩) 0 0] 29)).ownsRow (w1.heap.size + 1) 3 1 (.slice (some ⟨w1.heap.size + 1, 0, none⟩) 0 0) 0 [] := by
    have := World.ownsRow_lit (e := 3) (w1.alloc (.cells #[.slice (some ⟨gg, 0, none⟩) m gc] 89)) #[] 0 (base := w1.heap.size + 1) (size := 1) (by simp) (Nat.zero_le _) rfl
    rw [World.size_alloc] at this
    exact own_later this ((Below.refl _ _).alloc (Nat.le_refl _) _)
  have hb3 : Below w1.heap.size w1 (((w1.alloc (.cells #[.slice (some ⟨gg, 0, none⟩) m gc] 89)).alloc (.cells #[] 3)).alloc (.cells #[.slice (some ⟨w1.heap.size + 1, 0, none⟩) 0 0] 29)) := (((Below.refl _ _).alloc (Nat.le_refl _) _).alloc (by simp) _).alloc (by simp; omega) _
  have z3 : w1.heap.size + 1 + 1 < (((w1.alloc (.cells #[.slice (some ⟨gg, 0, none⟩) m gc] 89)).alloc (.cells #[] 3)).alloc (.cells #[.slice (some ⟨w1.heap.size + 1, 0, none⟩) 0 0] 29)).heap.size := by simp
  have a9' : (((w1.alloc (.cells #[.slice (some ⟨gg, 0, none⟩) m gc] 89)).alloc (.cells #[] 3)).alloc (.cells #[.slice (some ⟨w1.heap.size + 1, 0, none⟩) 0 0] 29)).cell? ⟨w.heap.size, 9, none⟩ = some (.slice h.ai r.items.length h.ci) := (hb3.cell (p := ⟨w.heap.size, 9, none⟩) (by show w.heap.size < _; omega)).trans a9
  have HS3 := hide s3
  have HB3 := hide b3
  have HO3 := hide o3
  have HBB3 := hide hb3
  clear s3 b3 o3 hb3
  gi_wp2_with fail
  have s3 := unhide HS3
  have b3 := unhide HB3
  have o3 := unhide HO3
  have hb3 := unhide HBB3
  clear HS3 HB3 HO3 HBB3 a9'
  generalize (((w1.alloc (.cells #[.slice (some ⟨gg, 0, none⟩) m gc] 89)).alloc (.cells #[] 3)).alloc (.cells #[.slice (some ⟨w1.heap.size + 1, 0, none⟩) 0 0] 29)) = w3 at *
  refine ⟨trivial, ?_⟩
  refine (eachUnit_in Fence.wide _ trivial rfl _ _ _ _).mono ?_
  rintro e w4 ⟨rfl, hw4⟩
  have hb4 : Below w3.heap.size w3 w4 := by rw [hw4]; exact (Below.refl _ _).alloc (Nat.le_refl _) _
  have c4 : w4.cell? ⟨w3.heap.size, 0, none⟩ = some (.slice h.ai r.items.length h.ci) := by rw [hw4]; exact (Boxed.new w3 _ _).cell
  have z4 : w3.heap.size < w4.heap.size := by rw [hw4]; simp
  have b4 := boxed_later b3 hb4
  have o4 := own_later o3 hb4
  have hb14 := hb3.trans (hb4.mono hb3.size)
  have KS := hide (Blk.below hb4 (by omega) s3)
  have KA4 := hide (Blk.below hb14 (by omega) KA.out)
  have KK4 := hide (Blk.below hb14 (by omega) KK.out)
  have RD4 := hide (HRD.out.mono hb14)
  have CR4 := hide ((hb14.cell (p := ⟨gg, kn, none⟩) hgg.2).trans CROW.out)
  have H4 := hide (H1.out.trans (hb14.mono H1.out.size))
  have RI4 := hide (rdr_low HRI.out H4.out HLT.out)
  have HLT2 : Hid (0 < r.items.length → ∀ x, h.ai = some x → x.block < w1.heap.size + 1) := fun hn x hx => Nat.lt_of_lt_of_le (HLT.out hn x hx) (by omega)
  have hs4 : w1.heap.size + 1 ≤ w4.heap.size := by omega
  generalize hNB : w1.heap.size = NB at *
  have HNB := hide hNB
  generalize hBs : w3.heap.size = Bs at *
  have HBS := hide hBs
  clear s3 b3 o3 hb3 hb4 hw4 hb14 KA KK HRD CROW H1 HRI hNB hBs k1 a9
  gi_wp2_with fail
  refine wpIn_rangeFunc_ownG rfl (by omega) (gf := 143) (lb := #[.pointer (some ⟨Bs, 0, none⟩)]) rfl trivial (enters_of Tryz.func143 (by kernel_rfl) rfl)
    (each_stops Fence.wide (4 - 1) trivial rfl (by omega) Bs (NB + 1) h.ai r.items.length h.ci r.items HGD.out w4 z4 hs4 c4 RI4.out HLT2.out) belowK_t (belowK_b hs4) (Below.refl _ _) (fun _ => rfl)
    (fun pre W => (∃ v, Boxed W (NB + 1 + 1) 29 v ∧ W.ownsRow (NB + 1) 3 1 v (pickOf r.items row.l pre).length (ci (pickOf r.items row.l pre)) ∧ ∃ g cap, v = .slice (some ⟨g, 0, none⟩) (pickOf r.items row.l pre).length cap) ∧ Below (NB + 1) w4 W)
    (fun _ _ _ => False)
    (OwnFrom.and (Own.from (holdsRow_own (NB + 1) (NB + 1 + 1) 29 3 1 (fun pre : List (UnitOf r.items) => (pickOf r.items row.l pre).length) (fun pre => ci (pickOf r.items row.l pre)) (fun pre v => ∃ g cap, v = .slice (some ⟨g, 0, none⟩) (pickOf r.items row.l pre).length cap)) _) (ownFrom_below hs4 hs4))
    (fun _ _ _ _ _ hs _ _ => hs)
    ⟨⟨_, b4, o4, _, _, rfl⟩, Below.refl _ _⟩
    ?act ?assign ?body ?done ?stop
  case assign =>
    intro l x W K hK
    gi_wp2
    exact hK
  case body =>
    rintro l pre x W ⟨⟨v, hv, hrow, hsh⟩, hB⟩ hlt
    have HSH := hide hsh
    clear hsh
    obtain ⟨p, hp, hpl⟩ := place_in x
    have hpk := pickOf_len r.items row.l pre
    have cS : W.cell? ⟨NB, 0, none⟩ = some (.slice (some ⟨gg, 0, none⟩) m gc) := ((Blk.low KS.out hB (by omega)) 0 (by simp)).1
    have cK : W.cell? ⟨w.heap.size + 1, 0, none⟩ = some (.int .i64 kn) := ((Blk.low KK4.out hB (by omega)) 0 (by simp)).1
    have cA : W.cell? ⟨w.heap.size, 9, none⟩ = some (.slice h.ai r.items.length h.ci) := ((Blk.low KA4.out hB (by omega)) 9 (by simp)).1
    have cR : W.cell? ⟨gg, kn, none⟩ = some (.slice (some ⟨row.g, 0, none⟩) row.l.length row.cap) := (hB.cell (p := ⟨gg, kn, none⟩) (by show gg < _; omega)).trans CR4.out
    obtain ⟨b, off, ha, hc⟩ := (rdr_low RI4.out hB HLT2.out).2 p hpl
    rw [ha] at cA
    have hig : inGroup r.items row.l x.val = hasI row.l (r.items.getD p default).cls := by
      unfold inGroup
      rw [show (unitsL r.items).getD x.val 0 = (p : Int) from hp]
      rfl
    generalize r.items.getD p default = q at hc hig
    have d5 : W.cell? ⟨b, off + p * 7 + 5, none⟩ = some (.int .i64 q.cls) := hc 5 (by omega)
    have HRW : Hid (∀ i, Rd (W.drewN i) (some ⟨row.g, 0, none⟩) row.l.length row.l) := fun i => by
      have h0 : Rd W (some ⟨row.g, 0, none⟩) row.l.length row.l := ⟨RD4.out.1, fun j hj => by
        obtain ⟨b', off', hb', hc'⟩ := RD4.out.2 j hj
        refine ⟨b', off', hb', (hB.cell (p := ⟨b', off' + j, none⟩) ?_).trans hc'⟩
        injection hb' with hb'
        injection hb' with e1 _ _
        show b' < _
        omega⟩
      exact h0
    have HV := hide hv
    have HROW := hide hrow
    have HB := hide hB
    have HIG := hide hig
    have hbs := hB.size
    rw [hp]
    obtain ⟨xv, hxe⟩ : ∃ xv : Nat, x.val = xv := ⟨_, rfl⟩
    have hx12 : xv ≤ 12 := by have := x.2; omega
    have hpp : (pickOf r.items row.l pre).length ≤ 12 := by omega
    rw [hxe]
    have HXE := hide hxe
    clear hc ha hv hrow hB hig hpk hp hxe
    gi_wp2_with fail
    refine wpIn_region_any hmx ?_
    change wpAnyIn _ _ _ _ _ _ 11 #[false, false, false, false, false, false, false, false, false, false, false] _ (World.drew _)
    refine wpAnyIn_inv (fun listed a' w' => ∃ b0 b1 b2 b3 b4 b5 b6 b7 b8 b9 b10 : Bool, listed = #[b0, b1, b2, b3, b4, b5, b6, b7, b8, b9, b10] ∧ w' = W.drew ∧ a' = { tmps := #[.agg #[.int .i64 r.way, .int .i64 r.pal.wd, .int .i64 r.pal.dp, .int .i64 r.pal.ht, .int .i64 r.pal.gram, .int .i64 r.classes, .slice h.ap r.pairs.length h.cp, .slice h.at' r.types.length h.ct, .int .i64 r.master, .slice h.ai r.items.length h.ci], .int .i64 kn, .pointer (some ⟨w.heap.size, 0, none⟩), .pointer (some ⟨w.heap.size + 1, 0, none⟩), .slice none 0 0, .pointer (some ⟨NB, 0, none⟩), .pointer (some ⟨NB + 1 + 1, 0, none⟩), .int .i64 xv, .int .i64 p, .agg #[.int .i64 r.way, .int .i64 r.pal.wd, .int .i64 r.pal.dp, .int .i64 r.pal.ht, .int .i64 r.pal.gram, .int .i64 r.classes, .slice h.ap r.pairs.length h.cp, .slice h.at' r.types.length h.ct, .int .i64 r.master, .slice h.ai r.items.length h.ci], .slice (some ⟨gg, 0, none⟩) m gc, .int .i64 kn, .slice (some ⟨gg, 0, none⟩) m gc, .int .i64 m, .int .i64 ((m : Int) - 1), .bool true, .bool false, .slice (some ⟨NB + 1, 0, none⟩) 0 0, .pointer (some ⟨w.heap.size, 9, none⟩), .slice h.ai r.items.length h.ci, .func (.func 143) #[] #[.pointer (some ⟨Bs, 0, none⟩)], .int .i64 xv, .int .i64 p, (if b0 = true then .slice (some ⟨gg, 0, none⟩) m gc else undef), (if b1 = true then .int .i64 kn else undef), (if b2 = true then .pointer (some ⟨gg, kn, none⟩) else undef), (if b3 = true then .slice (some ⟨row.g, 0, none⟩) row.l.length row.cap else undef), (if b4 = true then .pointer (some ⟨w.heap.size, 9, none⟩) else undef), (if b5 = true then .slice (some ⟨b, off, none⟩) r.items.length h.ci else undef), (if b6 = true then .int .i64 p else undef), (if b7 = true then .pointer (some ⟨b, off + p * 7, none⟩) else undef), (if b8 = true then .pointer (some ⟨b, off + p * 7 + 5, none⟩) else undef), (if b9 = true then .int .i64 q.cls else undef), (if b10 = true then .bool (hasI row.l q.cls) else undef), undef, undef, undef, undef, undef], defers := [] }) ?step ?fin 11 _ _ _ ⟨false, false, false, false, false, false, false, false, false, false, false, rfl, rfl, by simp⟩ (by decide)
    case step =>
      rintro listed a' w' i o ⟨b0, b1, b2, b3, b4, b5, b6, b7, b8, b9, b10, rfl, rfl, rfl⟩ ho hl hall
      have hi : i < 11 := (Array.getElem?_eq_some_iff.1 ho).1
      obtain rfl | rfl | rfl | rfl | rfl | rfl | rfl | rfl | rfl | rfl | rfl : i = 0 ∨ i = 1 ∨ i = 2 ∨ i = 3 ∨ i = 4 ∨ i = 5 ∨ i = 6 ∨ i = 7 ∨ i = 8 ∨ i = 9 ∨ i = 10 := by omega
      · obtain rfl := Option.some.inj ho
        have hb : b0 = false := by simpa using hl
        subst hb
        clear ho hl hall hi
        refine wpOpIn_step rfl (fun K hK => ?_)
        go_simp
        refine hK _ _ ?_
        exact ⟨true, b1, b2, b3, b4, b5, b6, b7, b8, b9, b10, rfl, rfl, by simp⟩
      · obtain rfl := Option.some.inj ho
        have hb : b1 = false := by simpa using hl
        subst hb
        clear ho hl hall hi
        refine wpOpIn_step rfl (fun K hK => ?_)
        go_simp
        refine hK _ _ ?_
        exact ⟨b0, true, b2, b3, b4, b5, b6, b7, b8, b9, b10, rfl, rfl, by simp⟩
      · obtain rfl := Option.some.inj ho
        have hb : b2 = false := by simpa using hl
        subst hb
        have e0 : b0 = true := by simpa using hall ⟨0, .data⟩ (by simp) rfl
        subst e0
        have e1 : b1 = true := by simpa using hall ⟨1, .data⟩ (by simp) rfl
        subst e1
        clear ho hl hall hi
        refine wpOpIn_step rfl (fun K hK => ?_)
        go_simp
        refine hK _ _ ?_
        exact ⟨true, true, true, b3, b4, b5, b6, b7, b8, b9, b10, rfl, rfl, by simp⟩
      · obtain rfl := Option.some.inj ho
        have hb : b3 = false := by simpa using hl
        subst hb
        have e2 : b2 = true := by simpa using hall ⟨2, .data⟩ (by simp) rfl
        subst e2
        clear ho hl hall hi
        refine wpOpIn_step rfl (fun K hK => ?_)
        go_simp
        refine hK _ _ ?_
        exact ⟨b0, b1, true, true, b4, b5, b6, b7, b8, b9, b10, rfl, rfl, by simp⟩
      · obtain rfl := Option.some.inj ho
        have hb : b4 = false := by simpa using hl
        subst hb
        clear ho hl hall hi
        refine wpOpIn_step rfl (fun K hK => ?_)
        go_simp
        refine hK _ _ ?_
        exact ⟨b0, b1, b2, b3, true, b5, b6, b7, b8, b9, b10, rfl, rfl, by simp⟩
      · obtain rfl := Option.some.inj ho
        have hb : b5 = false := by simpa using hl
        subst hb
        have e4 : b4 = true := by simpa using hall ⟨4, .data⟩ (by simp) rfl
        subst e4
        clear ho hl hall hi
        refine wpOpIn_step rfl (fun K hK => ?_)
        go_simp
        refine hK _ _ ?_
        exact ⟨b0, b1, b2, b3, true, true, b6, b7, b8, b9, b10, rfl, rfl, by simp⟩
      · obtain rfl := Option.some.inj ho
        have hb : b6 = false := by simpa using hl
        subst hb
        clear ho hl hall hi
        refine wpOpIn_step rfl (fun K hK => ?_)
        go_simp
        refine hK _ _ ?_
        exact ⟨b0, b1, b2, b3, b4, b5, true, b7, b8, b9, b10, rfl, rfl, by simp⟩
      · obtain rfl := Option.some.inj ho
        have hb : b7 = false := by simpa using hl
        subst hb
        have e5 : b5 = true := by simpa using hall ⟨5, .data⟩ (by simp) rfl
        subst e5
        have e6 : b6 = true := by simpa using hall ⟨6, .data⟩ (by simp) rfl
        subst e6
        clear ho hl hall hi
        refine wpOpIn_step rfl (fun K hK => ?_)
        go_simp
        refine hK _ _ ?_
        exact ⟨b0, b1, b2, b3, b4, true, true, true, b8, b9, b10, rfl, rfl, by simp⟩
      · obtain rfl := Option.some.inj ho
        have hb : b8 = false := by simpa using hl
        subst hb
        have e7 : b7 = true := by simpa using hall ⟨7, .data⟩ (by simp) rfl
        subst e7
        clear ho hl hall hi
        refine wpOpIn_step rfl (fun K hK => ?_)
        go_simp
        refine hK _ _ ?_
        exact ⟨b0, b1, b2, b3, b4, b5, b6, true, true, b9, b10, rfl, rfl, by simp⟩
      · obtain rfl := Option.some.inj ho
        have hb : b9 = false := by simpa using hl
        subst hb
        have e8 : b8 = true := by simpa using hall ⟨8, .data⟩ (by simp) rfl
        subst e8
        clear ho hl hall hi
        refine wpOpIn_step rfl (fun K hK => ?_)
        go_simp
        refine hK _ _ ?_
        exact ⟨b0, b1, b2, b3, b4, b5, b6, b7, true, true, b10, rfl, rfl, by simp⟩
      · obtain rfl := Option.some.inj ho
        have hb : b10 = false := by simpa using hl
        subst hb
        have e3 : b3 = true := by simpa using hall ⟨3, .data⟩ (by simp) rfl
        subst e3
        have e9 : b9 = true := by simpa using hall ⟨9, .data⟩ (by simp) rfl
        subst e9
        clear ho hl hall hi
        refine wpOpIn_step rfl (fun K hK => ?_)
        go_simp
        refine ⟨trivial, ?_⟩
        refine (CallsIn.inRound l (callsIn_wide.2 (containsInt_any _ _ _ row.l q.cls _ (by exact HRW.out 1) (by omega)))).mono ?_
        rintro e w5 ⟨rfl, hw5⟩
        subst w5
        refine hK _ _ ?_
        exact ⟨b0, b1, b2, true, b4, b5, b6, b7, b8, true, true, rfl, rfl, by simp⟩
    rintro listed a' w' ⟨b0, b1, b2, b3, b4, b5, b6, b7, b8, b9, b10, rfl, rfl, rfl⟩ hall
    have hb : b0 = true := by
      have h9 := hall 0 _ rfl (by
        intro e he hbd
        simp at he
        )
      simpa using h9
    subst hb
    have hb : b1 = true := by
      have h9 := hall 1 _ rfl (by
        intro e he hbd
        simp at he
        )
      simpa using h9
    subst hb
    have hb : b2 = true := by
      have h9 := hall 2 _ rfl (by
        intro e he hbd
        simp at he
        rcases he with rfl | rfl <;> simp
        )
      simpa using h9
    subst hb
    have hb : b3 = true := by
      have h9 := hall 3 _ rfl (by
        intro e he hbd
        simp at he
        rcases he with rfl <;> simp
        )
      simpa using h9
    subst hb
    have hb : b4 = true := by
      have h9 := hall 4 _ rfl (by
        intro e he hbd
        simp at he
        )
      simpa using h9
    subst hb
    have hb : b5 = true := by
      have h9 := hall 5 _ rfl (by
        intro e he hbd
        simp at he
        rcases he with rfl <;> simp
        )
      simpa using h9
    subst hb
    have hb : b6 = true := by
      have h9 := hall 6 _ rfl (by
        intro e he hbd
        simp at he
        )
      simpa using h9
    subst hb
    have hb : b7 = true := by
      have h9 := hall 7 _ rfl (by
        intro e he hbd
        simp at he
        rcases he with rfl | rfl <;> simp
        )
      simpa using h9
    subst hb
    have hb : b8 = true := by
      have h9 := hall 8 _ rfl (by
        intro e he hbd
        simp at he
        rcases he with rfl <;> simp
        )
      simpa using h9
    subst hb
    have hb : b9 = true := by
      have h9 := hall 9 _ rfl (by
        intro e he hbd
        simp at he
        rcases he with rfl <;> simp
        )
      simpa using h9
    subst hb
    have hb : b10 = true := by
      have h9 := hall 10 _ rfl (by
        intro e he hbd
        simp at he
        rcases he with rfl | rfl <;> simp
        )
      simpa using h9
    subst hb
    clear hall
    simp only [if_true]
    obtain ⟨hb, hhb⟩ : ∃ hb, hasI row.l q.cls = hb := ⟨_, rfl⟩
    have HIG2 : Hid (inGroup r.items row.l x.val = hb) := HIG.out.trans hhb
    rw [hhb]
    clear hhb HRW d5 cS cK cA cR
    have c8 := HV.out.cell
    have v8 : W.drew.cell? ⟨NB + 1 + 1, 0, none⟩ = some v := c8
    have rowd : W.drew.ownsRow (NB + 1) 3 1 v (pickOf r.items row.l pre).length (ci (pickOf r.items row.l pre)) := unhide HROW
    have vd : Boxed W.drew (NB + 1 + 1) 29 v := unhide HV
    have hbd : Below (NB + 1) w4 W.drew := HB.out.drew
    have hbd1 : Below (NB + 1) W W.drew := (Below.refl _ _).drew
    have hkd : KeepsOthers W W.drew := KeepsOthers.drew _
    have hbds : w4.heap.size ≤ W.drew.heap.size := hbd.size
    cases hb
    · gi_wp2
      exact ⟨hkd.from _, hbd1, ⟨v, vd, by rw [pickOf_miss HIG2.out]; exact rowd, by rw [pickOf_miss HIG2.out]; exact unhide HSH⟩, hbd⟩
    · gi_wp2_with (gi_at_builtin; refine wpListIn_append_own _ rfl _ _ 29 rfl (NB + 1) 3 i0 (.int .i64 0) 1 8 Tryz.underlying29 hi hz0 hz1 hz2 rfl (by decide) _ _ _ rfl (rowd.alloc _) ⟨W.heap.size, 0, none⟩ 1 1 [.int .i64 xv] rfl rfl (cell_one_new _ _ _) (by simp [Value.oneCell']) (by (try unfold maxLen); omega) (by (try unfold maxLen); omega) (by simp; omega) ?_; intro v' w5 hown' hgrow _; obtain ⟨g', cap', rfl⟩ := ownsRow_succ hown'; obtain ⟨hv1, hv2, hr2, hk2, hb2⟩ := vd.appended (by decide) rowd (by omega) (by omega) hown' hgrow; have hc1 := hv1.cell; have hf1 := hv1.frozen)
      have hpk : pickOf r.items row.l (pre ++ [x]) = pickOf r.items row.l pre ++ [((xv : Nat) : Int)] := by rw [← unhide HXE]; exact pickOf_hit HIG2.out
      exact ⟨(hkd.trans hk2).from _, hbd1.trans hb2, ⟨_, hv2, by rw [hpk]; simpa [ci] using hr2, g', cap', by rw [hpk, List.length_append]; rfl⟩, hbd.trans hb2⟩
  case done =>
    rintro D ys W hD hys ⟨⟨v, hv, hrow, g, cap, rfl⟩, hB⟩ hK
    have hc := hv.cell
    rw [pickOf_all hys] at hc hrow
    have HROW := hide hrow
    have HB := hide hB
    have HK := hide hK
    have hs1 := H4.out.size
    clear hys hrow hB hv hK
    gi_wp2
    refine ⟨by simp, .inl ⟨_, _, rfl, run_takeDeferred HK.out, ?_⟩⟩
    refine ⟨_, results_tmp rfl _ _ _, _, rfl, .inr ⟨g, cap, by rw [unhide HZ]; rfl, ?_⟩, (H4.out.trans (HB.out.mono (by omega))).trans (belowK_b (w := w) (Nat.le_refl _) W D _ _ (by omega) HK.out rfl rfl)⟩
    rw [unhide HZ]
    exact World.ownsRow.mono (ownsRow_putObj HROW.out _ HK.out rfl) (by omega)
  case stop =>
    rintro D c pre W _ _ h _
    exact h.elim
end Go.Proofs.YtphdeojiehigpaaGreatDoor
