/- An order and some of its units, drawn. -/
import Derived.Test.YtcblpoeeembniabGreatDoorDrawClass
import Derived.Test.YtcblpoeeembniabGreatDoorDraw2
import Derived.Test.YtcblpoeeembniabGreatDoorPackSt
import Derived.Deep.DeepMust
import Derived.Deep.DeepCutAuto
import Derived.Deep.RegionHeld3
namespace Go.Proofs.YtcblpoeeembniabGreatDoor
open Go Go.RowKit
set_option linter.unusedVariables false
set_option linter.unusedSimpArgs false

theorem ownOther_write {base e size n : Nat} {v : Value} {xs : List Value} {G : Nat} (hG : G < base) : ∀ (cs : List Value) (j : Nat) (w : World), w.ownsRow base e size v n xs → (writeCells w G j cs).ownsRow base e size v n xs
 | [], j, w, h => h
 | c :: cs, j, w, h => ownOther_write hG cs (j + 1) _ (ownsRow_setCell_below h hG _)
theorem own_lowD {w : World} {b0 base e size n g cap : Nat} {xs : List Value} (h : w.ownsRow base e size (.slice (some ⟨g, 0, none⟩) n cap) n xs) (hb : b0 ≤ base) : w.ownsRow b0 e size (.slice (some ⟨g, 0, none⟩) n cap) n xs := by
 refine ⟨h.1, ?_⟩
 rcases h.2 with h' | ⟨g', cap', cur, h1, h2, h3, h4⟩
 · exact Or.inl h'
 · exact Or.inr ⟨g', cap', cur, h1, by omega, h3, h4⟩
set_option maxRecDepth 100000 in
set_option maxHeartbeats 4000000 in
theorem l6List_any (a : Option Addr) (n c : Nat) (zs : List Int) (w : World) (hr : RdB w a n zs) (hn : n ≤ 1048576) (hlt : 0 < n → ∀ x, a = some x → x.block < w.heap.size) :
 Calls Tryz.prog 93 #[.slice a n c] w fun e w' => ∃ r h g cap us, e = .returned (.tuple #[reqVal r h, .slice (some ⟨g, 0, none⟩) us.length cap]) ∧ Loose r ∧ RdReq w' r h ∧ From w.heap.size h ∧ w'.ownsRow w.heap.size 3 1 (.slice (some ⟨g, 0, none⟩) us.length cap) us.length (ci us) ∧ us.length ≤ 5 ∧ Below w.heap.size w w' := by
 obtain ⟨i0, hi, hz0, hz1, hz2⟩ := info_parts Tryz.infoInt
 have HR := hide hr
 have HLT := hide hlt
 clear hr hlt
 obtain ⟨G, hG⟩ : ∃ G, G = w.heap.size := ⟨_, rfl⟩
 have hGw : w.heap.size ≤ G := Nat.le_of_eq hG.symm
 have HG := hide hG
 go_enter Tryz.func93, Tryz.ntmps93
 go_wp2_with fail
 have hb0 : Below w.heap.size w (w.alloc (.cells #[.int .i64 0, .int .i64 0, .int .i64 0, .int .i64 0, .int .i64 0, .int .i64 0, .slice none 0 0, .slice none 0 0, .int .i64 0, .slice none 0 0] 41)) := (Below.refl _ _).alloc (Nat.le_refl _) _
 have hz0w : (w.alloc (.cells #[.int .i64 0, .int .i64 0, .int .i64 0, .int .i64 0, .int .i64 0, .int .i64 0, .slice none 0 0, .slice none 0 0, .int .i64 0, .slice none 0 0] 41)).heap.size = G + 1 := by rw [hG]; simp
 have hk0 : Blk (w.alloc (.cells #[.int .i64 0, .int .i64 0, .int .i64 0, .int .i64 0, .int .i64 0, .int .i64 0, .slice none 0 0, .slice none 0 0, .int .i64 0, .slice none 0 0] 41)) G [.int .i64 0, .int .i64 0, .int .i64 0, .int .i64 0, .int .i64 0, .int .i64 0, .slice none 0 0, .slice none 0 0, .int .i64 0, .slice none 0 0] := by rw [hG]; exact Blk.allocAt [.int .i64 0, .int .i64 0, .int .i64 0, .int .i64 0, .int .i64 0, .int .i64 0, .slice none 0 0, .slice none 0 0, .int .i64 0, .slice none 0 0] rfl
 generalize (w.alloc (.cells #[.int .i64 0, .int .i64 0, .int .i64 0, .int .i64 0, .int .i64 0, .int .i64 0, .slice none 0 0, .slice none 0 0, .int .i64 0, .slice none 0 0] 41)) = W0 at *
 rw [← hG]
 clear hG
 refine (drawClass_any a n c zs W0 (HR.out.mono hb0) hn).mono ?_
 rintro e w3 ⟨r, h, rfl, hl, hrd, hfr, hb3⟩
 have hf2 : From (G + 1) h := by rw [hz0w] at hfr; exact hfr
 have HL := hide hl
 have KG3 := hide (Blk.below hb3 (by omega) hk0)
 have B3 := hide (hb0.trans (hb3.mono hb0.size))
 have RD3 := hide hrd
 have hs3 : G + 1 ≤ w3.heap.size := by have := hb3.size; omega
 have HF2 := hide hf2
 clear hl hrd hfr hb3 hk0 hb0 hf2
 simp only [reqVal]
 go_wp2_with fail
 have hb4 : Below w3.heap.size w3 (w3.alloc (.cells #[.int .i64 r.way, .int .i64 r.pal.wd, .int .i64 r.pal.dp, .int .i64 r.pal.ht, .int .i64 r.pal.gram, .int .i64 r.classes, .slice h.ap r.pairs.length h.cp, .slice h.at' r.types.length h.ct, .int .i64 r.master, .slice h.ai r.items.length h.ci] 41)) := (Below.refl _ _).alloc (Nat.le_refl _) _
 have ka4 : Blk (w3.alloc (.cells #[.int .i64 r.way, .int .i64 r.pal.wd, .int .i64 r.pal.dp, .int .i64 r.pal.ht, .int .i64 r.pal.gram, .int .i64 r.classes, .slice h.ap r.pairs.length h.cp, .slice h.at' r.types.length h.ct, .int .i64 r.master, .slice h.ai r.items.length h.ci] 41)) w3.heap.size [.int .i64 r.way, .int .i64 r.pal.wd, .int .i64 r.pal.dp, .int .i64 r.pal.ht, .int .i64 r.pal.gram, .int .i64 r.classes, .slice h.ap r.pairs.length h.cp, .slice h.at' r.types.length h.ct, .int .i64 r.master, .slice h.ai r.items.length h.ci] := Blk.allocAt [.int .i64 r.way, .int .i64 r.pal.wd, .int .i64 r.pal.dp, .int .i64 r.pal.ht, .int .i64 r.pal.gram, .int .i64 r.classes, .slice h.ap r.pairs.length h.cp, .slice h.at' r.types.length h.ct, .int .i64 r.master, .slice h.ai r.items.length h.ci] rfl
 have za4 : w3.heap.size < (w3.alloc (.cells #[.int .i64 r.way, .int .i64 r.pal.wd, .int .i64 r.pal.dp, .int .i64 r.pal.ht, .int .i64 r.pal.gram, .int .i64 r.classes, .slice h.ap r.pairs.length h.cp, .slice h.at' r.types.length h.ct, .int .i64 r.master, .slice h.ai r.items.length h.ci] 41)).heap.size := by simp
 generalize (w3.alloc (.cells #[.int .i64 r.way, .int .i64 r.pal.wd, .int .i64 r.pal.dp, .int .i64 r.pal.ht, .int .i64 r.pal.gram, .int .i64 r.classes, .slice h.ap r.pairs.length h.cp, .slice h.at' r.types.length h.ct, .int .i64 r.master, .slice h.ai r.items.length h.ci] 41)) = w4 at *
 have B4 := hide (B3.out.trans (hb4.mono B3.out.size))
 have KG4 := hide (Blk.below hb4 (by omega) KG3.out)
 have RD4 := hide (RD3.out.mono hb4)
 obtain ⟨A, hA⟩ : ∃ A, A = w3.heap.size := ⟨_, rfl⟩
 rw [← hA] at ka4 za4 hs3 ⊢
 have KA4 := hide ka4
 clear hb4 ka4 B3 KG3 RD3 hA
 obtain ⟨k, hkk⟩ : ∃ k, k = w4.heap.size := ⟨_, rfl⟩
 have HKK := hide hkk
 refine (l1New_any a n c zs w4 (HR.out.mono B4.out) hn (fun h0 x hx => by have := HLT.out h0 x hx; have := B4.out.size; omega)).mono ?_
 rintro e w5 ⟨rfl, hc5, hb5⟩
 rw [← hkk] at hc5 ⊢
 have hk4 : w4.heap.size ≤ k := Nat.le_of_eq hkk.symm
 clear hkk
 have hk5 : k < w5.heap.size := by
  obtain ⟨⟨i9, h9, _, _, hcell⟩, _⟩ := hc5
  rcases Nat.lt_or_ge k w5.heap.size with h | h
  · exact h
  · rw [Array.getElem?_eq_none h] at hcell
    cases hcell
 have CUR5 := hide hc5
 have D5 := hide hb5
 clear hc5 hb5
 obtain ⟨S5, hS5⟩ : ∃ s, s = w5.heap.size := ⟨_, rfl⟩
 have O6 := hide (own_lit0 (e := 3) (size := 1) w5 (Nat.le_refl _))
 rw [← hS5] at O6 hk5
 have D6 : Hid (Below w4.heap.size w4 (w5.alloc (.cells #[] 3))) := D5.out.alloc D5.out.size _
 have CUR6 := hide (CUR5.out.mono ((Below.refl _ _).alloc (Nat.le_refl _) (.cells #[] 3)))
 have hs6 : S5 < (w5.alloc (.cells #[] 3)).heap.size := by rw [hS5]; simp
 go_wp2_with fail
 rw [← hS5]
 generalize (w5.alloc (.cells #[] 3)) = w6 at *
 clear hS5 D5 CUR5
 refine (l1Below_any k a n c zs 6 w6 CUR6.out (by omega) (by omega)).mono ?_
 rintro e w7 ⟨x, rfl, hx0, hx6, hc7, hg7⟩
 obtain ⟨X, rfl⟩ : ∃ X : Nat, x = (X : Int) := ⟨x.toNat, by omega⟩
 have O7 := hide (World.ownsRow.kept O6.out hg7 (.inr (fun e => by simp [Value.ownBlock] at e; omega)))
 have D7 := hide (D6.out.grown hg7 D6.out.size (fun q hq => by cases hq; omega))
 have CUR7 := hide hc7
 clear hc7 hg7 O6 D6 CUR6
 go_wp2
 go_loopw [6, 8] (fun o i wr => ∃ (j g cap : Nat) (us : List Int), j ≤ X ∧ i = .int .i64 j ∧ us.length = j ∧ o = .slice (some ⟨g, 0, none⟩) j cap ∧ wr.ownsRow S5 3 1 (.slice (some ⟨g, 0, none⟩) j cap) j (ci us) ∧ Cur wr k a n c zs ∧ Below w4.heap.size w4 wr) (fun _ i _ => X - (intOf i).toNat)
 case atStart => exact ⟨0, S5, 0, [], Nat.zero_le _, rfl, rfl, rfl, unhide O7, unhide CUR7, unhide D7⟩
 case round =>
  clear O7 CUR7 D7
  obtain ⟨j, g, cap, us, hj, rfl, hul, rfl, hown, hcur, hb⟩ := hrel
  have HO := hide hown
  have HC := hide hcur
  have HB := hide hb
  have hgl := hown.lt g rfl
  by_cases hlj : j < X
  case pos =>
   clear hown hcur hb
   go_wp2_with fail
   refine (l1Below_any k a n c zs 14 wr HC.out (by omega) (by omega)).mono ?_
   rintro e w8 ⟨y, rfl, hy0, hy14, hc8, hg8⟩
   have O8 := hide (World.ownsRow.kept HO.out hg8 (.inr (fun e => by simp [Value.ownBlock] at e; omega)))
   have B8 := hide (HB.out.grown hg8 HB.out.size (fun q hq => by cases hq; omega))
   have hs8 : S5 ≤ w8.heap.size := by have := (O8.out.lt g rfl); omega
   have CUR8 := hide hc8
   clear hc8 hg8
   have O9 := hide (O8.out.alloc (.cells #[.int .i64 (y - 1)] 3))
   have B9 := hide (B8.out.alloc B8.out.size (.cells #[.int .i64 (y - 1)] 3))
   have CUR9 := hide (CUR8.out.mono ((Below.refl _ _).alloc (Nat.le_refl _) (.cells #[.int .i64 (y - 1)] 3)))
   have hw9 : IntKind.i64.wrap (y - 1) = y - 1 := by rw [IntKind.wrap_i64]; omega
   go_wp2_with (first
    | (at_builtin; refine wpList_append_lies _ rfl _ _ 29 rfl S5 3 i0 (.int .i64 0) 1 8 Tryz.underlying29 hi hz0 hz1 hz2 rfl (by omega) (.slice (some ⟨g, 0, none⟩) j cap) j (ci us) rfl O9.out ⟨w8.heap.size, 0, none⟩ 1 1 [.int .i64 (y - 1)] rfl rfl (World.news_of_block (heap_alloc_new _ _)) (by simp [Value.oneCell']) (by omega) (by unfold maxLen; omega) (by omega) (by simp; omega) (w8.heap.size + 1) (by simp) ?_; intro g3 cap3 w3' ho3 hg3 hat3 hlt3)
    | fail)
   have B10 := hide (B9.out.grown hg3 B9.out.size (fun q hq => by simp [Value.ownBlock] at hq; omega))
   have CUR10 := hide (CUR9.out.grown (g := g) hg3 (by have := hgl.1; omega) (fun h0 x hx => by have h8 := HLT.out h0 x hx; have h9 := B4.out.size; have := hgl.1; omega))
   have O10 : Hid (w3'.ownsRow S5 3 1 (.slice (some ⟨g3, 0, none⟩) (j + 1) cap3) (j + 1) (ci (us ++ [y - 1]))) := by
    rw [show ci (us ++ [y - 1]) = ci us ++ [.int .i64 (y - 1)] by simp [ci]]
    exact ho3
   clear ho3 hg3 hat3 hlt3
   go_roundw
   case rel => exact ⟨j + 1, g3, cap3, us ++ [y - 1], by omega, by go_num, by rw [List.length_append, hul]; rfl, rfl, unhide O10, unhide CUR10, unhide B10⟩
   case measure => simp [intOf]; omega
  obtain rfl : j = X := by omega
  have KGr := Blk.below hb (by omega) KG4.out
  have KAr := Blk.below hb (by omega) KA4.out
  obtain ⟨ca0, ca1, ca2, ca3, ca4, ca5, ca6, ca7, ca8, ca9⟩ := Blk.cs10 KAr
  obtain ⟨q0, t0, q1, t1, q2, t2, q3, t3, q4, t4, q5, t5, q6, t6, q7, t7, q8, t8, q9, t9⟩ := Blk.cf10 KGr
  have RDr := RD4.out.mono hb
  have HD : Hid (RdReq (writeCells wr G 0 (reqCells r h)) r h) := rdq_write (far_lst HF2.out (Nat.lt_succ_self _)) _ _ _ RDr
  have HBf : Hid (Below w.heap.size w (writeCells wr G 0 (reqCells r h))) := below_write hGw _ _ _ _ (B4.out.trans (hb.mono B4.out.size))
  have HOf : Hid ((writeCells wr G 0 (reqCells r h)).ownsRow w.heap.size 3 1 (.slice (some ⟨g, 0, none⟩) us.length cap) us.length (ci us)) := by
   rw [hul]
   exact own_lowD (ownOther_write (by omega) _ _ _ hown) (by have := B4.out.size; omega)
  have HF : Hid (From w.heap.size h) := ⟨fun x hx => by have := HF2.out.fp x hx; omega, fun x hx => by have := HF2.out.ft x hx; omega, fun x hx => by have := HF2.out.fi x hx; omega⟩
  have hjx : ¬ ((j : Int) < (j : Int)) := by omega
  clear KGr KAr RDr hown hcur hb
  go_wp2_with fail
  refine bodyPost_ret (v := .tuple #[reqVal r h, .slice (some ⟨g, 0, none⟩) j cap]) (by simp [results, Tryz.results93, go_sem, reqVal, q0, q1, q2, q3, q4, q5, q6, q7, q8, q9]) rfl ?_
  exact ⟨r, h, g, cap, us, by rw [hul], unhide HL, unhide HD, unhide HF, unhide HOf, by omega, unhide HBf⟩
end Go.Proofs.YtcblpoeeembniabGreatDoor
