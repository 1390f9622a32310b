/- Groups, of the model and of the program: rows that grow, rows that come in behind. -/
import Derived.Test.YtlakbnpinennnaaGreatDoorGroups
namespace Go.Proofs.YtlakbnpinennnaaGreatDoor
open Go.RowKit
set_option linter.unusedVariables false

theorem addTo_hit (ps : List PairV) (x : Int) : ∀ (gs : List (List Int)) (k : Nat), k < gs.length → (∀ j, j < k → joinsB ps (gs.getD j []) x = false) → joinsB ps (gs.getD k []) x = true → addTo ps x gs = gs.set k (gs.getD k [] ++ [x])
  | [], k, h, _, _ => absurd h (Nat.not_lt_zero _)
  | g :: gs, 0, _, _, h1 => by
    have h2 : joinsB ps g x = true := by simpa using h1
    simp [addTo, h2]
  | g :: gs, k + 1, h, h0, h1 => by
    have h2 : joinsB ps g x = false := by simpa using h0 0 (by omega)
    have ih := addTo_hit ps x gs k (by simpa using h) (fun j hj => by simpa using h0 (j + 1) (by omega)) (by simpa using h1)
    simp [addTo, h2, ih]
theorem addTo_none (ps : List PairV) (x : Int) : ∀ (gs : List (List Int)), (∀ j, j < gs.length → joinsB ps (gs.getD j []) x = false) → addTo ps x gs = gs ++ [[x]]
  | [], _ => rfl
  | g :: gs, h0 => by
    have h2 : joinsB ps g x = false := by simpa using h0 0 (by simp)
    have ih := addTo_none ps x gs (fun j hj => by simpa using h0 (j + 1) (by simpa using hj))
    simp [addTo, h2, ih]
def bnd (k : Nat) (gs : List (List Int)) : Prop := gs.length ≤ k ∧ ∀ g ∈ gs, g.length ≤ k
theorem addTo_len (ps : List PairV) (x : Int) : ∀ (gs : List (List Int)), (addTo ps x gs).length ≤ gs.length + 1
  | [] => by simp [addTo]
  | g :: gs => by
    have := addTo_len ps x gs
    unfold addTo
    split <;> simp <;> omega
theorem addTo_bnd {ps : List PairV} {x : Int} {k : Nat} : ∀ {gs : List (List Int)}, bnd k gs → bnd (k + 1) (addTo ps x gs)
  | [], _ => ⟨by simp [addTo], fun g hg => by simp [addTo] at hg; subst hg; simp⟩
  | g :: gs, h => by
    unfold addTo
    split
    · refine ⟨by have := h.1; simp at this ⊢; omega, fun q hq => ?_⟩
      rcases List.mem_cons.1 hq with rfl | hq
      · have := h.2 g (by simp); simp; omega
      · have := h.2 q (by simp [hq]); omega
    · have h' : bnd k gs := ⟨by have := h.1; simp at this; omega, fun q hq => h.2 q (by simp [hq])⟩
      have h1 := addTo_len ps x gs
      refine ⟨by have := h.1; simp at this ⊢; omega, fun q hq => ?_⟩
      rcases List.mem_cons.1 hq with rfl | hq
      · have := h.2 q (by simp); omega
      · exact (addTo_bnd h').2 q hq
theorem addIf_bnd {ps : List PairV} {pres : List Int} {x : Int} {k : Nat} {gs : List (List Int)} (h : bnd k gs) : bnd (k + 1) (addIf ps pres gs x) := by
  unfold addIf
  split
  · exact addTo_bnd h
  · exact ⟨by have := h.1; omega, fun g hg => by have := h.2 g hg; omega⟩
theorem bnd.row {k : Nat} {gs : List (List Int)} (h : bnd k gs) (i : Nat) (hi : i < gs.length) : (gs.getD i []).length ≤ k := by
  refine h.2 _ ?_
  rw [List.getD_eq_getElem?_getD, List.getElem?_eq_getElem hi]
  exact List.getElem_mem _
def groupsTo (ps : List PairV) (pres : List Int) (k : Nat) : List (List Int) := (kinds.take k).foldl (addIf ps pres) []
theorem groupsTo_step (ps : List PairV) (pres : List Int) (k : Nat) (h : k < 4) : groupsTo ps pres (k + 1) = addIf ps pres (groupsTo ps pres k) (k : Int) := by
  unfold groupsTo
  match k, h with
  | 0, _ => rfl
  | 1, _ => rfl
  | 2, _ => rfl
  | 3, _ => rfl
theorem groupsTo_bnd (ps : List PairV) (pres : List Int) : ∀ k, k ≤ 4 → bnd k (groupsTo ps pres k)
  | 0, _ => ⟨by simp [groupsTo], fun g hg => by simp [groupsTo] at hg⟩
  | k + 1, h => by
    rw [groupsTo_step ps pres k (by omega)]
    exact addIf_bnd (groupsTo_bnd ps pres k (by omega))
theorem map_getD_l (xs : List RowV) (i : Nat) (hi : i < xs.length) : (xs.map RowV.l).getD i [] = (xs.getD i default).l := by simp [List.getD_eq_getElem?_getD, hi]
/-- A row behind all. -/
theorem Own2.pushed {W w3 : World} {B g cap g3 cap3 H : Nat} {xs : List RowV} {r : RowV} (h : Own2 W B g cap xs) (hr : RowV.own W B r) (hrn : ∀ i, i < xs.length → (xs.getD i default).g ≠ r.g) (hrg : r.g ≠ g)
    (ho : w3.ownsRow B 32 1 (.slice (some ⟨g3, 0, none⟩) (xs.length + 1) cap3) (xs.length + 1) (xs.map RowV.val ++ [r.val])) (hg : W.grownBy w3 (some g)) (hat : some g = some g3 ∨ g3 = H) (hH : W.heap.size ≤ H) : Own2 w3 B g3 cap3 (xs ++ [r]) := by
  have hg3 : ∀ b, b < W.heap.size → b ≠ g → b ≠ g3 := fun b hb hne e => by
    rcases hat with h1 | h1
    · injection h1 with h1; exact hne (e.trans h1.symm)
    · omega
  have hk := h.rws.kept hg (fun i hi e => h.rws.far i hi (by injection e))
  refine ⟨?_, ?_⟩
  · rw [List.length_append, List.map_append]
    exact ho
  · refine Rws.snoc ⟨hk.row, hk.apart, fun i hi => hg3 _ (h.rws.row i hi).lt.2 (h.rws.far i hi)⟩ (hr.kept hg (fun e => hrg (by injection e))) hrn (hg3 _ hr.lt.2 hrg)
/-- One row longer. -/
theorem Own2.grew {W w3 : World} {B g cap H k : Nat} {xs : List RowV} {r : RowV} (h : Own2 W B g cap xs) (hk : k < xs.length) (ho : RowV.own w3 B r) (hg : W.grownBy w3 (some (xs.getD k default).g)) (hat : some (xs.getD k default).g = some r.g ∨ r.g = H) (hH : W.heap.size ≤ H) :
    w3.cell? ⟨g, k, none⟩ = some (xs.getD k default).val ∧ w3.frozen? ⟨g, k, none⟩ = false ∧ Own2 (w3.setCell ⟨g, k, none⟩ r.val) B g cap (xs.set k r) := by
  have hout : w3.ownsRow B 32 1 (.slice (some ⟨g, 0, none⟩) xs.length cap) xs.length (xs.map RowV.val) := h.out.kept hg (Or.inr (fun e => h.rws.far k hk (by injection e with e; exact e.symm)))
  have gs : w3.grownBy (w3.setCell ⟨g, k, none⟩ r.val) (some g) := gb_set (World.grownBy.refl _ _) _ _
  have hne : ∀ b, b < W.heap.size → b ≠ (xs.getD k default).g → b ≠ r.g := fun b hb h1 e => by
    rcases hat with h2 | h2
    · injection h2 with h2; exact h1 (e.trans h2.symm)
    · omega
  have hgl : g < W.heap.size := (h.out.lt g rfl).2
  have hrg : r.g ≠ g := fun e => hne g hgl (fun e2 => h.rws.far k hk e2.symm) e.symm
  refine ⟨?_, hout.frozenAt k, ?_, ?_⟩
  · refine (hout.cellAt k (by omega)).trans ?_
    simp [hk]
  · have h3 := (hout.stored k r.val).1
    rw [List.length_set, List.map_set]
    exact h3
  · refine Rws.put (fun i hi hik => ?_) h.rws.apart h.rws.far (ho.kept gs (fun e => hrg (by injection e))) (fun i hi hik => hne _ (h.rws.row i hi).lt.2 (fun e => hik (h.rws.apart i k hi hk e))) hrg
    refine ((h.rws.row i hi).kept hg (fun e => hik (h.rws.apart i k hi hk (by injection e)))).kept gs (fun e => h.rws.far i hi (by injection e))
theorem Tryz.infoIntS2 : (Tryz.prog.info? 32).map (fun i => (i.zero, i.size, i.bytes)) = some (some (.slice none 0 0), 1, 24) := by kernel_rfl
theorem Tryz.infoInt2 : (Tryz.prog.info? 3).map (fun i => (i.zero, i.size, i.bytes)) = some (some (.int .i64 0), 1, 8) := by kernel_rfl
set_option maxHeartbeats 2000000 in
theorem putKind_any (a : Option Addr) (n c : Nat) (ps : List PairV) (g cap : Nat) (xs : List RowV) (x : Int) (B k0 : Nat) (w : World) (hr : RdR PairV.cells 2 w a n ps) (hn : n ≤ 1048600) (ho : Own2 w B g cap xs) (hb0 : bnd k0 (xs.map RowV.l)) (hk0 : k0 ≤ 1000000) (hB : B ≤ w.heap.size) :
    Calls Tryz.prog 75 #[.slice a n c, .slice (some ⟨g, 0, none⟩) xs.length cap, .int .i64 x] w fun e w' => ∃ g' cap' xs', e = .returned (.slice (some ⟨g', 0, none⟩) xs'.length cap') ∧ Own2 w' B g' cap' xs' ∧ xs'.map RowV.l = addTo ps x (xs.map RowV.l) ∧ Below B w w' := by
  obtain ⟨i0, hi0, hz0, hz1, hz2⟩ := info_parts Tryz.infoIntS2
  obtain ⟨j0, hj0, hy0, hy1, hy2⟩ := info_parts Tryz.infoInt2
  have HC := hide (fun W a' n' c' gl x (hb : Below w.heap.size w W) h1 h2 => besideAll_any a n c ps a' n' c' gl x W (hr.mono (by omega) PairV.len hb) h1 hn h2)
  have HO := hide ho
  have hlx : xs.length ≤ k0 := by have := hb0.1; simpa using this
  have HBD := hide hb0
  clear hr ho hb0
  go_enter Tryz.func75, Tryz.ntmps75
  go_wp2
  go_loopw [11] (fun i wr => ∃ k : Nat, k ≤ xs.length ∧ i = .int .i64 k ∧ (∀ j, j < k → joinsB ps ((xs.map RowV.l).getD j []) x = false) ∧ Below w.heap.size w wr) (fun i _ => xs.length - (intOf i).toNat)
  case atStart => exact ⟨0, Nat.zero_le _, rfl, fun j hj => absurd hj (Nat.not_lt_zero _), Below.refl _ _⟩
  case round =>
    obtain ⟨k, hk, rfl, h0, hbel⟩ := hrel
    have H0 := hide h0
    have HB := hide hbel
    have O1 := hide ((unhide HO).later hbel)
    have hsz := hbel.size
    clear h0 hbel
    by_cases hlt : k < xs.length
    case neg =>
      obtain rfl : k = xs.length := by omega
      have HE := hide (addTo_none ps x (xs.map RowV.l) (by rw [List.length_map]; exact unhide H0))
      have O2 := hide ((unhide O1).later ((Below.refl _ wr).alloc (Nat.le_refl _) (.cells #[.int .i64 x] 3)))
      have R2 : Hid (RowV.own (wr.alloc (.cells #[.int .i64 x] 3)) B ⟨wr.heap.size, 1, [x]⟩) := World.ownsRow_lit wr #[.int .i64 x] 1 (by omega) (by unfold maxLen; omega) rfl
      have O3 := hide ((unhide O2).later ((Below.refl _ (wr.alloc (.cells #[.int .i64 x] 3))).alloc (Nat.le_refl _) (.cells #[.slice (some ⟨wr.heap.size, 0, none⟩) 1 1] 32)))
      have R3 := hide ((unhide R2).later ((Below.refl _ (wr.alloc (.cells #[.int .i64 x] 3))).alloc (Nat.le_refl _) (.cells #[.slice (some ⟨wr.heap.size, 0, none⟩) 1 1] 32)))
      go_wp2_with (first
        | (at_builtin; refine wpList_append_lies _ rfl _ _ 35 rfl B 32 i0 (.slice none 0 0) 1 24 Tryz.underlying35 hi0 hz0 hz1 hz2 rfl (by omega) (.slice (some ⟨g, 0, none⟩) xs.length cap) xs.length (xs.map RowV.val) rfl (unhide O3).out ⟨wr.heap.size + 1, 0, none⟩ 1 1 [.slice (some ⟨wr.heap.size, 0, none⟩) 1 1] rfl rfl (World.news_of_block (by have := heap_alloc_new (wr.alloc (.cells #[.int .i64 x] 3)) (.cells #[.slice (some ⟨wr.heap.size, 0, none⟩) 1 1] 32); simpa using this)) (by simp [Value.oneCell']) (by omega) (by unfold maxLen; omega) (by omega) (by simp; omega) (wr.heap.size + 2) (by simp) ?_; intro g3 cap3 w3 ho3 hg3 hat3 hlt3)
        | go_in)
      have O4 := hide ((unhide O3).pushed (r := ⟨wr.heap.size, 1, [x]⟩) (unhide R3) (fun i hi e => by have h := ((unhide O1).rws.row i hi).lt.2; have e' : (xs.getD i default).g = wr.heap.size := e; omega) (by have h := ((unhide O1).out.lt g rfl).2; show wr.heap.size ≠ g; omega) ho3 hg3 hat3 (by simp))
      have B4 : Hid (Below B w w3) := ((((unhide HB).mono hB).alloc (by omega) _).alloc (by simp; omega) _).grown hg3 (by simp; omega) (fun k hk => by have := own_base (unhide O1).out; simp [Value.ownBlock] at hk; omega)
      clear ho3 hg3 hat3 hlt3
      go_wp2_with fail
      go_ret
      exact ⟨g3, cap3, xs ++ [⟨wr.heap.size, 1, [x]⟩], by rw [List.length_append]; rfl, unhide O4, by rw [unhide HE, List.map_append]; rfl, unhide B4⟩
    obtain ⟨c1, f1⟩ := (unhide O1).cell k hlt
    have hrow := (unhide O1).rws.row k hlt
    have HRW := hide hrow
    have HRD := hide (own_reads hrow)
    have hll : (xs.getD k default).l.length ≤ k0 := by have := (unhide HBD).row k (by simpa using hlt); rwa [map_getD_l xs k hlt] at this
    have HML := hide (map_getD_l xs k hlt)
    have HH := hide (addTo_hit ps x (xs.map RowV.l) k (by simpa using hlt) (unhide H0))
    rw [map_getD_l xs k hlt] at HH
    have HGR := hide (fun (W w3 : World) (r : RowV) (H : Nat) (h : Own2 W B g cap xs) => h.grew (w3 := w3) (r := r) (H := H) hlt)
    clear hrow
    unfold RowV.val at c1
    generalize xs.getD k default = r at c1 hll HRW HRD HML HH HGR
    go_wp2_with fail
    refine ((unhide HC) wr (some ⟨r.g, 0, none⟩) r.l.length r.cap r.l x (unhide HB) (unhide HRD) (by omega)).mono ?_
    rintro e w2 ⟨rfl, hb2⟩
    have HB2 := hide ((unhide HB).trans (hb2.mono (unhide HB).size))
    have O2 := hide ((unhide O1).later hb2)
    have RW2 := hide ((unhide HRW).later hb2)
    have hsz2 := hb2.size
    clear hb2 HB O1 HRW HRD c1 f1
    cases hj : joinsB ps r.l x
    case false =>
      go_wp2_with fail
      go_roundw
      case rel => exact ⟨k + 1, by omega, by go_num, fun j hjk => by
        by_cases e : j = k
        · subst e; rw [unhide HML]; exact hj
        · exact (unhide H0) j (by omega), unhide HB2⟩
      case measure => simp [intOf]; omega
    have HE := hide ((unhide HH) hj)
    have O3 := hide ((unhide O2).later ((Below.refl _ w2).alloc (Nat.le_refl _) (.cells #[.int .i64 x] 3)))
    have RW3 := hide ((unhide RW2).later ((Below.refl _ w2).alloc (Nat.le_refl _) (.cells #[.int .i64 x] 3)))
    go_wp2_with (first
      | (at_builtin; go_must (refine wpList_append_lies _ rfl _ _ 32 rfl B 3 j0 (.int .i64 0) 1 8 Tryz.underlying32 hj0 hy0 hy1 hy2 rfl (by omega) (.slice (some ⟨r.g, 0, none⟩) r.l.length r.cap) r.l.length (r.l.map (Value.int .i64)) rfl (unhide RW3) ⟨w2.heap.size, 0, none⟩ 1 1 [.int .i64 x] rfl rfl (World.news_of_block (heap_alloc_new _ _)) (by simp [Value.oneCell']) (by omega) (by unfold maxLen; omega) (by omega) (by simp; omega) (w2.heap.size + 1) (by simp) ?_; intro g3 cap3 w3 ho3 hg3 hat3 hlt3; have RN : RowV.own w3 B ⟨g3, cap3, r.l ++ [x]⟩ := (by unfold RowV.own; rw [List.length_append, List.map_append]; exact ho3); obtain ⟨c4, f4, ho4⟩ := (unhide HGR) _ w3 ⟨g3, cap3, r.l ++ [x]⟩ (w2.heap.size + 1) (unhide O3) RN hg3 hat3 (by simp); have hv4 : RowV.val ⟨g3, cap3, r.l ++ [x]⟩ = .slice (some ⟨g3, 0, none⟩) (r.l.length + 1) cap3 := (by unfold RowV.val; rw [List.length_append]; rfl); rw [hv4] at ho4; unfold RowV.val at c4; have O4 := hide ho4; have B4 : Hid (Below B w (w3.setCell ⟨g, k, none⟩ (.slice (some ⟨g3, 0, none⟩) (r.l.length + 1) cap3))) := ((((unhide HB2).mono hB).alloc (by omega) _).grown hg3 (by simp; omega) (fun k hk => by have := (unhide RW2).lt.1; simp [Value.ownBlock] at hk; omega)).setCell (own_base (unhide O2).out) _; clear ho3 hg3 hat3 hlt3 ho4 hv4 RN))
      | go_in)
    go_ret
    exact ⟨g, cap, xs.set k ⟨g3, cap3, r.l ++ [x]⟩, by rw [List.length_set]; rfl, unhide O4, by rw [unhide HE, List.map_set], unhide B4⟩
end Go.Proofs.YtlakbnpinennnaaGreatDoor
