/- laws.toIntSS: a copy, every row of it new; GroupOf of the model and of the program; its law. -/
import Derived.Test.YtdmaldjnjffnlabGreatDoorPkE
import Derived.Test.YtdmaldjnjffnlabGreatDoorPkI
namespace Go.Proofs.YtdmaldjnjffnlabGreatDoor
open Go.RowKit
set_option linter.unusedVariables false

theorem Tryz.infoIntS : (Tryz.prog.info? 29).map (fun i => (i.zero, i.size, i.bytes)) = some (some (.slice none 0 0), 1, 24) := by kernel_rfl
theorem fillS_step (xs : List RowV) (r : RowV) (n k : Nat) (hl : xs.length = k) (hk : k < n) :
    (xs.map RowV.val ++ List.replicate (n - k) (Value.slice none 0 0)).set k r.val = (xs ++ [r]).map RowV.val ++ List.replicate (n - (k + 1)) (.slice none 0 0) := by
  have e : n - k = (n - (k + 1)) + 1 := by omega
  have hlen : (xs.map RowV.val).length = k := by simpa using hl
  rw [e, List.replicate_succ, List.set_append_right _ _ (by omega), hlen, Nat.sub_self, List.set_cons_zero]
  simp
theorem fillS_at (xs : List RowV) (n k : Nat) (hl : xs.length = k) (hk : k < n) :
    (xs.map RowV.val ++ List.replicate (n - k) (Value.slice none 0 0))[k]? = some (.slice none 0 0) := by
  have hlen : (xs.map RowV.val).length = k := by simpa using hl
  rw [List.getElem?_append_right (by omega), hlen, Nat.sub_self, List.getElem?_replicate, if_pos (by omega)]
set_option maxHeartbeats 1000000 in
theorem toIntSS_any (a : Option Addr) (n c : Nat) (gs : List (List Int)) (w : World) (hr : Rd2 w a n gs) (hn : n ≤ 1048576) (hm : ∀ i, i < n → (gs.getD i []).length ≤ 1048576) :
    Calls Tryz.prog 18 #[.slice a n c] w fun e w' => ∃ xs : List RowV, e = .returned (.slice (some ⟨w.heap.size, 0, none⟩) n n) ∧ xs.length = n ∧ xs.map RowV.l = gs ∧ Own2 w' w.heap.size w.heap.size n xs ∧ Below w.heap.size w w' := by
  obtain ⟨i0, hi, hz0, hz1, hz2⟩ := info_parts Tryz.infoIntS
  have hbb : i0.bytes * n ≤ 281474976710656 := by rw [hz2]; omega
  have HR := hide hr
  clear hr
  go_enter Tryz.func18, Tryz.ntmps18
  go_wp2_with (first
    | (at_make; refine wpList_make_full _ rfl _ _ 43 rfl w.heap.size 29 i0 (.slice none 0 0) 1 Tryz.underlying43 hi hz0 hz1 .i64 .i64 n n n rfl rfl rfl rfl hbb (by unfold maxLen; omega) (Nat.le_refl _) ?_; intro w1 hown hgrow)
    | go_in)
  have hown0 : w1.ownsRow w.heap.size 29 1 (.slice (some ⟨w.heap.size, 0, none⟩) n n) n (([] : List RowV).map RowV.val ++ List.replicate (n - 0) (.slice none 0 0)) := by
    simpa [toList_madeCells_one, Value.cells] using hown
  have hb1 : Below w.heap.size w w1 := (Below.refl _ _).grown hgrow (Nat.le_refl _) (by simp)
  have HO := hide hown0
  have HB := hide hb1
  clear hown hgrow hown0 hb1
  go_loopw [4] (fun i wr => ∃ (k : Nat) (xs : List RowV), k ≤ n ∧ i = .int .i64 k ∧ xs.length = k ∧ xs.map RowV.l = gs.take k ∧ wr.ownsRow w.heap.size 29 1 (.slice (some ⟨w.heap.size, 0, none⟩) n n) n (xs.map RowV.val ++ List.replicate (n - k) (.slice none 0 0)) ∧ Rws wr w.heap.size w.heap.size xs ∧ Below w.heap.size w wr) (fun i _ => n - (intOf i).toNat)
  case atStart => exact ⟨0, [], Nat.zero_le _, rfl, rfl, rfl, unhide HO, Rws.nil, unhide HB⟩
  case round =>
    clear HO HB
    obtain ⟨k, xs, hk, rfl, hxl, hxg, how, hrs, hbel⟩ := hrel
    have HXL := hide hxl
    have HXG := hide hxg
    have HO := hide how
    have HS := hide hrs
    have HB := hide hbel
    clear hxl hxg how hrs
    by_cases hlt : k < n
    case neg =>
      obtain rfl : k = n := by omega
      clear hbel
      go_wp2
      go_ret
      have e : gs.take k = gs := List.take_of_length_le (by have := (unhide HR).1; omega)
      have hx := unhide HXL
      refine ⟨xs, rfl, hx, by rw [unhide HXG, e], ⟨?_, unhide HS⟩, unhide HB⟩
      have ho := unhide HO
      rw [Nat.sub_self, List.replicate_zero, List.append_nil] at ho
      rw [hx]
      exact ho
    obtain ⟨b, off, ai, ci, rfl, hc, hrow⟩ := ((unhide HR).mono hbel).2 k hlt
    have HM := hide (hm k hlt)
    have HTK := hide (show gs.take (k + 1) = gs.take k ++ [gs.getD k []] by rw [List.take_succ_eq_append_getElem (by rw [(unhide HR).1]; exact hlt)]; simp [(unhide HR).1, hlt])
    generalize gs.getD k [] = zs at hc hrow HM HTK
    have HQ := hide hrow
    clear hrow hbel
    go_wp2_with fail
    refine (toIntS_any ai zs.length ci zs wr (unhide HQ) (unhide HM)).mono ?_
    rintro e w2 ⟨rfl, ho2, hb2⟩
    have hz : w.heap.size < wr.heap.size := ((unhide HO).lt _ rfl).2
    have O2 := own_later (unhide HO) hb2
    have S2 := (unhide HS).later hb2
    have RW : RowV.own w2 w.heap.size ⟨wr.heap.size, zs.length, zs⟩ := World.ownsRow.mono ho2 (by omega)
    have c2 : w2.cell? ⟨w.heap.size, k, none⟩ = some (.slice none 0 0) := (O2.cellAt k (by omega)).trans (fillS_at xs n k (unhide HXL) hlt)
    have f2 : w2.frozen? ⟨w.heap.size, k, none⟩ = false := O2.frozenAt k
    have gb : w2.grownBy (w2.setCell ⟨w.heap.size, k, none⟩ (.slice (some ⟨wr.heap.size, 0, none⟩) zs.length zs.length)) (some w.heap.size) := gb_set (World.grownBy.refl _ _) _ _
    have O3 := (O2.stored k (.slice (some ⟨wr.heap.size, 0, none⟩) zs.length zs.length)).1
    have hfs := fillS_step xs ⟨wr.heap.size, zs.length, zs⟩ n k (unhide HXL) hlt
    have hv : RowV.val ⟨wr.heap.size, zs.length, zs⟩ = .slice (some ⟨wr.heap.size, 0, none⟩) zs.length zs.length := rfl
    rw [hv] at hfs
    rw [hfs] at O3
    have HO3 := hide O3
    have HS3 := hide ((S2.kept gb (fun i hi e => by have := S2.far i hi; injection e with e; exact this e)).snoc (r := ⟨wr.heap.size, zs.length, zs⟩) (RW.kept gb (by intro e; injection e with e; exact absurd e (show wr.heap.size ≠ w.heap.size by omega))) (fun i hi e => by have h := ((unhide HS).row i hi).lt.2; have e' : (xs.getD i default).g = wr.heap.size := e; omega) (show wr.heap.size ≠ w.heap.size by omega))
    have HB3 : Hid (Below w.heap.size w (w2.setCell ⟨w.heap.size, k, none⟩ (.slice (some ⟨wr.heap.size, 0, none⟩) zs.length zs.length))) := ((unhide HB).trans (hb2.mono (unhide HB).size)).setCell (Nat.le_refl _) _
    clear O2 O3 S2 RW hfs hv gb ho2 hb2 HO HS HB
    go_wp2
    go_roundw
    case rel => exact ⟨k + 1, xs ++ [⟨wr.heap.size, zs.length, zs⟩], by omega, by go_num, by rw [List.length_append, unhide HXL]; rfl, by rw [List.map_append, unhide HXG, unhide HTK]; rfl, unhide HO3, unhide HS3, unhide HB3⟩
    case measure => simp [intOf]; omega
end Go.Proofs.YtdmaldjnjffnlabGreatDoor
