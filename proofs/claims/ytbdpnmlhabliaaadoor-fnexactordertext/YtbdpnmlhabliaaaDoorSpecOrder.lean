/- The model's text of an order. -/
import Derived.Test.YtbdpnmlhabliaaaDoorSpecRows
import Derived.Deep.RegionHeld
namespace Go.Proofs.YtbdpnmlhabliaaaDoor
open Go.RowKit
set_option linter.unusedVariables false
set_option maxRecDepth 20000
theorem rowsOf_shape (r : ReqV) : ∀ p ∈ rowsOf r, p.2.length ≤ 7 ∧ p.1 ≠ 0 := by
  intro p hp
  refine ⟨?_, ?_⟩ <;>
  · simp only [rowsOf, List.mem_cons, List.mem_append, List.mem_map, List.not_mem_nil, or_false] at hp
    rcases hp with (((((rfl | rfl) | ⟨q, _, rfl⟩) | ⟨q, _, rfl⟩) | rfl) | ⟨q, _, rfl⟩) <;> simp [PalletV.nums, PairV.nums, TypeV.nums, ItemV.nums]
theorem textOf_take (ls : List (Nat × List Int)) (k : Nat) (h : k < ls.length) : textOf (ls.take (k + 1)) = textOf (ls.take k) ++ lineT (ls.getD k default).1 (ls.getD k default).2 := by
  rw [List.take_succ_eq_append_getElem h, textOf_snoc]; simp [List.getD_eq_getElem?_getD, h]
theorem okOf_take (ls : List (Nat × List Int)) (k : Nat) (h : k < ls.length) : okOf (ls.take (k + 1)) = (okOf (ls.take k) && lineB (ls.getD k default).1 (ls.getD k default).2) := by
  rw [List.take_succ_eq_append_getElem h, okOf_snoc]; simp [List.getD_eq_getElem?_getD, h]
theorem okOf_out (ls : List (Nat × List Int)) (k : Nat) (h : k < ls.length) (hb : lineB (ls.getD k default).1 (ls.getD k default).2 = false) : okOf ls = false :=
  ofAll (i := k) (p := ls.getD k default) (by simp [List.getD_eq_getElem?_getD, h]) hb
theorem getD_mem' {α : Type} [Inhabited α] (xs : List α) (k : Nat) (h : k < xs.length) : xs.getD k default ∈ xs := by
  rw [List.getD_eq_getElem?_getD, List.getElem?_eq_getElem h]; exact List.getElem_mem _
theorem okOf_range {ls : List (Nat × List Int)} (h : okOf ls = true) (hl : ∀ p ∈ ls, p.2.length ≤ 7) : (textOf ls).length ≤ 160 * ls.length := by
  revert h hl
  induction ls with
  | nil => intro _ _; simp [textOf]
  | cons p ls ih =>
    intro h hl
    have h1 : lineB p.1 p.2 = true ∧ okOf ls = true := by simpa [okOf] using h
    have h2 := lineT_length p.1 p.2 (lineB_range h1.1) (hl p (by simp))
    have h3 := ih h1.2 (fun q hq => hl q (by simp [hq]))
    have e : textOf (p :: ls) = lineT p.1 p.2 ++ textOf ls := by simp [textOf]
    rw [e, List.length_append, List.length_cons]
    omega
theorem orderT_no_way {r : ReqV} (h : inB r.way 0 1 = false) : orderT r = [] := by simp [orderT, linesR, okOf, lineB, numB, h]
theorem orderT_no {r : ReqV} (h : okOf (rowsOf r) = false) : orderT r = [] := by
  have : okOf (linesR r) = false := by
    have e : okOf (linesR r) = (lineB 0 [r.way] && okOf (rowsOf r)) := by simp [okOf, linesR]
    rw [e, h, Bool.and_false]
  simp [orderT, this]
theorem orderT_yes {r : ReqV} (hw : inB r.way 0 1 = true) (h : okOf (rowsOf r) = true) : orderT r = lineT 0 [r.way] ++ textOf (rowsOf r) := by
  have : okOf (linesR r) = true := by
    have e : okOf (linesR r) = (lineB 0 [r.way] && okOf (rowsOf r)) := by simp [okOf, linesR]
    rw [e, h]; simp [lineB, numB, hw]
  have e : textOf (linesR r) = lineT 0 [r.way] ++ textOf (rowsOf r) := by simp [linesR, textOf]
  rw [orderT, if_pos this, e]
theorem l4Rows_at (m : Int) (r : ReqV) (h : ReqH) (w : World) (hr : RdReq w r h) (hs : r.small) (e : r.way = m) :
    Calls Tryd.prog 29 #[.agg #[.int .i64 m, .int .i64 r.pal.wd, .int .i64 r.pal.dp, .int .i64 r.pal.ht, .int .i64 r.pal.gram, .int .i64 r.classes, .slice h.ap r.pairs.length h.cp, .slice h.at' r.types.length h.ct, .int .i64 r.master, .slice h.ai r.items.length h.ci]] w fun e w' => ∃ gw cw gn cn xs, e = .returned (.tuple #[.slice (some ⟨gw, 0, none⟩) (rowsOf r).length cw, .slice (some ⟨gn, 0, none⟩) (rowsOf r).length cn]) ∧ WordsO w' (w.heap.size + 1) gw cw (rowsOf r) ∧ NumsO w' (w.heap.size + 1) gn cn xs ∧ xs.map RowV.l = (rowsOf r).map Prod.snd ∧ Below w.heap.size w w' := by
  have := l4Rows_any r h w hr hs
  unfold reqVal at this
  rw [e] at this
  exact this
set_option maxHeartbeats 2000000 in
theorem specOrderText_any (r : ReqV) (h : ReqH) (w : World) (hr : RdReq w r h) (hs : r.small) :
    Calls Tryd.prog 10 #[reqVal r h] w fun e w' => e = .returned (.string ⟨(orderT r).toArray⟩) ∧ Below w.heap.size w w' := by
  have HR := hide hr
  have hsm := hs
  unfold ReqV.small at hs
  have HSM := hide hsm
  clear hr hsm
  cases hway : inB r.way 0 1
  case false =>
    have HW := hide (orderT_no_way hway)
    unfold reqVal
    go_enter Tryd.func10, Tryd.ntmps10
    go_wp2_with ((go_at_call 28; refine (l1In_any _ _ _ _).mono ?_; rintro e w' ⟨rfl, rfl⟩; rw [hway]))
    go_ret
    exact ⟨ret_str (by rw [unhide HW]), (Below.refl _ _).alloc (Nat.le_refl _) _⟩
  case true =>
    have hw01 := inB_iff.1 hway
    have HYES := hide (orderT_yes hway)
    have HNO := hide (@orderT_no r)
    have hws : ∃ s0 : ByteArray, s0.size ≤ 10 ∧ s0.data.toList = lineT 0 [r.way] ∧ ((r.way = 0 ∧ s0 = ⟨#[119, 97, 121, 32, 102, 105, 114, 115, 116, 10]⟩) ∨ (r.way = 1 ∧ s0 = ⟨#[119, 97, 121, 32, 110, 101, 120, 116, 10]⟩)) := by
      rcases (by omega : r.way = 0 ∨ r.way = 1) with e | e
      · exact ⟨_, by decide, by rw [e]; decide, Or.inl ⟨e, rfl⟩⟩
      · exact ⟨_, by decide, by rw [e]; decide, Or.inr ⟨e, rfl⟩⟩
    obtain ⟨s0, hs0, hs1, hs2⟩ := hws
    have HS1 := hide hs1
    have HS2 := hide hs2
    clear hs1 hs2
    generalize lineT 0 [r.way] = t0 at HYES HS1
    have ht0 : t0.length ≤ 10 := by rw [← unhide HS1, ← size_of]; exact hs0
    rcases unhide HS2 with ⟨e, rfl⟩ | ⟨e, rfl⟩
    all_goals
      clear HS2
      unfold reqVal
      go_enter Tryd.func10, Tryd.ntmps10
      go_wp2_with (first
        | (go_at_call 28; refine (l1In_any _ _ _ _).mono ?_; rintro e w' ⟨rfl, rfl⟩; first | rw [show inB 0 0 1 = true from rfl] | rw [show inB 1 0 1 = true from rfl])
        | (
          go_at_call 29
          refine (l4Rows_at _ r h _ (by exact ((unhide HR).mono (((Below.refl _ _).alloc (Nat.le_refl _) _).alloc (by simp) _))) (unhide HSM) e).mono ?_
          rintro e1 w1 ⟨gw, cw, gn, cn, xs, rfl, hW, hN, hx, hb⟩
          obtain ⟨B0, hW, hN⟩ : ∃ B0, WordsO w1 B0 gw cw (rowsOf r) ∧ NumsO w1 B0 gn cn xs := ⟨_, hW, hN⟩
          have hlen := rowsOf_length r
          have HSH := hide (rowsOf_shape r)
          have HW := hide hW
          have HN := hide hN
          have HX := hide hx
          have hb' : Below w.heap.size w w1 := (((Below.refl _ _).alloc (Nat.le_refl _) _).alloc (by simp) _).trans (hb.mono (by simp; omega))
          have HB0 := hide hb'
          clear hW hN hx hb hb' hway hw01 e hs0
          generalize hls : rowsOf r = ls at *
          clear hls
          generalize hln : ls.length = n at *
          have HLN := hide hln
          clear hln))
      have hn9 : n ≤ 1048600 := by omega
      go_loopw [3, 6] (fun o i wr => ∃ (k : Nat) (s : ByteArray), k ≤ n ∧ i = .int .i64 k ∧ o = .string s ∧ s.data.toList = t0 ++ textOf (ls.take k) ∧ okOf (ls.take k) = true ∧ Below w1.heap.size w1 wr) (fun _ i _ => n - (intOf i).toNat)
      case atStart => exact ⟨0, _, Nat.zero_le _, rfl, rfl, by rw [List.take_zero]; simpa [textOf] using unhide HS1, rfl, Below.refl _ _⟩
      case round =>
        obtain ⟨k, s, hk, rfl, rfl, hs', hok, hbel⟩ := hrel
        have hsz : s.size ≤ 200000000 := by
          rw [size_of, hs', List.length_append]
          have h1 := okOf_range hok (fun p hp => (unhide HSH p (List.mem_of_mem_take hp)).1)
          have h2 : (ls.take k).length ≤ k := List.length_take_le _ _
          omega
        have HS' := hide hs'
        have HOK := hide hok
        have HB := hide hbel
        clear hs' hok hbel
        by_cases hlt : k < n
        case pos =>
          have hlk : k < ls.length := by rw [unhide HLN]; exact hlt
          have hxl : xs.length = n := by have := congrArg List.length (unhide HX); simp at this; rw [this]; exact unhide HLN
          have c1 := ((unhide HW).later (unhide HB)).read k hlk
          obtain ⟨c2, o2⟩ := ((unhide HN).later (unhide HB)).read k (by omega)
          have hxp : (xs.getD k default).l = (ls.getD k default).2 := by
            have := congrArg (fun l => l.getD k []) (unhide HX)
            simpa [List.getD_eq_getElem?_getD, hlk, hxl, hlt] using this
          have HT := hide (textOf_take ls k hlk)
          have HK := hide (okOf_take ls k hlk)
          have HOUT := hide (okOf_out ls k hlk)
          have hsh := unhide HSH _ (getD_mem' ls k hlk)
          generalize ls.getD k default = p at *
          generalize xs.getD k default = x at *
          obtain ⟨xg, xc, xl⟩ := x
          dsimp only at hxp
          subst hxp
          unfold wordV at c1
          unfold RowV.val at c2
          dsimp only at c2
          have rd := Rd.of_owns o2
          obtain ⟨hp7, hp0⟩ := hsh
          have HRD := hide rd
          clear rd o2
          have hll : (lineB p.1 p.2 = true → (⟨(lineT p.1 p.2).toArray⟩ : ByteArray).size ≤ 160) := fun h => by
            have := lineT_length p.1 p.2 (lineB_range h) hp7
            simpa [ByteArray.size] using this
          cases hb : lineB p.1 p.2
          case false =>
            have HE := hide (putE_no hb)
            have HO := hide (unhide HNO (unhide HOUT hb))
            clear hll
            go_wp2_with fail
            go_region_held (fun w' => w'.cell? ⟨gw, k, none⟩ = some (.string ⟨(kindWord p.1).toArray⟩) ∧ w'.cell? ⟨gn, k, none⟩ = some (.slice (some ⟨xg, 0, none⟩) p.2.length xc)) (first | assumption | exact ⟨c1, c2⟩ | go_keep) ((go_at_call 30; go_must (refine (l4Put_any p.1 hp0 _ _ _ p.2 _ (by exact (unhide HRD).mono ((Below.refl _ _).drew)) hp7).mono ?_; rintro e w9 ⟨rfl, hb9⟩; rw [unhide HE]; have B9 := hide ((unhide HB).drew.trans (hb9.mono (unhide HB).size)); have S9 : w9.cell? ⟨gw, k, none⟩ = some (.string ⟨(kindWord p.1).toArray⟩) ∧ w9.cell? ⟨gn, k, none⟩ = some (.slice (some ⟨xg, 0, none⟩) p.2.length xc) := ⟨keep_cell4 hb9 c1, keep_cell4 hb9 c2⟩; clear hb9)))
            all_goals
              go_wp2_with fail
              go_ret
              exact ⟨ret_str (by rw [unhide HO]), (unhide HB0).trans ((unhide B9).mono (unhide HB0).size)⟩
          case true =>
            have HE := hide (putE_yes hb)
            have hl9 := hll hb
            clear hll
            have HBT := hide hb
            clear hb
            generalize hlt9 : (⟨(lineT p.1 p.2).toArray⟩ : ByteArray) = tl at HE hl9
            have HTL := hide (show tl.data.toList = lineT p.1 p.2 by rw [← hlt9])
            clear hlt9
            go_wp2_with fail
            go_region_held (fun w' => w'.cell? ⟨gw, k, none⟩ = some (.string ⟨(kindWord p.1).toArray⟩) ∧ w'.cell? ⟨gn, k, none⟩ = some (.slice (some ⟨xg, 0, none⟩) p.2.length xc)) (first | assumption | exact ⟨c1, c2⟩ | go_keep) ((go_at_call 30; go_must (refine (l4Put_any p.1 hp0 _ _ _ p.2 _ (by exact (unhide HRD).mono ((Below.refl _ _).drew)) hp7).mono ?_; rintro e w9 ⟨rfl, hb9⟩; rw [unhide HE]; have B9 := hide ((unhide HB).drew.trans (hb9.mono (unhide HB).size)); have S9 : w9.cell? ⟨gw, k, none⟩ = some (.string ⟨(kindWord p.1).toArray⟩) ∧ w9.cell? ⟨gn, k, none⟩ = some (.slice (some ⟨xg, 0, none⟩) p.2.length xc) := ⟨keep_cell4 hb9 c1, keep_cell4 hb9 c2⟩; clear hb9)))
            all_goals
              go_wp2_with fail
              go_roundw
              case rel => exact ⟨k + 1, _, by omega, by go_num, rfl, by rw [unhide HT]; simp [unhide HS', unhide HTL], by rw [unhide HK, unhide HOK, unhide HBT]; rfl, unhide B9⟩
              case measure => simp [intOf]; omega
        case neg =>
          have hkn : k = n := by omega
          have htk : ls.take k = ls := List.take_of_length_le (by rw [unhide HLN]; omega)
          have hY := unhide HYES (by have := unhide HOK; rwa [htk] at this)
          have HY := hide hY
          have HTK := hide htk
          clear hY htk hkn
          go_wp2_with fail
          go_ret
          exact ⟨ret_str (bytes_of (by rw [unhide HS', unhide HTK, unhide HY])), (unhide HB0).trans ((unhide HB).mono (unhide HB0).size)⟩
end Go.Proofs.YtbdpnmlhabliaaaDoor
