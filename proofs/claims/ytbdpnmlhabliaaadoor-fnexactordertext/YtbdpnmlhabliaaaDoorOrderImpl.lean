/- The program's text of an order. -/
import Derived.Test.YtbdpnmlhabliaaaDoorLinesImpl
namespace Go.Proofs.YtbdpnmlhabliaaaDoor
open Go.RowKit
set_option linter.unusedVariables false
set_option maxRecDepth 20000
theorem orderT_ok {r : ReqV} (h : okOf (linesR r) = true) : orderT r = textOf (linesR r) := by rw [orderT, if_pos h]
theorem orderT_bad {r : ReqV} (h : okOf (linesR r) = false) : orderT r = [] := by rw [orderT, if_neg (by rw [h]; decide)]
theorem bytes_app (l : List UInt8) (s : ByteArray) (l' : List UInt8) (h : s.data.toList = l') : Lib.byteCells l ++ Lib.strCells s = Lib.byteCells (l ++ l') := by
  unfold Lib.byteCells Lib.strCells
  rw [h, List.map_append]
theorem linesR_length (r : ReqV) : (linesR r).length = r.pairs.length + r.types.length + r.items.length + 4 := by
  have := rowsOf_length r
  simp [linesR]; omega
set_option maxHeartbeats 2000000 in
theorem orderText_any (r : ReqV) (h : ReqH) (w : World) (hr : RdReq w r h) (hs : r.small) (hwf : r.wf) (hf : FormsIs w) (ht : TabAt w) :
    Calls Tryd.prog 9 #[reqVal r h] w fun e w' => e = .returned (.string ⟨(orderT r).toArray⟩) ∧ Below w.heap.size w w' := by
  have HR := hide hr
  have HSM := hide hs
  have HF := hide hf
  have HT := hide ht
  unfold ReqV.small at hs
  have HSH := hide (linesR_ok r hwf)
  have hlen := linesR_length r
  have HOK := hide (@orderT_ok r)
  have HBAD := hide (@orderT_bad r)
  clear hr hf ht hwf
  unfold reqVal
  go_enter Tryd.func9, Tryd.ntmps9
  go_wp2_with ((
    go_at_call 24
    refine (linesOf_any r h _ (by exact ((unhide HR).mono (((Below.refl _ _).alloc (Nat.le_refl _) _).alloc (by simp) _))) (unhide HSM)).mono ?_
    rintro e1 w1 ⟨g, cap, xs, rfl, hL, hx, hb⟩
    have hF := (Lib.fresh_isBuilder 56 5 (w.alloc (.cells (reqCells r h).toArray 30)))
    simp only [World.size_alloc] at hF
    have hF2 := builder_below (Lib.IsBuilderF.of hF) hb
    have HBU := hide hF2
    simp only [World.size_alloc] at hL
    have HL := hide hL
    have HX := hide hx
    have hb' : Below w.heap.size w w1 := (((Below.refl _ _).alloc (Nat.le_refl _) _).alloc (by simp) _).trans (hb.mono (by simp <;> omega))
    have hz1 : w.heap.size + 1 < w1.heap.size := by have := hb.size; simp at this; omega
    have HB0 := hide hb'
    clear hL hx hb hb' hF hF2
    generalize hls : linesR r = ls at *
    clear hls
    generalize hln : ls.length = n at *
    have HLN := hide hln
    clear hln))
  have hn9 : n ≤ 1048600 := by omega
  go_loopw [11] (fun i wr => ∃ j : Nat, j ≤ n ∧ i = .int .i64 j ∧ okOf (ls.take j) = true ∧ Lib.IsBuilderF 56 5 (w.heap.size + 1) (w.heap.size + 1) (Lib.byteCells (textOf (ls.take j))) wr ∧ LinesO wr (w.heap.size + 1 + 1 + 1) g cap xs ∧ Below w.heap.size w wr ∧ w.heap.size + 1 < wr.heap.size) (fun i _ => n - (intOf i).toNat)
  case atStart => exact ⟨0, Nat.zero_le _, rfl, rfl, unhide HBU, unhide HL, unhide HB0, hz1⟩
  case round =>
    clear HBU HL HB0 hz1
    obtain ⟨j, hj, rfl, hok, hbu, hL, hbel, hz⟩ := hrel
    have hsz : (Lib.byteCells (textOf (ls.take j))).length ≤ 200000000 := by
      rw [Lib.byteCells_length]
      have h1 := okOf_range hok (fun p hp => (unhide HSH p (List.mem_of_mem_take hp)).1)
      have h2 : (ls.take j).length ≤ j := List.length_take_le _ _
      omega
    have HO := hide hok
    have HBU := hide hbu
    have HL := hide hL
    have HB := hide hbel
    clear hok hbu hL hbel
    have hfl := (unhide HF).lt
    by_cases hlt : j < n
    case pos =>
      have hlj : j < ls.length := by rw [unhide HLN]; exact hlt
      have hxl : xs.length = n := by have := congrArg List.length (unhide HX); simp at this; rw [this]; exact unhide HLN
      obtain ⟨c1, c2, o1⟩ := (unhide HL).read j (by omega)
      have hxp : (xs.getD j default).pair = ls.getD j default := by
        have := congrArg (fun l => l.getD j default) (unhide HX)
        simpa [List.getD_eq_getElem?_getD, hlj, hxl, hlt] using this
      have HTT := hide (textOf_take ls j hlj)
      have HOT := hide (okOf_take ls j hlj)
      have HOUT := hide (okOf_out ls j hlj)
      have hsh := unhide HSH _ (getD_mem' ls j hlj)
      rw [← hxp] at HTT HOT HOUT hsh
      clear hxp
      generalize xs.getD j default = x at *
      obtain ⟨k, xg, xc, ns⟩ := x
      unfold LineV.pair at HTT HOT HOUT hsh
      dsimp only at c1 c2 o1 HTT HOT HOUT hsh
      unfold RowV.val at c2
      dsimp only at c2
      obtain ⟨h7, hnr, hk6⟩ := hsh
      dsimp only at h7 hnr hk6
      have HRD := hide (Rd.of_owns o1)
      have HNR := hide hnr
      clear hnr o1
      have hbw : Below wr.heap.size wr (wr.alloc (.cells #[.int .i64 k, .slice (some ⟨xg, 0, none⟩) ns.length xc] 61)) := (Below.refl _ _).alloc (Nat.le_refl _) _
      have HBW := hide hbw
      clear hbw
      have HF1 := hide (((unhide HF).keep (unhide HB) hfl).later (unhide HBW))
      have HT1 := hide (TabAt.later (TabAt.later (unhide HT) (unhide HB)) (unhide HBW))
      have hll : (lineB k ns = true → (⟨(lineT k ns).toArray⟩ : ByteArray).size ≤ 160) := fun h => by
        have := lineT_length k ns (lineB_range h) h7
        simpa [ByteArray.size] using this
      cases hb : lineB k ns
      case false =>
        have HE := hide (putE_no hb)
        have HO2 := hide (unhide HBAD (unhide HOUT hb))
        clear hll
        go_wp2_with ((go_at_call 25; refine (text_any k _ _ _ ns _ hk6 (by exact (unhide HRD).mono (unhide HBW)) h7 (unhide HNR) (by exact unhide HF1) (by exact unhide HT1)).mono ?_; rintro e w2 ⟨rfl, hb2⟩; rw [unhide HE]))
        go_ret
        exact ⟨ret_str (by rw [unhide HO2]), (unhide HB).trans ((unhide HBW).mono (by omega)) |>.trans (hb2.mono (by simp; omega))⟩
      case true =>
        have HE := hide (putE_yes hb)
        have hl9 := hll hb
        have HBT := hide hb
        clear hll hb
        generalize hlt9 : (⟨(lineT k ns).toArray⟩ : ByteArray) = tl at HE hl9
        have HTL := hide (show tl.data.toList = lineT k ns by rw [← hlt9])
        clear hlt9
        go_wp2_with (first
          | (
            go_at_call 25
            refine (text_any k _ _ _ ns _ hk6 (by exact (unhide HRD).mono (unhide HBW)) h7 (unhide HNR) (by exact unhide HF1) (by exact unhide HT1)).mono ?_
            rintro e w2 ⟨rfl, hb2⟩
            rw [unhide HE]
            have HB2 := hide hb2
            have hz2 : w.heap.size + 1 < w2.heap.size := by have := hb2.size; simp at this; omega
            have HBU2 := hide (builder_below (builder_below (unhide HBU) (unhide HBW)) hb2)
            clear hb2)
          | (
            go_at_call 26
            refine (bWrite (w.heap.size + 1) (w.heap.size + 1) _ tl _ (by exact unhide HBU2) (by omega) (by omega)).mono ?_
            rintro e w3 ⟨rfl, hbu3, hb3, hk3⟩
            have HBU3 := hide hbu3
            have HB3 := hide hb3
            have HK3 := hide hk3
            clear hbu3 hb3 hk3))
        go_roundw
        case rel =>
          have h2 : Below w.heap.size w w2 := ((unhide HB).trans ((unhide HBW).mono (by omega))).trans ((unhide HB2).mono (by simp; omega))
          refine ⟨j + 1, by omega, by go_num, by rw [unhide HOT, unhide HO, unhide HBT]; rfl, ?_, (((unhide HL).later (unhide HBW)).later (unhide HB2)).others (unhide HK3) (by omega), h2.trans ((unhide HB3).mono (by omega)), by have := (unhide HB3).size; omega⟩
          rw [unhide HTT, ← bytes_app _ tl _ (unhide HTL)]
          exact Or.inr (unhide HBU3)
        case measure => simp [intOf]; omega
    case neg =>
      have htk : ls.take j = ls := List.take_of_length_le (by rw [unhide HLN]; omega)
      have hY := unhide HOK (by have := unhide HO; rwa [htk] at this)
      have hbu : Lib.IsBuilderF 56 5 (w.heap.size + 1) (w.heap.size + 1) (Lib.byteCells (textOf ls)) wr := by have := unhide HBU; rwa [htk] at this
      have HBU9 := hide hbu
      have HY := hide hY
      clear hY htk hbu
      go_wp2_with ((go_at_call 27; refine (Tryd.Builder_String_any_k (w.heap.size + 1) (w.heap.size + 1) (textOf ls) _ (by exact unhide HBU9) (by omega)).mono ?_; rintro e w9 ⟨rfl, _, hb9, _⟩))
      go_ret
      exact ⟨ret_str (by rw [unhide HY]), (unhide HB).trans (hb9.mono (by omega))⟩
end Go.Proofs.YtbdpnmlhabliaaaDoor
