/- The program's line of an order's text. -/
import Derived.Test.YtbdpnmlhabliaaaDoorBuilder
import Derived.Test.YtbdpnmlhabliaaaDoorForms
import Derived.Test.YtbdpnmlhabliaaaDoorDigitsImpl
import Derived.Test.YtbdpnmlhabliaaaDoorSpecOrder
namespace Go.Proofs.YtbdpnmlhabliaaaDoor
open Go.RowKit
set_option linter.unusedVariables false
set_option maxRecDepth 20000
abbrev TabAt (w : World) : Prop := Lib.TabIs Tryd.prog w "internal/strconv.uint64pow10" .u64 Lib.pow10Tab
theorem TabAt.later {w w' : World} (h : TabAt w) (hb : Below w.heap.size w w') : TabAt w' := tab_later hb (tab_lt h) h
def strV (l : List UInt8) : Value := .string ⟨l.toArray⟩
def wordsL (k : Nat) (ns : List Int) : List (List UInt8) := kindWord k :: ns.map (numW k)
theorem wordsL_step (k : Nat) (ns : List Int) (j : Nat) (h : j < ns.length) : (wordsL k (ns.take (j + 1))).map strV = (wordsL k (ns.take j)).map strV ++ [strV (numW k (ns.getD j 0))] := by
  have e : ∀ l, (wordsL k l).map strV = strV (kindWord k) :: l.map (fun n => strV (numW k n)) := fun l => by simp [wordsL]
  have g : ns[j] = ns.getD j 0 := by simp [List.getD_eq_getElem?_getD, h]
  rw [List.take_succ_eq_append_getElem h, e, e, List.map_append, g]
  rfl
theorem wordsL_len (k : Nat) (ns : List Int) (j : Nat) (h : j ≤ ns.length) : ((wordsL k (ns.take j)).map strV).length = j + 1 := by
  simp [wordsL]; omega
theorem numE_eq {k : Nat} {n : Int} {s : ByteArray} {b : Bool} (h : s = ⟨(numW k n).toArray⟩) (h' : b = numB k n) : Ending.returned (.tuple #[.string s, .bool b]) = .returned (.tuple #[.string ⟨(numW k n).toArray⟩, .bool (numB k n)]) := by rw [h, h']
set_option maxHeartbeats 1000000 in
theorem numberWord_any (k : Nat) (n : Int) (w : World) (hk : k ≤ 6) (hn : NumR n) (ht : TabAt w) :
    Calls Tryd.prog 58 #[.int .i64 k, .int .i64 n] w fun e w' => e = .returned (.tuple #[.string ⟨(numW k n).toArray⟩, .bool (numB k n)]) ∧ Below w.heap.size w w' := by
  unfold NumR at hn
  have HT := hide ht
  clear ht
  by_cases hk0 : k = 0
  · subst hk0
    by_cases h0 : n = 0
    · subst h0
      go_enter Tryd.func58, Tryd.ntmps58
      go_wp2
      go_ret2
      exact ⟨rfl, Below.refl _ _⟩
    · by_cases h1 : n = 1
      · subst h1
        go_enter Tryd.func58, Tryd.ntmps58
        go_wp2
        go_ret2
        exact ⟨rfl, Below.refl _ _⟩
      · have HB := hide (show inB n 0 1 = false by rw [Bool.eq_false_iff]; intro h; rw [inB_iff] at h; omega)
        go_enter Tryd.func58, Tryd.ntmps58
        go_wp2
        go_ret2
        exact ⟨numE_eq (by simp [numW, h0, h1]) (by simp [numB, unhide HB]), Below.refl _ _⟩
  · have hk1 : ¬ (k : Int) = 0 := by omega
    have HW := hide (numW_pos hk0 n)
    have HN := hide (numB_pos hk0 n)
    go_enter Tryd.func58, Tryd.ntmps58
    go_wp2_with (first
      | (go_at_call 78; refine (implDigits_any n _ (by omega) (by omega) (by exact unhide HT)).mono ?_; rintro e w1 ⟨rfl, hb1⟩)
      | (go_at_call 79; refine (within_any _ _ _ _).mono ?_; rintro e w2 ⟨rfl, rfl⟩))
    go_ret2
    exact ⟨numE_eq (by rw [unhide HW]) (by rw [unhide HN]), hb1⟩
/-- What Join is asked for, and what it answers. -/
theorem join_line (k : Nat) (ns : List Int) : Lib.join (((wordsL k ns).map fun l => (⟨l.toArray⟩ : ByteArray)).map (·.data.toList)) (⟨#[32]⟩ : ByteArray).data.toList = kindWord k ++ tailT k ns := by
  rw [List.map_map]
  have e : ((fun x : ByteArray => x.data.toList) ∘ fun l : List UInt8 => (⟨l.toArray⟩ : ByteArray)) = id := by funext l; simp
  rw [e, List.map_id]
  exact join_words k (kindWord k) ns
theorem Tryd.infoStr5 : (Tryd.prog.info? 9).map (fun i => (i.zero, i.size, i.bytes)) = some (some (.string ⟨#[]⟩), 1, 16) := by kernel_rfl
set_option maxHeartbeats 2000000 in
theorem text_any (k : Nat) (a : Option Addr) (n c : Nat) (ns : List Int) (w : World) (hk : k ≤ 6) (hr : Rd w a n ns) (hn : n ≤ 7) (hnr : ∀ m ∈ ns, NumR m) (hf : FormsIs w) (ht : TabAt w) :
    Calls Tryd.prog 25 #[.agg #[.int .i64 k, .slice a n c]] w fun e w' => e = putE k ns ∧ Below w.heap.size w w' := by
  obtain ⟨i0, hi0, hz0, hz1, hz2⟩ := info_parts Tryd.infoStr5
  have hkw := kindWord_length k
  have HR := hide hr
  have HF := hide hf
  have HT := hide ht
  have HNR := hide hnr
  have hlt0 := hf.lt
  have hwd := hf.word k hk
  clear hr hf ht hnr
  go_enter Tryd.func25, Tryd.ntmps25
  go_wp2_with fail
  go_loopw [4, 18] (fun o i wr => ∃ (j g cap : Nat), j ≤ n ∧ i = .int .i64 j ∧ o = .slice (some ⟨g, 0, none⟩) (j + 1) cap ∧ wr.ownsRow (w.heap.size + 1) 9 1 (.slice (some ⟨g, 0, none⟩) (j + 1) cap) (j + 1) ((wordsL k (ns.take j)).map strV) ∧ (ns.take j).all (numB k) = true ∧ Below w.heap.size w wr ∧ w.heap.size < wr.heap.size ∧ Blk wr w.heap.size [.int .i64 k, .slice a n c]) (fun _ i _ => n - (intOf i).toNat)
  case atStart =>
    refine ⟨0, w.heap.size + 1, 1, Nat.zero_le _, rfl, rfl, ?_, rfl, ((Below.refl _ _).alloc (Nat.le_refl _) _).alloc (by simp) _, by simp; omega, (Blk.alloc w [.int .i64 k, .slice a n c] 61).allocOld (by simp) _⟩
    have := World.ownsRow_lit (base := w.heap.size + 1) (e := 9) (size := 1) (w.alloc (.cells #[.int .i64 k, .slice a n c] 61)) #[.string ⟨(kindWord k).toArray⟩] 1 (by simp) (by unfold maxLen; omega) rfl
    rw [World.size_alloc] at this
    exact this
  case round =>
    obtain ⟨j, g, cap, hj, rfl, rfl, hown, hall, hbel, hz, hB⟩ := hrel
    have a0 : wr.cell? ⟨w.heap.size, 0, none⟩ = some (.int .i64 k) := (hB 0 (by simp)).1
    have HO := hide hown
    have HA := hide hall
    have HB := hide hbel
    have HK := hide hB
    have hg := own_base hown
    clear hown hall hbel hB
    by_cases hlt : j < n
    case pos =>
      obtain ⟨b, off, rfl, hc⟩ := (unhide HR).2 j hlt
      have hc1 : wr.cell? ⟨b, off + j, none⟩ = some (.int .i64 (ns.getD j 0)) := keep_cell4 (unhide HB) hc
      have hlj : j < ns.length := by rw [(unhide HR).1]; exact hlt
      have hxr : NumR (ns.getD j 0) := unhide HNR _ (by rw [List.getD_eq_getElem?_getD, List.getElem?_eq_getElem hlj]; exact List.getElem_mem _)
      have HS := hide (wordsL_step k ns j hlj)
      have HN := hide (all_take_step ns (numB k) j hlj)
      have HOUT := hide (all_out ns (numB k) j hlj)
      have HXR := hide hxr
      clear hc hxr
      generalize ns.getD j 0 = x at hc1 HS HN HOUT HXR
      have hnl := numW_length k x (unhide HXR)
      have HF1 := hide ((unhide HF).later (unhide HB))
      have HT1 := hide (TabAt.later (unhide HT) (unhide HB))
      cases hx : numB k x
      case false =>
        have hnb : lineB k ns = false := unhide HOUT hx
        have HNB := hide hnb
        clear hnb
        go_wp2_with ((go_at_call 58; refine (numberWord_any k x _ hk (unhide HXR) (by exact unhide HT1)).mono ?_; rintro e w1 ⟨rfl, hb1⟩; rw [hx]))
        go_ret2
        exact ⟨(putE_no (unhide HNB)).symm, (unhide HB).trans (hb1.mono (unhide HB).size)⟩
      case true =>
        have HX := hide hx
        clear hx
        go_wp2_with (first
          | (
            go_at_call 58
            refine (numberWord_any k x _ hk (unhide HXR) (by exact unhide HT1)).mono ?_
            rintro e w1 ⟨rfl, hb1⟩
            rw [unhide HX]
            have HB1 := hide hb1
            have hzz1 := hb1.size
            clear hb1)
          | (
            at_builtin
            refine wpList_append_own _ rfl _ _ 38 rfl (w.heap.size + 1) 9 i0 (.string ⟨#[]⟩) 1 16 Tryd.underlying38 hi0 hz0 hz1 hz2 rfl (by decide) (.slice (some ⟨g, 0, none⟩) (j + 1) cap) (j + 1) ((wordsL k (ns.take j)).map strV) rfl (by exact own_later (own_later (unhide HO) (unhide HB1)) ((Below.refl _ _).alloc (Nat.le_refl _) _)) ⟨w1.heap.size, 0, none⟩ 1 1 [.string ⟨(numW k x).toArray⟩] rfl rfl (cell_one_new _ _ _) (by simp [Value.oneCell']) (by unfold maxLen; omega) (by omega) (by simp; omega) ?_
            intro v1 w2 h1 h2 h3
            have HO2 := hide h1
            have HG2 := hide h2
            clear h1 h2 h3)
          | go_in)
        go_roundw
        case rel =>
          obtain ⟨g', c', rfl⟩ := own_grew (unhide HO2)
          have hb2 : Below w.heap.size w (w1.alloc (.cells #[.string ⟨(numW k x).toArray⟩] 9)) := ((unhide HB).trans ((unhide HB1).mono (unhide HB).size)).alloc (by omega) _
          have hB2 : Blk (w1.alloc (.cells #[.string ⟨(numW k x).toArray⟩] 9)) w.heap.size [.int .i64 k, .slice (some ⟨b, off, none⟩) n c] := (Blk.below (unhide HB1) hz (unhide HK)).allocOld (by omega) _
          refine ⟨j + 1, g', c', by omega, by go_num, rfl, ?_, by rw [unhide HN, unhide HA, unhide HX]; rfl, grown_below hb2 (unhide HG2) (by simp; omega) (by show w.heap.size ≤ g; omega), ?_, hB2.grew (by simp; omega) (unhide HG2) (by show w.heap.size ≠ g; omega)⟩
          · rw [unhide HS]; exact unhide HO2
          · have := (unhide HG2).size; simp at this; omega
        case measure => simp [intOf]; omega
    case neg =>
      have hjn : j = n := by omega
      have htk : ns.take j = ns := List.take_of_length_le (by rw [(unhide HR).1]; omega)
      have hl : lineB k ns = true := by have := unhide HA; rw [htk] at this; exact this
      have hown : wr.ownsRow (w.heap.size + 1) 9 1 (.slice (some ⟨g, 0, none⟩) (j + 1) cap) (j + 1) ((wordsL k ns).map strV) := by have := unhide HO; rwa [htk] at this
      have hlen : ((wordsL k ns).map fun l => (⟨l.toArray⟩ : ByteArray)).length = j + 1 := by simp [wordsL, (unhide HR).1]; omega
      have hcap : j + 1 ≤ cap := by
        obtain ⟨_, ⟨h1, h2⟩ | ⟨g1, c1, cur, h1, _, _, h4, _⟩⟩ := hown
        · omega
        · cases h1; exact h4
      have hcells : ∀ (i : Nat) (x : ByteArray), ((wordsL k ns).map fun l => (⟨l.toArray⟩ : ByteArray))[i]? = some x → wr.cell? ⟨g, 0 + i, none⟩ = some (.string x) := by
        intro i x hx
        have hi : i < j + 1 := by rw [← hlen]; exact (List.getElem?_eq_some_iff.1 hx).1
        rw [Nat.zero_add, hown.cellAt i (by omega)]
        simp only [List.getElem?_map, Option.map_eq_some_iff] at hx ⊢
        obtain ⟨l, hl1, rfl⟩ := hx
        exact ⟨l, hl1, rfl⟩
      have hjl := tailT_length k ns (unhide HNR)
      have hJ := Tryd.strings_Join g 0 cap ((wordsL k ns).map fun l => (⟨l.toArray⟩ : ByteArray)) ⟨#[32]⟩ wr hcells (World.ownsRow.lt hown g rfl).2 (by rw [hlen]; omega) (by rw [hlen]; exact hcap) (by rw [join_line, List.length_append]; have := (unhide HR).1; omega)
      rw [hlen, join_line] at hJ
      have HJ := hide hJ
      have HL := hide hl
      have hsz9 : (kindWord k).length + (tailT k ns).length ≤ 200 := by have := (unhide HR).1; omega
      clear hjn htk hl hown hlen hcells hJ hjl
      go_wp2_with ((go_at_call 59; refine (unhide HJ).mono ?_; rintro e w1 ⟨rfl, hb1⟩))
      go_ret2
      refine ⟨?_, (unhide HB).trans (hb1.mono (unhide HB).size)⟩
      rw [putE_yes (unhide HL)]
      exact tuple_sb (bytes_of (by simp [lineT])) rfl
end Go.Proofs.YtbdpnmlhabliaaaDoor
