/- The model's draws of chapter 3: pairs, a list of kinds. -/
import Derived.Test.YtmjohalblppgiaaDrawRight
import Derived.Laws.AppendOwnNone
namespace Go.Proofs.Ytmjohalblppgiaa
open Go.RowKit
set_option linter.unusedVariables false
set_option linter.unusedSimpArgs false

theorem add_zero_off (g j : Nat) : (⟨g, 0, none⟩ : Addr).add j = ⟨g, j, none⟩ := by
  unfold Addr.add
  split
  · next h => subst h; rfl
  · simp
theorem own_news {w : World} {B e k g n cap : Nat} {L : List Value} (h : w.ownsRow B e k (.slice (some ⟨g, 0, none⟩) n cap) n L) : ∀ j u, L[j]? = some u → w.cell? ((⟨g, 0, none⟩ : Addr).add j) = some u := by
  intro j u hu
  rw [add_zero_off]
  have hl : j < L.length := (List.getElem?_eq_some_iff.1 hu).1
  exact (h.cellAt j (by rw [← h.1]; exact hl)).trans hu
theorem own_none {w : World} {B e k n cap : Nat} {L : List Value} (h : w.ownsRow B e k (.slice none n cap) n L) : n = 0 ∧ cap = 0 := by
  rcases h.2 with ⟨h1, h2⟩ | ⟨g, cap', cur, h1, _⟩
  · simp only [Value.slice.injEq, true_and] at h1
    exact h1
  · simp at h1
theorem own_some {w : World} {B e k n cap : Nat} {x : Addr} {L : List Value} (h : w.ownsRow B e k (.slice (some x) n cap) n L) : ∃ g, x = ⟨g, 0, none⟩ := by
  rcases h.2 with ⟨h1, h2⟩ | ⟨g, cap', cur, h1, _⟩
  · simp at h1
  · simp only [Value.slice.injEq, Option.some.injEq] at h1
    exact ⟨g, h1.1⟩
theorem own_room {w : World} {B e k n g cap : Nat} {L : List Value} (h : w.ownsRow B e k (.slice (some ⟨g, 0, none⟩) n cap) n L) : n ≤ cap := by
  rcases h.2 with ⟨h1, h2⟩ | ⟨g', cap', cur, h1, h2, h3, h4⟩
  · simp at h1
  · simp only [Value.slice.injEq] at h1
    obtain ⟨_, _, rfl⟩ := h1
    exact h4.1
theorem pairs_one (ps : List PairV) : ∀ u ∈ ps.flatMap PairV.cells, u.oneCell' = true := by
  intro u hu
  rw [List.mem_flatMap] at hu
  obtain ⟨q, _, hq⟩ := hu
  simp [PairV.cells] at hq
  rcases hq with rfl | rfl <;> rfl
theorem pairs_flat_len (ps : List PairV) : (ps.flatMap PairV.cells).length = ps.length * 2 := by
  induction ps with
  | nil => rfl
  | cons q ps ih => rw [List.flatMap_cons, List.length_append, ih, PairV.len, List.length_cons]; omega
/-- An append onto what is owned, of what may be nil. -/
theorem wpList_append_opt {P : Program} (w : World) {ops : Array Oper} {rest : List Oper} {o : Oper} {a : Act} {Q : Exit → Act → World → Prop} (hgd : o.guard = none) (s x : Operand) (t : TypeId)
    (ho : o.op = .call { callee := .builtin .append, args := #[s, x], argTypes := #[t, t] })
    (base : Nat) (e : TypeId) (i : TypeInfo) (z : Value) (size bytes : Nat) (ht : P.underlying t = some (.slice e)) (hi : P.info? e = some i) (hz : i.zero = some z)
    (hsize : i.size = size) (hby : i.bytes = bytes) (hzs : z.cells.size = size) (hsz : 0 < size)
    (v : Value) (n : Nat) (xs : List Value) (hs : a.eval s = v) (hown : w.ownsRow base e size v n xs)
    (ao : Option Addr) (m c : Nat) (news : List Value) (hx : a.eval x = .slice ao m c) (hnone : ao = none → m = 0 ∧ c = 0) (hl : news.length = m * size) (hnews : ∀ ad, ao = some ad → ∀ j u, news[j]? = some u → w.cell? (ad.add j) = some u) (h1 : ∀ u ∈ news, u.oneCell' = true)
    (h63 : n + m ≤ maxLen) (hbytes : (n + m) * bytes ≤ 140737488355328) (hbase : base ≤ w.heap.size) (hv : ¬ v = .slice none 0 0)
    (h : ∀ g cap w', w'.ownsRow base e size (.slice (some ⟨g, 0, none⟩) (n + m) cap) (n + m) (xs ++ news) → w.grownBy w' v.ownBlock → wpList P ops Q rest (a.put o.dst (.slice (some ⟨g, 0, none⟩) (n + m) cap)) w') : wpList P ops Q (o :: rest) a w := by
  cases ao with
  | none =>
    obtain ⟨rfl, rfl⟩ := hnone rfl
    obtain rfl : news = [] := List.eq_nil_of_length_eq_zero (by simpa using hl)
    obtain ⟨g, cap, rfl⟩ := own_shape hown hv
    refine wpList_append_own_none hgd s x t ho base e i size ht hi _ n xs hs hown hx ?_
    have := h g cap w (by simpa using hown) (World.grownBy.refl _ _)
    simpa using this
  | some ad =>
    refine wpList_append_own w hgd s x t ho base e i z size bytes ht hi hz hsize hby hzs hsz v n xs hs hown ad m c news hx hl (hnews ad rfl) h1 h63 hbytes hbase fun v' w' h2 h3 h4 => ?_
    obtain ⟨g, cap, rfl⟩ := own_shape h2 (fun e => hv (h4.1 e).1)
    exact h g cap w' h2 h3
/-- Pairs that are being drawn: the cursor at k, the pairs in a row of their own. -/
structure Prs (w : World) (k : Nat) (a : Option Addr) (n c : Nat) (zs : List Int) (g cap : Nat) (ps : List PairV) (wr : World) : Prop where
  cur : Cur wr k a n c zs
  gb : w.grownBy wr (some k)
  own : wr.ownsRow w.heap.size 40 2 (.slice (some ⟨g, 0, none⟩) ps.length cap) ps.length (ps.flatMap PairV.cells)
  hk : k < w.heap.size
  hb : 0 < n → ∀ x, a = some x → x.block < w.heap.size
section
variable {w : World} {k : Nat} {a : Option Addr} {n c : Nat} {zs : List Int} {g cap : Nat} {ps : List PairV} {wr w' : World}
theorem Prs.call (s : Prs w k a n c zs g cap ps wr) (hg : wr.grownBy w' (some k)) (hc : Cur w' k a n c zs) : Prs w k a n c zs g cap ps w' :=
  ⟨hc, gb_same s.gb hg, s.own.kept hg (Or.inr (by have := own_base s.own; have := s.hk; intro e; simp [Value.ownBlock] at e; omega)), s.hk, s.hb⟩
theorem Prs.app (s : Prs w k a n c zs g cap ps wr) {qs : List PairV} {g' cap' : Nat} {row : Option Nat} (ho : w'.ownsRow w.heap.size 40 2 (.slice (some ⟨g', 0, none⟩) (ps ++ qs).length cap') (ps ++ qs).length ((ps ++ qs).flatMap PairV.cells)) (hg : wr.grownBy w' row) (hr : ∀ b, row = some b → w.heap.size ≤ b) : Prs w k a n c zs g' cap' (ps ++ qs) w' := by
  have h1 := s.hk
  exact ⟨s.cur.grownRow hg (fun e => by have := hr k e.symm; omega) (fun hn x hx e => by have := hr _ e.symm; have := s.hb hn x hx; omega), gb_any s.gb hg hr, ho, s.hk, s.hb⟩
end
theorem field_pairs (r : ReqV) (h : ReqH) (W : World) : (Instr.field 78 (reqVal r h) 3).run Try.prog W = .ok (.slice h.ap r.pairs.length h.cp) W := by
  unfold reqVal
  simp only [Instr.field, Sem.run_bind, run_underlying Try.underlying78, Result.andThen_ok]
  go_simp
  simp [asAgg]
set_option maxRecDepth 100000 in
set_option maxHeartbeats 4000000 in
theorem l3Pairs_any (k : Nat) (a : Option Addr) (n c : Nat) (zs : List Int) (w : World) (hc : Cur w k a n c zs) :
    Calls Try.prog 35 #[.pointer (some ⟨k, 0, none⟩)] w fun e w' => ∃ (b off m cap : Nat) (ps : List PairV), e = .returned (.slice (some ⟨b, off, none⟩) m cap) ∧ m ≤ 17 ∧ RdR PairV.cells 2 w' (some ⟨b, off, none⟩) m ps ∧ w.heap.size ≤ b ∧ Cur w' k a n c zs ∧ w.grownBy w' (some k) := by
  obtain ⟨i0, hi0, hz0, hz1, hz2⟩ := info_parts Try.dinfoPair
  have hkw : k < w.heap.size := by obtain ⟨_, _, _, _, h⟩ := hc.cells; exact lt_of_block h
  have HB := hide (fun hn x hx => ha_lt hc (World.grownBy.refl w none) hn x hx)
  have hown0 : (w.alloc (.cells #[] 40)).ownsRow w.heap.size 40 2 (.slice (some ⟨w.heap.size, 0, none⟩) 0 0) 0 [] := World.ownsRow_lit w #[] 0 (Nat.le_refl _) (Nat.zero_le _) rfl
  have S0 : Hid (Prs w k a n c zs w.heap.size 0 [] (w.alloc (.cells #[] 40))) := ⟨hc.mono ((Below.refl _ _).alloc (Nat.le_refl _) _), World.grownBy_alloc w _ (some k), hown0, hkw, unhide HB⟩
  clear hown0 hc
  go_enter Try.func35, Try.ntmps35
  go_wp2_with fail
  refine (l2Right_any k a n c zs _ (unhide S0).cur).mono ?_
  rintro e w1 ⟨r, h, rfl, hbb, hlst, hc1, hg1⟩
  have S1 := hide ((unhide S0).call hg1 hc1)
  have HL := hide hlst.op
  have hp16 : r.pairs.length ≤ 16 := by simp only [boundsB, pairsB, Bool.and_eq_true, decide_eq_true_eq] at hbb; exact hbb.1.1.1.2.1
  have hz : w.heap.size < w1.heap.size := by have := hg1.size; simp at this; omega
  clear hbb hlst hc1 hg1 S0
  have hF := field_pairs r h
  simp only [reqVal] at hF ⊢
  go_wp2_with (first
    | (at_builtin; refine wpList_append_opt _ rfl _ _ 24 rfl w.heap.size 40 i0 (.agg #[.int .i64 0, .int .i64 0]) 2 16 Try.underlying24 hi0 hz0 hz1 hz2 rfl (by omega) (.slice (some ⟨w.heap.size, 0, none⟩) 0 0) 0 [] rfl (unhide S1).own h.ap r.pairs.length h.cp (r.pairs.flatMap PairV.cells) rfl (fun e => by have := unhide HL; rw [e] at this; exact own_none this) (pairs_flat_len _) (fun ad e => by have := unhide HL; rw [e] at this; obtain ⟨g, rfl⟩ := own_some this; exact own_news this) (pairs_one _) (by unfold maxLen; omega) (by omega) (by omega) (by simp) ?_; intro g2 cap2 w2 ho2 hg2; rw [Nat.zero_add] at ho2 ⊢)
    | fail)
  have S2 : Hid (Prs w k a n c zs g2 cap2 r.pairs w2) := (unhide S1).app (qs := r.pairs) ho2 hg2 (fun b hb => by simp [Value.ownBlock] at hb; omega)
  generalize r.pairs = ps at S2 hp16 ⊢
  have hzz := (unhide S2).gb.size
  clear ho2 hg2 S1 HL hF
  refine (l1Below_any k a n c zs 8 w2 (unhide S2).cur (by omega) (by omega)).mono ?_
  rintro e w3 ⟨x, rfl, hx0, hx1, hc3, hg3⟩
  have S3 := hide ((unhide S2).call hg3 hc3)
  clear hc3 hg3 S2
  by_cases e0 : x = 0
  · subst e0
    go_wp2_with fail
    refine (l1Below_any k a n c zs 6 w3 (unhide S3).cur (by omega) (by omega)).mono ?_
    rintro e w4 ⟨y, rfl, hy0, hy1, hc4, hg4⟩
    have S4 := hide ((unhide S3).call hg4 hc4)
    clear hc4 hg4 S3
    go_wp2_with fail
    refine (l1Below_any k a n c zs 5 w4 (unhide S4).cur (by omega) (by omega)).mono ?_
    rintro e w5 ⟨v, rfl, hv0, hv1, hc5, hg5⟩
    have S5 := hide ((unhide S4).call hg5 hc5)
    have hz5 := (unhide S5).gb.size
    clear hc5 hg5 S4
    have S6 : Hid ((w5.alloc (.cells #[.int .i64 (y - 1), .int .i64 v] 40)).ownsRow w.heap.size 40 2 (.slice (some ⟨g2, 0, none⟩) ps.length cap2) ps.length (ps.flatMap PairV.cells)) := own_later (unhide S5).own ((Below.refl _ _).alloc (Nat.le_refl _) _)
    go_wp2_with (first
      | (at_builtin; refine wpList_append_lies _ rfl _ _ 24 rfl w.heap.size 40 i0 (.agg #[.int .i64 0, .int .i64 0]) 2 16 Try.underlying24 hi0 hz0 hz1 hz2 rfl (by omega) (.slice (some ⟨g2, 0, none⟩) ps.length cap2) ps.length (ps.flatMap PairV.cells) rfl (unhide S6) ⟨w5.heap.size, 0, none⟩ 1 1 (PairV.cells ⟨y - 1, v⟩) rfl rfl (World.news_of_block (heap_alloc_new _ _)) (by simp [PairV.cells, Value.oneCell']) (by omega) (by unfold maxLen; omega) (by omega) (by simp; omega) (w5.heap.size + 1) (by simp) ?_; intro g6 cap6 w6 ho6 hg6 hat6 hlt6)
      | fail)
    go_ret
    refine ⟨g6, 0, ps.length + 1, cap6, ps ++ [⟨y - 1, v⟩], rfl, by omega, ?_, own_base ho6, ?_, ?_⟩
    · have := RdR.of_flat (xs := ps ++ [⟨y - 1, v⟩]) PairV.len (by rw [List.length_append, List.flatMap_append]; exact ho6)
      rw [List.length_append] at this
      exact this
    · refine ((unhide S5).cur.mono ((Below.refl _ _).alloc (Nat.le_refl _) _)).grownRow hg6 ?_ ?_
      · intro e; simp [Value.ownBlock] at e; have := own_base (unhide S5).own; omega
      · intro hn x hx e; simp [Value.ownBlock] at e; have := own_base (unhide S5).own; have := (unhide S5).hb hn x hx; omega
    · exact gb_any (gb_same (unhide S5).gb (World.grownBy_alloc w5 _ (some k))) hg6 (fun b hb => by simp [Value.ownBlock] at hb; have := own_base (unhide S5).own; omega)
  by_cases e1 : x = 1
  · subst e1
    by_cases hp : ps.length = 0
    · have hgt : ¬ (0 : Int) < (ps.length : Int) := by omega
      clear hp
      go_wp2_with fail
      go_ret
      exact ⟨g2, 0, ps.length, cap2, ps, rfl, by omega, RdR.of_flat PairV.len (unhide S3).own, own_base (unhide S3).own, (unhide S3).cur, (unhide S3).gb⟩
    · have hgt : (0 : Int) < (ps.length : Int) := by omega
      have hcl : ps.length ≤ cap2 := own_room (unhide S3).own
      have HP := hide hp
      clear hp
      have HRD := hide (RdR.of_flat PairV.len (unhide S3).own)
      have HOB := hide (own_base (unhide S3).own)
      go_wp2_with fail
      case inl =>
        go_ret
        exact ⟨g2, 0, ps.length - 1, ⟨0, rfl⟩, by omega, ⟨[], by rw [List.length_nil]; omega, fun i hi => by omega⟩, unhide HOB, (unhide S3).cur, (unhide S3).gb⟩
      case inr =>
        go_ret
        exact ⟨g2, 2, ps.length - 1, ⟨cap2 - 1, rfl⟩, by omega, ⟨ps.drop 1, by rw [List.length_drop], fun i hi => by
          obtain ⟨b, off, ha, hc⟩ := (unhide HRD).2 (i + 1) (by omega)
          cases ha
          refine ⟨g2, 2, rfl, fun j hj => ?_⟩
          have h1 := hc j hj
          rw [show 0 + (i + 1) * 2 + j = 2 + i * 2 + j by omega] at h1
          rw [h1]
          congr 2
          simp [List.getD_eq_getElem?_getD, Nat.add_comm]⟩, unhide HOB, (unhide S3).cur, (unhide S3).gb⟩
  have t0 : (x == 0) = false := by simp [e0]
  have t1 : (x == 1) = false := by simp [e1]
  go_wp2_with fail
  go_ret
  exact ⟨g2, 0, ps.length, cap2, ps, rfl, by omega, RdR.of_flat PairV.len (unhide S3).own, own_base (unhide S3).own, (unhide S3).cur, (unhide S3).gb⟩
set_option maxRecDepth 100000 in
set_option maxHeartbeats 3200000 in
theorem l3List_any (k : Nat) (a : Option Addr) (n c : Nat) (zs : List Int) (w : World) (hc : Cur w k a n c zs) :
    Calls Try.prog 36 #[.pointer (some ⟨k, 0, none⟩)] w fun e w' => ∃ (g cap : Nat) (ks : List Int), e = .returned (.slice (some ⟨g, 0, none⟩) ks.length cap) ∧ ks.length ≤ 5 ∧
      w'.ownsRow w.heap.size 3 1 (.slice (some ⟨g, 0, none⟩) ks.length cap) ks.length (ks.map (Value.int .i64)) ∧ Cur w' k a n c zs ∧ w.grownBy w' (some k) := by
  obtain ⟨i0, hi, hz0, hz1, hz2⟩ := info_parts Try.infoInt
  have hkw : k < w.heap.size := by obtain ⟨_, _, _, _, h⟩ := hc.cells; exact lt_of_block h
  have hown0 : (w.alloc (.cells #[] 3)).ownsRow w.heap.size 3 1 (.slice (some ⟨w.heap.size, 0, none⟩) 0 0) 0 [] := World.ownsRow_lit w #[] 0 (Nat.le_refl _) (Nat.zero_le _) rfl
  have HO0 := hide hown0
  have HC0 := hide (hc.mono ((Below.refl _ _).alloc (Nat.le_refl _) (.cells #[] 3)))
  have HC0B := hide hc
  have HG0 := hide (World.grownBy_alloc w (.cells #[] 3) (some k))
  clear hown0 hc
  go_enter Try.func36, Try.ntmps36
  go_wp2_with fail
  refine (l1Below_any k a n c zs 6 _ HC0.out (by omega) (by omega)).mono ?_
  rintro e w1 ⟨m, rfl, hm0, hm1, hc1, hg1⟩
  obtain ⟨mm, rfl⟩ := Int.eq_ofNat_of_zero_le hm0
  have HC1 := hide hc1
  have HG1 := hide (gb_same HG0.out hg1)
  have HO1 := hide (HO0.out.kept hg1 (Or.inr (by simp [Value.ownBlock]; omega)))
  clear hc1 hg1 HO0 HC0 HG0
  go_wp2
  go_loopw [3, 5] (fun o iv wr => ∃ (j g cap : Nat) (ks : List Int), j ≤ mm ∧ ks.length = j ∧ iv = .int .i64 (j : Int) ∧ o = .slice (some ⟨g, 0, none⟩) j cap ∧ wr.ownsRow w.heap.size 3 1 (.slice (some ⟨g, 0, none⟩) j cap) j (ks.map (Value.int .i64)) ∧ Cur wr k a n c zs ∧ w.grownBy wr (some k)) (fun _ iv _ => mm - (intOf iv).toNat)
  case atStart => exact ⟨0, w.heap.size, 0, [], Nat.zero_le _, rfl, rfl, rfl, HO1.out, HC1.out, HG1.out⟩
  case round =>
    clear HO1 HC1 HG1
    obtain ⟨j, g, cap, ks, hj, hl, rfl, rfl, how, hcur, hgb⟩ := hrel
    have HL := hide hl
    have HW := hide how
    have HC := hide hcur
    have HG := hide hgb
    have hsz := hgb.size
    clear hl how hcur hgb
    by_cases hlt : j < mm
    · have t1 : (j : Int) < (mm : Int) := by omega
      have hlit : Rd (wr.alloc (.cells #[.int .i64 0, .int .i64 1, .int .i64 2, .int .i64 3, .int .i64 0, .int .i64 1, .int .i64 2, .int .i64 3, .int .i64 4, .int .i64 (-1)] 3)) (some ⟨wr.heap.size, 0, none⟩) 10 [0, 1, 2, 3, 0, 1, 2, 3, 4, -1] := Rd.of_owns (base := wr.heap.size) (cap := 10) (World.ownsRow_lit wr #[.int .i64 0, .int .i64 1, .int .i64 2, .int .i64 3, .int .i64 0, .int .i64 1, .int .i64 2, .int .i64 3, .int .i64 4, .int .i64 (-1)] 10 (Nat.le_refl _) (by unfold maxLen; omega) rfl)
      go_wp2_with fail
      refine (l1PickInt_any k a n c zs wr.heap.size 10 10 [0, 1, 2, 3, 0, 1, 2, 3, 4, -1] _ (HC.out.mono ((Below.refl _ _).alloc (Nat.le_refl _) _)) hlit (by omega) (by omega) (by omega)).mono ?_
      generalize [0, 1, 2, 3, 0, 1, 2, 3, 4, -1] = ls
      rintro e w2 ⟨q, hq, rfl, hc2, hg2⟩
      generalize ls.getD q 0 = x
      have HW2 := hide ((HW.out.alloc _).kept hg2 (Or.inr (by have := own_base HW.out; simp [Value.ownBlock]; omega)))
      have HG2 := hide (gb_same (gb_same HG.out (World.grownBy_alloc wr _ (some k))) hg2)
      have HC2 := hide hc2
      have hsz2 := HG2.out.size
      have hkk := own_base HW2.out
      clear hc2 hg2 hlit HW HC HG
      go_wp2_with (first
        | (at_builtin; refine wpList_append_own _ rfl _ _ 25 rfl w.heap.size 3 i0 (.int .i64 0) 1 8 Try.underlying25 hi hz0 hz1 hz2 rfl (by decide) (.slice (some ⟨g, 0, none⟩) j cap) j (ks.map (Value.int .i64)) rfl (HW2.out.alloc _) ⟨w2.heap.size, 0, none⟩ 1 1 [.int .i64 x] rfl rfl (cell_one_new _ _ _) (by simp [Value.oneCell']) (by unfold maxLen; omega) (by omega) (by simp; omega) ?_; intro v' w3 h1 h2 h3)
        | go_in)
      obtain ⟨g', cap', hv, ho, hgn, gg, hgg, hg3⟩ := app_key HL.out HW2.out (Nat.le_refl _) HG2.out h1 h2 h3
      have HC3 := hide (HC2.out.grown hg3 (by omega) (fun hn x hx => by have := ha_lt HC0B.out HG2.out hn x hx; omega))
      have hlen : (ks ++ [x]).length = j + 1 := by simp [HL.out]
      rw [hlen] at hv ho
      clear h1 h2 h3
      go_roundw
      case rel => exact ⟨j + 1, g', cap', ks ++ [x], by omega, hlen, by go_num, hv, ho, HC3.out, hgn⟩
      case measure => simp [intOf]; omega
    · have t1 : ¬ (j : Int) < (mm : Int) := by omega
      go_wp2
      go_ret
      exact ⟨g, cap, ks, by rw [HL.out]; rfl, by have := HL.out; omega, by rw [HL.out]; exact HW.out, HC.out, HG.out⟩
/-- Newer than all that the call found. -/
theorem RdR.grew {α : Type} [Inhabited α] {cells : α → List Value} {k : Nat} {w w' : World} {a : Option Addr} {n g : Nat} {xs : List α} (hk : 0 < k) (hlen : ∀ q, (cells q).length = k) (h : RdR cells k w a n xs) (hg : w.grownBy w' (some g)) (hne : ∀ x, a = some x → x.block ≠ g) : RdR cells k w' a n xs :=
  ⟨h.1, fun i hi => by
    obtain ⟨b, off, ha, hc⟩ := h.2 i hi
    refine ⟨b, off, ha, fun j hj => ?_⟩
    have h1 := hc j hj
    have hl := hlen (xs.getD i default)
    rw [List.getElem?_eq_getElem (by omega)] at h1 ⊢
    exact hg.cell h1 (by have := hne _ ha; simpa using this)⟩
theorem byt_lt {w : World} {a : Option Addr} {n : Nat} {zs : List Int} (h : RdB w a n zs) (h0 : 0 < n) (x : Addr) (hx : a = some x) : x.block < w.heap.size := by
  obtain ⟨b, off, ha, hc, _⟩ := h.2 0 h0
  rw [hx] at ha
  cases ha
  exact World.block_lt_of_cell? w _ hc
set_option maxHeartbeats 1000000 in
theorem drawTransitive_any (a : Option Addr) (n c : Nat) (zs : List Int) (w : World) (hr : RdB w a n zs) (hn : n ≤ 1048576) :
    Calls Try.prog 16 #[.slice a n c] w fun e w' => ∃ (b off m cap g m2 cap2 : Nat) (ps : List PairV) (l : List Int), e = .returned (.tuple #[.slice (some ⟨b, off, none⟩) m cap, .slice (some ⟨g, 0, none⟩) m2 cap2]) ∧ m ≤ 17 ∧ m2 ≤ 5 ∧ RdR PairV.cells 2 w' (some ⟨b, off, none⟩) m ps ∧ Rd w' (some ⟨g, 0, none⟩) m2 l ∧ Below w.heap.size w w' := by
  have HR := hide hr
  clear hr
  go_enter Try.func16, Try.ntmps16
  go_wp2_with fail
  refine (l1New_any a n c zs w (unhide HR) hn (byt_lt (unhide HR))).mono ?_
  rintro e w1 ⟨rfl, hc1, hb1⟩
  have C1 := hide hc1
  have B1 := hide hb1
  have hkw : w.heap.size < w1.heap.size := by obtain ⟨_, _, _, _, h⟩ := hc1.cells; exact lt_of_block h
  clear hc1 hb1
  go_wp2_with fail
  refine (l3Pairs_any w.heap.size a n c zs w1 (unhide C1)).mono ?_
  rintro e w2 ⟨b, off, m, cap, ps, rfl, hm, hr2, hb2, hc2, hg2⟩
  have C2 := hide hc2
  have R2 := hide hr2
  have B2 : Hid (Below w.heap.size w w2) := (unhide B1).grown hg2 (Nat.le_of_lt hkw) (fun k hk => by injection hk with hk; omega)
  clear hc2 hr2 hg2 C1 B1
  go_wp2_with fail
  refine (l3List_any w.heap.size a n c zs w2 (unhide C2)).mono ?_
  rintro e w3 ⟨g, cap2, ks, rfl, hk5, ho3, hc3, hg3⟩
  have R3 := hide ((unhide R2).grew (by omega) PairV.len hg3 (fun x hx => by cases hx; show b ≠ w.heap.size; omega))
  have L3 := hide (Rd.of_owns ho3)
  have B3 : Hid (Below w.heap.size w w3) := (unhide B2).grown hg3 (unhide B2).size (fun k hk => by injection hk with hk; omega)
  clear ho3 hc3 hg3 R2 B2 C2
  go_wp2_with fail
  go_ret2
  exact ⟨b, off, m, cap, g, ks.length, cap2, ps, ks, rfl, hm, hk5, unhide R3, unhide L3, unhide B3⟩
theorem drawGroups_any (a : Option Addr) (n c : Nat) (zs : List Int) (w : World) (hr : RdB w a n zs) (hn : n ≤ 1048576) :
    Calls Try.prog 10 #[.slice a n c] w fun e w' => ∃ (b off m cap g m2 cap2 : Nat) (ps : List PairV) (l : List Int), e = .returned (.tuple #[.slice (some ⟨b, off, none⟩) m cap, .slice (some ⟨g, 0, none⟩) m2 cap2]) ∧ m ≤ 17 ∧ m2 ≤ 5 ∧ RdR PairV.cells 2 w' (some ⟨b, off, none⟩) m ps ∧ Rd w' (some ⟨g, 0, none⟩) m2 l ∧ Below w.heap.size w w' := by
  go_enter Try.func10, Try.ntmps10
  go_wp2_with fail
  refine (drawTransitive_any a n c zs w hr hn).mono ?_
  rintro e w1 ⟨b, off, m, cap, g, m2, cap2, ps, l, rfl, h1, h2, h3, h4, h5⟩
  have H3 := hide h3
  have H4 := hide h4
  have H5 := hide h5
  clear h3 h4 h5 hr
  go_wp2_with fail
  go_ret2
  exact ⟨b, off, m, cap, g, m2, cap2, ps, l, rfl, h1, h2, unhide H3, unhide H4, unhide H5⟩
set_option maxHeartbeats 1000000 in
theorem drawTableOk_any (a : Option Addr) (n c : Nat) (zs : List Int) (w : World) (hr : RdB w a n zs) (hn : n ≤ 1048576) :
    Calls Try.prog 20 #[.slice a n c] w fun e w' => ∃ (b off m cap : Nat) (ps : List PairV) (x : Int), e = .returned (.tuple #[.slice (some ⟨b, off, none⟩) m cap, .int .i64 x]) ∧ m ≤ 17 ∧ 0 ≤ x ∧ x < 6 ∧ RdR PairV.cells 2 w' (some ⟨b, off, none⟩) m ps ∧ Below w.heap.size w w' := by
  have HR := hide hr
  clear hr
  go_enter Try.func20, Try.ntmps20
  go_wp2_with fail
  refine (l1New_any a n c zs w (unhide HR) hn (byt_lt (unhide HR))).mono ?_
  rintro e w1 ⟨rfl, hc1, hb1⟩
  have C1 := hide hc1
  have B1 := hide hb1
  have hkw : w.heap.size < w1.heap.size := by obtain ⟨_, _, _, _, h⟩ := hc1.cells; exact lt_of_block h
  clear hc1 hb1
  go_wp2_with fail
  refine (l3Pairs_any w.heap.size a n c zs w1 (unhide C1)).mono ?_
  rintro e w2 ⟨b, off, m, cap, ps, rfl, hm, hr2, hb2, hc2, hg2⟩
  have C2 := hide hc2
  have R2 := hide hr2
  have B2 : Hid (Below w.heap.size w w2) := (unhide B1).grown hg2 (Nat.le_of_lt hkw) (fun k hk => by injection hk with hk; omega)
  clear hc2 hr2 hg2 C1 B1
  go_wp2_with fail
  refine (l1Below_any w.heap.size a n c zs 6 w2 (unhide C2) (by omega) (by omega)).mono ?_
  rintro e w3 ⟨x, rfl, hx0, hx1, hc3, hg3⟩
  have R3 := hide ((unhide R2).grew (by omega) PairV.len hg3 (fun x hx => by cases hx; show b ≠ w.heap.size; omega))
  have B3 : Hid (Below w.heap.size w w3) := (unhide B2).grown hg3 (unhide B2).size (fun k hk => by injection hk with hk; omega)
  clear hc3 hg3 R2 B2 C2
  go_wp2_with fail
  go_ret2
  exact ⟨b, off, m, cap, ps, x, rfl, hm, hx0, hx1, unhide R3, unhide B3⟩
set_option maxHeartbeats 1000000 in
theorem drawBeside_any (a : Option Addr) (n c : Nat) (zs : List Int) (w : World) (hr : RdB w a n zs) (hn : n ≤ 1048576) :
    Calls Try.prog 22 #[.slice a n c] w fun e w' => ∃ (b off m cap : Nat) (ps : List PairV) (x y : Int), e = .returned (.tuple #[.slice (some ⟨b, off, none⟩) m cap, .int .i64 x, .int .i64 y]) ∧ m ≤ 17 ∧ RdR PairV.cells 2 w' (some ⟨b, off, none⟩) m ps ∧ Below w.heap.size w w' := by
  have HR := hide hr
  clear hr
  go_enter Try.func22, Try.ntmps22
  go_wp2_with fail
  refine (l1New_any a n c zs w (unhide HR) hn (byt_lt (unhide HR))).mono ?_
  rintro e w1 ⟨rfl, hc1, hb1⟩
  have C1 := hide hc1
  have B1 := hide hb1
  have hkw : w.heap.size < w1.heap.size := by obtain ⟨_, _, _, _, h⟩ := hc1.cells; exact lt_of_block h
  clear hc1 hb1
  go_wp2_with fail
  refine (l3Pairs_any w.heap.size a n c zs w1 (unhide C1)).mono ?_
  rintro e w2 ⟨b, off, m, cap, ps, rfl, hm, hr2, hb2, hc2, hg2⟩
  have C2 := hide hc2
  have R2 := hide hr2
  have B2 : Hid (Below w.heap.size w w2) := (unhide B1).grown hg2 (Nat.le_of_lt hkw) (fun k hk => by injection hk with hk; omega)
  clear hc2 hr2 hg2 C1 B1
  go_wp2_with fail
  refine (l1Below_any w.heap.size a n c zs 4 w2 (unhide C2) (by omega) (by omega)).mono ?_
  rintro e w3 ⟨x, rfl, hx0, hx1, hc3, hg3⟩
  have C3 := hide hc3
  have R3 := hide ((unhide R2).grew (by omega) PairV.len hg3 (fun x hx => by cases hx; show b ≠ w.heap.size; omega))
  have B3 : Hid (Below w.heap.size w w3) := (unhide B2).grown hg3 (unhide B2).size (fun k hk => by injection hk with hk; omega)
  clear hc3 hg3 R2 B2 C2
  go_wp2_with fail
  refine (l1Below_any w.heap.size a n c zs 5 w3 (unhide C3) (by omega) (by omega)).mono ?_
  rintro e w4 ⟨y, rfl, hy0, hy1, hc4, hg4⟩
  have R4 := hide ((unhide R3).grew (by omega) PairV.len hg4 (fun x hx => by cases hx; show b ≠ w.heap.size; omega))
  have B4 : Hid (Below w.heap.size w w4) := (unhide B3).grown hg4 (unhide B3).size (fun k hk => by injection hk with hk; omega)
  clear hc4 hg4 R3 B3 C3
  go_wp2_with fail
  refine bodyPost_ret (v := .tuple #[.slice (some ⟨b, off, none⟩) m cap, .int .i64 x, .int .i64 (y - 1)]) (by simp [results, Try.results22, go_sem]) rfl ?_
  exact ⟨b, off, m, cap, ps, x, y - 1, rfl, hm, unhide R4, unhide B4⟩
end Go.Proofs.Ytmjohalblppgiaa
