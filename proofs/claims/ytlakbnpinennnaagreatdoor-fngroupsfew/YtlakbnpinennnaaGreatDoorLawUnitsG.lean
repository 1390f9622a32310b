/- laws.FnUnits: each unit is in one group; the groups' loads together are all. -/
import Derived.Test.YtlakbnpinennnaaGreatDoorFewPlain
import Derived.Test.YtlakbnpinennnaaGreatDoorVolOf
import Derived.Test.YtlakbnpinennnaaGreatDoorLawUnitsOf
import Derived.Test.YtlakbnpinennnaaGreatDoorDrawClass
import Derived.Test.YtlakbnpinennnaaGreatDoorPkE
import Derived.BigQuiet
import Derived.Laws.AppendOwnNone
namespace Go.Proofs.YtlakbnpinennnaaGreatDoor
open Go.RowKit
set_option linter.unusedVariables false
set_option linter.unusedSimpArgs false

set_option maxHeartbeats 1000000 in
theorem sameInts_same (a : Option Addr) (n c : Nat) (a' : Option Addr) (c' : Nat) (zs : List Int) (w : World) (hr : Rd w a n zs) (hr' : Rd w a' n zs) (hn : n ≤ 1048576) :
    Calls Tryz.prog 12 #[.slice a n c, .slice a' n c'] w fun e w' => e = .returned (.bool true) ∧ Below w.heap.size w w' := by
  have hne : ((n : Int) != (n : Int)) = false := by simp
  go_enter Tryz.func12, Tryz.ntmps12
  go_wp2
  go_loopw [5] (fun i wr => ∃ k : Nat, k ≤ n ∧ i = .int .i64 k ∧ Below w.heap.size w wr) (fun i _ => n - (intOf i).toNat)
  case atStart => exact ⟨0, Nat.zero_le _, rfl, Below.refl _ _⟩
  case round =>
    obtain ⟨k, hk, rfl, hbel⟩ := hrel
    by_cases hlt : k < n
    · obtain ⟨b, off, rfl, hc⟩ := hr.2 k hlt
      obtain ⟨b', off', rfl, hc'⟩ := hr'.2 k hlt
      have hc1 : wr.cell? ⟨b, off + k, none⟩ = some (.int .i64 (zs.getD k 0)) := (hbel.cell (World.block_lt_of_cell? w _ hc)).trans hc
      have hc2 : wr.cell? ⟨b', off' + k, none⟩ = some (.int .i64 (zs.getD k 0)) := (hbel.cell (World.block_lt_of_cell? w _ hc')).trans hc'
      clear hc hc'
      go_wp2
      go_quiet (fail)
      go_wp2
      go_roundw
      case rel => exact ⟨k + 1, by omega, by go_num, below_drewN hbel _⟩
      case measure => simp [intOf]; omega
    · go_wp2
      go_ret
      exact ⟨rfl, hbel⟩
theorem count_step (zs : List Int) (x : Int) (k : Nat) (h : k < zs.length) : (zs.take (k + 1)).count x = (zs.take k).count x + (if zs.getD k 0 == x then 1 else 0) := by
  rw [List.take_succ_eq_append_getElem h, List.count_append, List.count_cons, List.count_nil]
  simp [List.getD_eq_getElem?_getD, h]
set_option maxHeartbeats 1000000 in
theorem timesC_any (a : Option Addr) (n c : Nat) (zs : List Int) (x : Int) (w : World) (hr : Rd w a n zs) (hn : n ≤ 1048600) :
    Calls Tryz.prog 18 #[.slice a n c, .int .i64 x] w fun e w' => e = .returned (.int .i64 (zs.count x : Nat)) ∧ w' = w := by
  go_enter Tryz.func18, Tryz.ntmps18
  go_wp2
  go_loop [5, 6] (fun t i => ∃ k m : Nat, k ≤ n ∧ i = .int .i64 k ∧ t = .int .i64 (m : Int) ∧ m ≤ k ∧ m = (zs.take k).count x) (fun _ i => n - (intOf i).toNat)
  case atStart => exact ⟨0, 0, Nat.zero_le _, rfl, rfl, Nat.le_refl _, rfl⟩
  case round =>
    obtain ⟨k, m, hk, rfl, rfl, hmk, hm⟩ := hrel
    have HM := hide hm
    clear hm
    by_cases hlt : k < n
    · obtain ⟨b, off, rfl, hc⟩ := hr.2 k hlt
      have HS := hide (count_step zs x k (by rw [hr.1]; exact hlt))
      generalize zs.getD k 0 = q at hc HS
      clear hr
      cases e1 : (q == x)
      · go_wp2
        go_round
        case rel => exact ⟨k + 1, m, by omega, by go_num, rfl, by omega, by rw [unhide HS, e1, ← unhide HM]; rfl⟩
        case measure => simp [intOf]; omega
      · go_wp2
        go_round
        case rel => exact ⟨k + 1, m + 1, by omega, by go_num, by go_num, by omega, by rw [unhide HS, e1, ← unhide HM]; rfl⟩
        case measure => simp [intOf]; omega
    · have HE : Hid (m = zs.count x) := by rw [unhide HM, List.take_of_length_le (by rw [hr.1]; omega)]; rfl
      go_wp2
      go_ret
      exact ⟨ret_num (by rw [unhide HE]), rfl⟩
theorem drawUnits_any (a : Option Addr) (n c : Nat) (zs : List Int) (w : World) (hr : RdB w a n zs) (hn : n ≤ 1048576) :
    Calls Tryz.prog 10 #[.slice a n c] w fun e w' => ∃ r h, e = .returned (reqVal r h) ∧ Loose r ∧ RdReq w' r h ∧ From w.heap.size h ∧ Below w.heap.size w w' := by
  have HR := hide hr
  clear hr
  obtain ⟨G, hG⟩ : ∃ G, G = w.heap.size := ⟨_, rfl⟩
  have HG := hide hG
  go_enter Tryz.func10, Tryz.ntmps10
  go_wp2_with fail
  refine (drawClass_any a n c zs _ (by exact (unhide HR).mono ((Below.refl _ _).alloc (Nat.le_refl _) _)) hn).mono ?_
  rintro e w3 ⟨r, h, rfl, hl, hrd, hfr, hb3⟩
  have hsz : (w.alloc (.cells #[.int .i64 0, .int .i64 0, .int .i64 0, .int .i64 0, .int .i64 0, .int .i64 0, .slice none 0 0, .slice none 0 0, .int .i64 0, .slice none 0 0] 30)).heap.size = G + 1 := by rw [hG]; simp
  have hf2 : From (G + 1) h := by rw [hsz] at hfr; exact hfr
  have z2 : G < G + 1 := Nat.lt_succ_self _
  have hgw : w.heap.size ≤ G := Nat.le_of_eq hG.symm
  have HL := hide hl
  have RR : Blk w3 G [.int .i64 0, .int .i64 0, .int .i64 0, .int .i64 0, .int .i64 0, .int .i64 0, .slice none 0 0, .slice none 0 0, .int .i64 0, .slice none 0 0] := by rw [hG]; exact Blk.below hb3 (by simp) (Blk.allocAt zeroReq rfl)
  have HB3 : Hid (Below w.heap.size w w3) := ((Below.refl w.heap.size w).alloc (Nat.le_refl _) _).trans (hb3.mono (by simp))
  have HD : Hid (RdReq (writeCells w3 G 0 (reqCells r h)) r h) := rdq_write (far_lst hf2 z2) _ _ _ hrd
  have HBf : Hid (Below w.heap.size w (writeCells w3 G 0 (reqCells r h))) := below_write hgw _ _ _ _ (unhide HB3)
  have HF : Hid (From w.heap.size h) := ⟨fun x hx => by have := hf2.fp x hx; omega, fun x hx => by have := hf2.ft x hx; omega, fun x hx => by have := hf2.fi x hx; omega⟩
  have q0 : w3.cell? ⟨G, 0, none⟩ = some (.int .i64 0) := (RR 0 (by simp)).1
  have t0 : w3.frozen? ⟨G, 0, none⟩ = false := (RR 0 (by simp)).2
  have q1 : w3.cell? ⟨G, 1, none⟩ = some (.int .i64 0) := (RR 1 (by simp)).1
  have t1 : w3.frozen? ⟨G, 1, none⟩ = false := (RR 1 (by simp)).2
  have q2 : w3.cell? ⟨G, 2, none⟩ = some (.int .i64 0) := (RR 2 (by simp)).1
  have t2 : w3.frozen? ⟨G, 2, none⟩ = false := (RR 2 (by simp)).2
  have q3 : w3.cell? ⟨G, 3, none⟩ = some (.int .i64 0) := (RR 3 (by simp)).1
  have t3 : w3.frozen? ⟨G, 3, none⟩ = false := (RR 3 (by simp)).2
  have q4 : w3.cell? ⟨G, 4, none⟩ = some (.int .i64 0) := (RR 4 (by simp)).1
  have t4 : w3.frozen? ⟨G, 4, none⟩ = false := (RR 4 (by simp)).2
  have q5 : w3.cell? ⟨G, 5, none⟩ = some (.int .i64 0) := (RR 5 (by simp)).1
  have t5 : w3.frozen? ⟨G, 5, none⟩ = false := (RR 5 (by simp)).2
  have q6 : w3.cell? ⟨G, 6, none⟩ = some (.slice none 0 0) := (RR 6 (by simp)).1
  have t6 : w3.frozen? ⟨G, 6, none⟩ = false := (RR 6 (by simp)).2
  have q7 : w3.cell? ⟨G, 7, none⟩ = some (.slice none 0 0) := (RR 7 (by simp)).1
  have t7 : w3.frozen? ⟨G, 7, none⟩ = false := (RR 7 (by simp)).2
  have q8 : w3.cell? ⟨G, 8, none⟩ = some (.int .i64 0) := (RR 8 (by simp)).1
  have t8 : w3.frozen? ⟨G, 8, none⟩ = false := (RR 8 (by simp)).2
  have q9 : w3.cell? ⟨G, 9, none⟩ = some (.slice none 0 0) := (RR 9 (by simp)).1
  have t9 : w3.frozen? ⟨G, 9, none⟩ = false := (RR 9 (by simp)).2
  rw [← hG]
  clear hl hrd hf2 hfr hb3 RR HB3 hsz hG
  simp only [reqVal]
  go_wp2_with fail
  refine bodyPost_ret (v := reqVal r h) (by simp [results, Tryz.results10, go_sem, reqVal, q0, q1, q2, q3, q4, q5, q6, q7, q8, q9]) rfl ?_
  exact ⟨r, h, rfl, unhide HL, unhide HD, unhide HF, unhide HBf⟩
theorem drawGroupsOf_any (a : Option Addr) (n c : Nat) (zs : List Int) (w : World) (hr : RdB w a n zs) (hn : n ≤ 1048576) :
    Calls Tryz.prog 20 #[.slice a n c] w fun e w' => ∃ r h, e = .returned (reqVal r h) ∧ Loose r ∧ RdReq w' r h ∧ From w.heap.size h ∧ Below w.heap.size w w' := by
  have HR := hide hr
  clear hr
  obtain ⟨G, hG⟩ : ∃ G, G = w.heap.size := ⟨_, rfl⟩
  have HG := hide hG
  go_enter Tryz.func20, Tryz.ntmps20
  go_wp2_with fail
  refine (drawClass_any a n c zs _ (by exact (unhide HR).mono ((Below.refl _ _).alloc (Nat.le_refl _) _)) hn).mono ?_
  rintro e w3 ⟨r, h, rfl, hl, hrd, hfr, hb3⟩
  have hsz : (w.alloc (.cells #[.int .i64 0, .int .i64 0, .int .i64 0, .int .i64 0, .int .i64 0, .int .i64 0, .slice none 0 0, .slice none 0 0, .int .i64 0, .slice none 0 0] 30)).heap.size = G + 1 := by rw [hG]; simp
  have hf2 : From (G + 1) h := by rw [hsz] at hfr; exact hfr
  have z2 : G < G + 1 := Nat.lt_succ_self _
  have hgw : w.heap.size ≤ G := Nat.le_of_eq hG.symm
  have HL := hide hl
  have RR : Blk w3 G [.int .i64 0, .int .i64 0, .int .i64 0, .int .i64 0, .int .i64 0, .int .i64 0, .slice none 0 0, .slice none 0 0, .int .i64 0, .slice none 0 0] := by rw [hG]; exact Blk.below hb3 (by simp) (Blk.allocAt zeroReq rfl)
  have HB3 : Hid (Below w.heap.size w w3) := ((Below.refl w.heap.size w).alloc (Nat.le_refl _) _).trans (hb3.mono (by simp))
  have HD : Hid (RdReq (writeCells w3 G 0 (reqCells r h)) r h) := rdq_write (far_lst hf2 z2) _ _ _ hrd
  have HBf : Hid (Below w.heap.size w (writeCells w3 G 0 (reqCells r h))) := below_write hgw _ _ _ _ (unhide HB3)
  have HF : Hid (From w.heap.size h) := ⟨fun x hx => by have := hf2.fp x hx; omega, fun x hx => by have := hf2.ft x hx; omega, fun x hx => by have := hf2.fi x hx; omega⟩
  have q0 : w3.cell? ⟨G, 0, none⟩ = some (.int .i64 0) := (RR 0 (by simp)).1
  have t0 : w3.frozen? ⟨G, 0, none⟩ = false := (RR 0 (by simp)).2
  have q1 : w3.cell? ⟨G, 1, none⟩ = some (.int .i64 0) := (RR 1 (by simp)).1
  have t1 : w3.frozen? ⟨G, 1, none⟩ = false := (RR 1 (by simp)).2
  have q2 : w3.cell? ⟨G, 2, none⟩ = some (.int .i64 0) := (RR 2 (by simp)).1
  have t2 : w3.frozen? ⟨G, 2, none⟩ = false := (RR 2 (by simp)).2
  have q3 : w3.cell? ⟨G, 3, none⟩ = some (.int .i64 0) := (RR 3 (by simp)).1
  have t3 : w3.frozen? ⟨G, 3, none⟩ = false := (RR 3 (by simp)).2
  have q4 : w3.cell? ⟨G, 4, none⟩ = some (.int .i64 0) := (RR 4 (by simp)).1
  have t4 : w3.frozen? ⟨G, 4, none⟩ = false := (RR 4 (by simp)).2
  have q5 : w3.cell? ⟨G, 5, none⟩ = some (.int .i64 0) := (RR 5 (by simp)).1
  have t5 : w3.frozen? ⟨G, 5, none⟩ = false := (RR 5 (by simp)).2
  have q6 : w3.cell? ⟨G, 6, none⟩ = some (.slice none 0 0) := (RR 6 (by simp)).1
  have t6 : w3.frozen? ⟨G, 6, none⟩ = false := (RR 6 (by simp)).2
  have q7 : w3.cell? ⟨G, 7, none⟩ = some (.slice none 0 0) := (RR 7 (by simp)).1
  have t7 : w3.frozen? ⟨G, 7, none⟩ = false := (RR 7 (by simp)).2
  have q8 : w3.cell? ⟨G, 8, none⟩ = some (.int .i64 0) := (RR 8 (by simp)).1
  have t8 : w3.frozen? ⟨G, 8, none⟩ = false := (RR 8 (by simp)).2
  have q9 : w3.cell? ⟨G, 9, none⟩ = some (.slice none 0 0) := (RR 9 (by simp)).1
  have t9 : w3.frozen? ⟨G, 9, none⟩ = false := (RR 9 (by simp)).2
  rw [← hG]
  clear hl hrd hf2 hfr hb3 RR HB3 hsz hG
  simp only [reqVal]
  go_wp2_with fail
  refine bodyPost_ret (v := reqVal r h) (by simp [results, Tryz.results20, go_sem, reqVal, q0, q1, q2, q3, q4, q5, q6, q7, q8, q9]) rfl ?_
  exact ⟨r, h, rfl, unhide HL, unhide HD, unhide HF, unhide HBf⟩
theorem news_of_rd {w : World} {a : Option Addr} {n : Nat} {L : List Int} (h : Rd w a n L) : ∀ ad, a = some ad → ∀ j u, (ci L)[j]? = some u → w.cell? (ad.add j) = some u := by
  intro ad ha j u hu
  have hj : j < L.length := by
    have := (List.getElem?_eq_some_iff.1 hu).1
    simpa [ci] using this
  obtain ⟨b, off, hb, hc⟩ := h.2 j (by rw [← h.1]; exact hj)
  rw [hb] at ha
  injection ha with ha
  subst ha
  rw [ci_at L j hj] at hu
  injection hu with hu
  subst hu
  unfold Addr.add
  split
  · next e => subst e; exact hc
  · exact hc
theorem append_opt {P : Program} (w : World) {ops : Array Oper} {rest : List Oper} {o : Oper} {a : Act} {Q : Exit → Act → World → Prop} (hgd : o.guard = none) (s x : Operand) (t : TypeId)
    (ho : o.op = .call { callee := .builtin .append, args := #[s, x], argTypes := #[t, t] })
    (base : Nat) (e : TypeId) (i : TypeInfo) (z : Value) (size bytes : Nat) (ht : P.underlying t = some (.slice e)) (hi : P.info? e = some i) (hz : i.zero = some z)
    (hsize : i.size = size) (hby : i.bytes = bytes) (hzs : z.cells.size = size) (hsz : 0 < size)
    (v : Value) (n : Nat) (xs : List Value) (hs : a.eval s = v) (hown : w.ownsRow base e size v n xs)
    (ao : Option Addr) (m c : Nat) (news : List Value) (hx : a.eval x = .slice ao m c) (hnone : ao = none → m = 0 ∧ c = 0) (hl : news.length = m * size) (hnews : ∀ ad, ao = some ad → ∀ j u, news[j]? = some u → w.cell? (ad.add j) = some u) (h1 : ∀ u ∈ news, u.oneCell' = true)
    (h63 : n + m ≤ maxLen) (hbytes : (n + m) * bytes ≤ 140737488355328) (hbase : base ≤ w.heap.size) (hv : ¬ v = .slice none 0 0)
    (h : ∀ g cap w', w'.ownsRow base e size (.slice (some ⟨g, 0, none⟩) (n + m) cap) (n + m) (xs ++ news) → w.grownBy w' v.ownBlock → wpList P ops Q rest (a.put o.dst (.slice (some ⟨g, 0, none⟩) (n + m) cap)) w') : wpList P ops Q (o :: rest) a w := by
  cases ao with
  | none =>
    obtain ⟨rfl, rfl⟩ := hnone rfl
    obtain rfl : news = [] := List.eq_nil_of_length_eq_zero (by simpa using hl)
    obtain ⟨g, cap, rfl⟩ := own_shape hown hv
    refine wpList_append_own_none hgd s x t ho base e i size ht hi _ n xs hs hown hx ?_
    have := h g cap w (by simpa using hown) (World.grownBy.refl _ _)
    simpa using this
  | some ad =>
    refine wpList_append_own w hgd s x t ho base e i z size bytes ht hi hz hsize hby hzs hsz v n xs hs hown ad m c news hx hl (hnews ad rfl) h1 h63 hbytes hbase fun v' w' h2 h3 h4 => ?_
    obtain ⟨g, cap, rfl⟩ := own_shape h2 (fun e => hv (h4.1 e).1)
    exact h g cap w' h2 h3
theorem ci_one (L : List Int) : ∀ u ∈ ci L, u.oneCell' = true := by
  intro u hu
  obtain ⟨x, _, rfl⟩ := List.mem_map.1 hu
  rfl
set_option maxRecDepth 100000 in
set_option maxHeartbeats 8000000 in
theorem law_unitsG (a : Option Addr) (n c : Nat) (zs : List Int) (w : World) (hr : RdB w a n zs) (hm : n ≤ maxLen) (hg : ErrT w) :
    Calls Tryz.prog 3 #[.slice a n c] w fun e w' => e = .returned (.bool true) ∧ Below w.heap.size w w' := by
  unfold maxLen at hm
  by_cases hn : n ≤ 1048576
  case neg =>
    have hgt : (1048576 : Int) < (n : Int) := by omega
    go_enter Tryz.func3, Tryz.ntmps3
    go_wp2_with (first | (go_at_call 9; go_in) | fail)
    go_ret
    exact ⟨rfl, Below.refl _ _⟩
  have hgt : ¬ (1048576 : Int) < (n : Int) := by omega
  obtain ⟨i0, hi, hz0, hz1, hz2⟩ := info_parts Tryz.infoInt
  have HR := hide hr
  clear hr
  go_enter Tryz.func3, Tryz.ntmps3
  go_wp2_with (first | (go_at_call 9; go_in) | fail)
  refine (drawUnits_any a n c zs w (unhide HR) hn).mono ?_
  rintro e w1 ⟨r, h, rfl, hlo, hq1, hf1, hb1⟩
  have hsm : r.small := hlo.small
  have hN12 : (unitsR r).length ≤ 12 := unitsR_len r
  clear hlo HR
  have Hw1 : Hid (Below w.heap.size w w1) := hb1
  have Qrw1 : Hid (RdReq w1 r h) := hq1
  have Qgw1 : Hid (ErrT w1) := hg.later hb1
  clear hb1 hq1 hf1
  unfold reqVal
  go_wp2_with fail
  have hb : Below w1.heap.size w1 (w1.alloc (.cells #[.int .i64 r.way, .int .i64 r.pal.wd, .int .i64 r.pal.dp, .int .i64 r.pal.ht, .int .i64 r.pal.gram, .int .i64 r.classes, .slice h.ap r.pairs.length h.cp, .slice h.at' r.types.length h.ct, .int .i64 r.master, .slice h.ai r.items.length h.ci] 30)) := (Below.refl _ _).alloc (Nat.le_refl _) _
  have Kxw2 : Hid (Blk (w1.alloc (.cells #[.int .i64 r.way, .int .i64 r.pal.wd, .int .i64 r.pal.dp, .int .i64 r.pal.ht, .int .i64 r.pal.gram, .int .i64 r.classes, .slice h.ap r.pairs.length h.cp, .slice h.at' r.types.length h.ct, .int .i64 r.master, .slice h.ai r.items.length h.ci] 30)) w1.heap.size [.int .i64 r.way, .int .i64 r.pal.wd, .int .i64 r.pal.dp, .int .i64 r.pal.ht, .int .i64 r.pal.gram, .int .i64 r.classes, .slice h.ap r.pairs.length h.cp, .slice h.at' r.types.length h.ct, .int .i64 r.master, .slice h.ai r.items.length h.ci]) := Blk.allocAt [.int .i64 r.way, .int .i64 r.pal.wd, .int .i64 r.pal.dp, .int .i64 r.pal.ht, .int .i64 r.pal.gram, .int .i64 r.classes, .slice h.ap r.pairs.length h.cp, .slice h.at' r.types.length h.ct, .int .i64 r.master, .slice h.ai r.items.length h.ci] rfl
  have zxw2 : w1.heap.size < (w1.alloc (.cells #[.int .i64 r.way, .int .i64 r.pal.wd, .int .i64 r.pal.dp, .int .i64 r.pal.ht, .int .i64 r.pal.gram, .int .i64 r.classes, .slice h.ap r.pairs.length h.cp, .slice h.at' r.types.length h.ct, .int .i64 r.master, .slice h.ai r.items.length h.ci] 30)).heap.size := by simp
  generalize (w1.alloc (.cells #[.int .i64 r.way, .int .i64 r.pal.wd, .int .i64 r.pal.dp, .int .i64 r.pal.ht, .int .i64 r.pal.gram, .int .i64 r.classes, .slice h.ap r.pairs.length h.cp, .slice h.at' r.types.length h.ct, .int .i64 r.master, .slice h.ai r.items.length h.ci] 30)) = w2 at *
  have Hw2 : Hid (Below w.heap.size w w2) := (unhide Hw1).trans (hb.mono (unhide Hw1).size)
  have Qrw2 : Hid (RdReq w2 r h) := (unhide Qrw1).mono hb
  have Qgw2 : Hid (ErrT w2) := (unhide Qgw1).later hb
  clear Hw1 Qrw1 Qgw1
  clear hb
  refine (units_any r h _ (unhide Qrw2) hsm (unhide Qgw2)).mono ?_
  rintro e w3 ⟨g1, cap1, rfl, ho1, hbw3⟩
  have Hw3 : Hid (Below w.heap.size w w3) := (unhide Hw2).trans (hbw3.mono (unhide Hw2).size)
  have Kxw3 := hide (Blk.below hbw3 zxw2 (unhide Kxw2))
  have zxw3 : w1.heap.size < w3.heap.size := Nat.lt_of_lt_of_le zxw2 hbw3.size
  have Qrw3 : Hid (RdReq w3 r h) := (unhide Qrw2).mono hbw3
  have Qgw3 : Hid (ErrT w3) := (unhide Qgw2).later hbw3
  clear Hw2 Kxw2 zxw2 Qrw2 Qgw2
  clear hbw3
  have Quw3 : Hid (Rd w3 (some ⟨g1, 0, none⟩) (unitsR r).length (unitsR r)) := Rd.of_owns ho1
  clear ho1
  have xw3_0 : w3.cell? ⟨w1.heap.size, 0, none⟩ = some (.int .i64 r.way) := ((unhide Kxw3) 0 (by simp)).1
  have xw3_1 : w3.cell? ⟨w1.heap.size, 1, none⟩ = some (.int .i64 r.pal.wd) := ((unhide Kxw3) 1 (by simp)).1
  have xw3_2 : w3.cell? ⟨w1.heap.size, 2, none⟩ = some (.int .i64 r.pal.dp) := ((unhide Kxw3) 2 (by simp)).1
  have xw3_3 : w3.cell? ⟨w1.heap.size, 3, none⟩ = some (.int .i64 r.pal.ht) := ((unhide Kxw3) 3 (by simp)).1
  have xw3_4 : w3.cell? ⟨w1.heap.size, 4, none⟩ = some (.int .i64 r.pal.gram) := ((unhide Kxw3) 4 (by simp)).1
  have xw3_5 : w3.cell? ⟨w1.heap.size, 5, none⟩ = some (.int .i64 r.classes) := ((unhide Kxw3) 5 (by simp)).1
  have xw3_6 : w3.cell? ⟨w1.heap.size, 6, none⟩ = some (.slice h.ap r.pairs.length h.cp) := ((unhide Kxw3) 6 (by simp)).1
  have xw3_7 : w3.cell? ⟨w1.heap.size, 7, none⟩ = some (.slice h.at' r.types.length h.ct) := ((unhide Kxw3) 7 (by simp)).1
  have xw3_8 : w3.cell? ⟨w1.heap.size, 8, none⟩ = some (.int .i64 r.master) := ((unhide Kxw3) 8 (by simp)).1
  have xw3_9 : w3.cell? ⟨w1.heap.size, 9, none⟩ = some (.slice h.ai r.items.length h.ci) := ((unhide Kxw3) 9 (by simp)).1
  go_wp2_with fail
  refine (specUnits_any r h _ (unhide Qrw3) hsm).mono ?_
  rintro e w4 ⟨g2, cap2, rfl, ho2, hbw4⟩
  clear xw3_0 xw3_1 xw3_2 xw3_3 xw3_4 xw3_5 xw3_6 xw3_7 xw3_8 xw3_9
  have Hw4 : Hid (Below w.heap.size w w4) := (unhide Hw3).trans (hbw4.mono (unhide Hw3).size)
  have Kxw4 := hide (Blk.below hbw4 zxw3 (unhide Kxw3))
  have zxw4 : w1.heap.size < w4.heap.size := Nat.lt_of_lt_of_le zxw3 hbw4.size
  have Qrw4 : Hid (RdReq w4 r h) := (unhide Qrw3).mono hbw4
  have Qgw4 : Hid (ErrT w4) := (unhide Qgw3).later hbw4
  have Quw4 : Hid (Rd w4 (some ⟨g1, 0, none⟩) (unitsR r).length (unitsR r)) := Rd.mono (unhide Quw3) hbw4
  clear Hw3 Kxw3 zxw3 Qrw3 Qgw3 Quw3
  clear hbw4
  have Qvw4 : Hid (Rd w4 (some ⟨g2, 0, none⟩) (unitsR r).length (unitsR r)) := Rd.of_owns ho2
  clear ho2
  have xw4_0 : w4.cell? ⟨w1.heap.size, 0, none⟩ = some (.int .i64 r.way) := ((unhide Kxw4) 0 (by simp)).1
  have xw4_1 : w4.cell? ⟨w1.heap.size, 1, none⟩ = some (.int .i64 r.pal.wd) := ((unhide Kxw4) 1 (by simp)).1
  have xw4_2 : w4.cell? ⟨w1.heap.size, 2, none⟩ = some (.int .i64 r.pal.dp) := ((unhide Kxw4) 2 (by simp)).1
  have xw4_3 : w4.cell? ⟨w1.heap.size, 3, none⟩ = some (.int .i64 r.pal.ht) := ((unhide Kxw4) 3 (by simp)).1
  have xw4_4 : w4.cell? ⟨w1.heap.size, 4, none⟩ = some (.int .i64 r.pal.gram) := ((unhide Kxw4) 4 (by simp)).1
  have xw4_5 : w4.cell? ⟨w1.heap.size, 5, none⟩ = some (.int .i64 r.classes) := ((unhide Kxw4) 5 (by simp)).1
  have xw4_6 : w4.cell? ⟨w1.heap.size, 6, none⟩ = some (.slice h.ap r.pairs.length h.cp) := ((unhide Kxw4) 6 (by simp)).1
  have xw4_7 : w4.cell? ⟨w1.heap.size, 7, none⟩ = some (.slice h.at' r.types.length h.ct) := ((unhide Kxw4) 7 (by simp)).1
  have xw4_8 : w4.cell? ⟨w1.heap.size, 8, none⟩ = some (.int .i64 r.master) := ((unhide Kxw4) 8 (by simp)).1
  have xw4_9 : w4.cell? ⟨w1.heap.size, 9, none⟩ = some (.slice h.ai r.items.length h.ci) := ((unhide Kxw4) 9 (by simp)).1
  go_wp2_with fail
  refine (sameInts_same _ _ _ _ _ (unitsR r) _ (unhide Quw4) (unhide Qvw4) (by omega)).mono ?_
  rintro e w5 ⟨rfl, hbw5⟩
  clear xw4_0 xw4_1 xw4_2 xw4_3 xw4_4 xw4_5 xw4_6 xw4_7 xw4_8 xw4_9
  have Hw5 : Hid (Below w.heap.size w w5) := (unhide Hw4).trans (hbw5.mono (unhide Hw4).size)
  have Kxw5 := hide (Blk.below hbw5 zxw4 (unhide Kxw4))
  have zxw5 : w1.heap.size < w5.heap.size := Nat.lt_of_lt_of_le zxw4 hbw5.size
  have Qrw5 : Hid (RdReq w5 r h) := (unhide Qrw4).mono hbw5
  have Qgw5 : Hid (ErrT w5) := (unhide Qgw4).later hbw5
  have Quw5 : Hid (Rd w5 (some ⟨g1, 0, none⟩) (unitsR r).length (unitsR r)) := Rd.mono (unhide Quw4) hbw5
  have Qvw5 : Hid (Rd w5 (some ⟨g2, 0, none⟩) (unitsR r).length (unitsR r)) := Rd.mono (unhide Qvw4) hbw5
  clear Hw4 Kxw4 zxw4 Qrw4 Qgw4 Quw4 Qvw4
  clear hbw5
  clear Quw5
  clear Qvw5
  have xw5_0 : w5.cell? ⟨w1.heap.size, 0, none⟩ = some (.int .i64 r.way) := ((unhide Kxw5) 0 (by simp)).1
  have xw5_1 : w5.cell? ⟨w1.heap.size, 1, none⟩ = some (.int .i64 r.pal.wd) := ((unhide Kxw5) 1 (by simp)).1
  have xw5_2 : w5.cell? ⟨w1.heap.size, 2, none⟩ = some (.int .i64 r.pal.dp) := ((unhide Kxw5) 2 (by simp)).1
  have xw5_3 : w5.cell? ⟨w1.heap.size, 3, none⟩ = some (.int .i64 r.pal.ht) := ((unhide Kxw5) 3 (by simp)).1
  have xw5_4 : w5.cell? ⟨w1.heap.size, 4, none⟩ = some (.int .i64 r.pal.gram) := ((unhide Kxw5) 4 (by simp)).1
  have xw5_5 : w5.cell? ⟨w1.heap.size, 5, none⟩ = some (.int .i64 r.classes) := ((unhide Kxw5) 5 (by simp)).1
  have xw5_6 : w5.cell? ⟨w1.heap.size, 6, none⟩ = some (.slice h.ap r.pairs.length h.cp) := ((unhide Kxw5) 6 (by simp)).1
  have xw5_7 : w5.cell? ⟨w1.heap.size, 7, none⟩ = some (.slice h.at' r.types.length h.ct) := ((unhide Kxw5) 7 (by simp)).1
  have xw5_8 : w5.cell? ⟨w1.heap.size, 8, none⟩ = some (.int .i64 r.master) := ((unhide Kxw5) 8 (by simp)).1
  have xw5_9 : w5.cell? ⟨w1.heap.size, 9, none⟩ = some (.slice h.ai r.items.length h.ci) := ((unhide Kxw5) 9 (by simp)).1
  go_wp2_with fail
  refine (groupsOf_any r h _ (unhide Qrw5) hsm (unhide Qgw5)).mono ?_
  rintro e w6 ⟨g3, cap3, rows, rfl, ho3, hx3, hbw6⟩
  clear xw5_0 xw5_1 xw5_2 xw5_3 xw5_4 xw5_5 xw5_6 xw5_7 xw5_8 xw5_9
  have Hw6 : Hid (Below w.heap.size w w6) := (unhide Hw5).trans (hbw6.mono (unhide Hw5).size)
  have Kxw6 := hide (Blk.below hbw6 zxw5 (unhide Kxw5))
  have zxw6 : w1.heap.size < w6.heap.size := Nat.lt_of_lt_of_le zxw5 hbw6.size
  have Qrw6 : Hid (RdReq w6 r h) := (unhide Qrw5).mono hbw6
  have Qgw6 : Hid (ErrT w6) := (unhide Qgw5).later hbw6
  clear Hw5 Kxw5 zxw5 Qrw5 Qgw5
  clear hbw6
  have hl3 : rows.length = (groupsR r).length := by rw [← hx3, List.length_map]
  have hm4 : (groupsR r).length ≤ 4 := groupsR_len r
  rw [hl3]
  clear ho3 hx3 hl3
  have HVF := hide (vol_flat r)
  have HGF := hide (gram_flat r)
  have HLF := hide (len_flat r)
  have HONE := hide (fun u hu => flat_one r u hu)
  obtain ⟨m, hme⟩ : ∃ m, (groupsR r).length = m := ⟨_, rfl⟩
  rw [hme] at hm4 HVF HGF HLF HONE ⊢
  have HME := hide hme
  clear hme
  have O0 : Hid ((w6.alloc (.cells #[] 3)).ownsRow w6.heap.size 3 1 (.slice (some ⟨w6.heap.size, 0, none⟩) 0 0) 0 []) := World.ownsRow_lit (e := 3) w6 #[] 0 (Nat.le_refl _) (Nat.zero_le _) rfl
  go_wp2
  go_loopw [6, 7, 8, 9] (fun f v gm i wr => ∃ k t g cap : Nat, ∃ vv gg : Int, k ≤ m ∧ i = .int .i64 k ∧ t = (flatTo r k).length ∧ f = .slice (some ⟨g, 0, none⟩) t cap ∧ v = .int .i64 vv ∧ gm = .int .i64 gg ∧ vv = volOf (itemsR r) (flatTo r k) ∧ gg = gramOf (itemsR r) (flatTo r k) ∧ wr.ownsRow w6.heap.size 3 1 (.slice (some ⟨g, 0, none⟩) t cap) t (ci (flatTo r k)) ∧ Below w6.heap.size w6 wr) (fun _ _ _ i _ => m - (intOf i).toNat)
  case atStart => exact ⟨0, 0, w6.heap.size, 0, 0, 0, Nat.zero_le _, rfl, rfl, rfl, rfl, rfl, rfl, rfl, unhide O0, (Below.refl _ _).alloc (Nat.le_refl _) _⟩
  case round =>
    clear O0
    obtain ⟨k, t, g, cap, vv, gg, hk, rfl, ht, rfl, rfl, rfl, hvv, hgg, hown, hbel⟩ := hrel
    have hfl := flatTo_len r k
    have ht48 : t ≤ 48 := by omega
    have hvb := vol_bd48 (itemsR r) (flatTo r k) (by omega)
    have hgb := gram_bd48 r (flatTo r k) (by omega)
    rw [← hvv] at hvb
    rw [← hgg] at hgb
    obtain ⟨hv0, hv1⟩ := hvb
    obtain ⟨hg0, hg1⟩ := hgb
    have HT := hide ht
    have HV := hide hvv
    have HG := hide hgg
    have HOW := hide hown
    have HB := hide hbel
    have hgB := own_base hown
    have hsz := hbel.size
    have hglt := (hown.lt g rfl).2
    clear ht hvv hgg hown hbel hfl
    have KXx := hide (Blk.below (unhide HB) zxw6 (unhide Kxw6))
    have x0 : wr.cell? ⟨w1.heap.size, 0, none⟩ = some (.int .i64 r.way) := ((unhide KXx) 0 (by simp)).1
    have x1 : wr.cell? ⟨w1.heap.size, 1, none⟩ = some (.int .i64 r.pal.wd) := ((unhide KXx) 1 (by simp)).1
    have x2 : wr.cell? ⟨w1.heap.size, 2, none⟩ = some (.int .i64 r.pal.dp) := ((unhide KXx) 2 (by simp)).1
    have x3 : wr.cell? ⟨w1.heap.size, 3, none⟩ = some (.int .i64 r.pal.ht) := ((unhide KXx) 3 (by simp)).1
    have x4 : wr.cell? ⟨w1.heap.size, 4, none⟩ = some (.int .i64 r.pal.gram) := ((unhide KXx) 4 (by simp)).1
    have x5 : wr.cell? ⟨w1.heap.size, 5, none⟩ = some (.int .i64 r.classes) := ((unhide KXx) 5 (by simp)).1
    have x6 : wr.cell? ⟨w1.heap.size, 6, none⟩ = some (.slice h.ap r.pairs.length h.cp) := ((unhide KXx) 6 (by simp)).1
    have x7 : wr.cell? ⟨w1.heap.size, 7, none⟩ = some (.slice h.at' r.types.length h.ct) := ((unhide KXx) 7 (by simp)).1
    have x8 : wr.cell? ⟨w1.heap.size, 8, none⟩ = some (.int .i64 r.master) := ((unhide KXx) 8 (by simp)).1
    have x9 : wr.cell? ⟨w1.heap.size, 9, none⟩ = some (.slice h.ai r.items.length h.ci) := ((unhide KXx) 9 (by simp)).1
    by_cases hlk : k < m
    · go_wp2_with fail
      refine (unitsOf_opt r h (k : Int) wr ((unhide Qrw6).mono (unhide HB)) hsm ((unhide Qgw6).later (unhide HB))).mono ?_
      rintro e wu ⟨a1, cap1, rfl, hou, hbu⟩
      clear x0 x1 x2 x3 x4 x5 x6 x7 x8 x9
      have hN1 := unitsOfR_len r (k : Nat)
      have hru := hou.read
      have hnone : a1 = none → (unitsOfR r (k : Int)).length = 0 ∧ cap1 = 0 := by
        intro e
        rcases hou with ⟨_, h2, h3, _⟩ | ⟨gx, e2, _⟩
        · exact ⟨h2, h3⟩
        · rw [e] at e2; cases e2
      have HNB : Hid (∀ gx : Addr, a1 = some gx → gx.block ≠ g) := by
        intro gx e
        rcases hou with ⟨h1, _⟩ | ⟨gy, e2, ho⟩
        · rw [h1] at e; cases e
        · rw [e2] at e
          injection e with e
          subst e
          have := own_base ho
          show gy ≠ g
          omega
      have HNO := hide hnone
      have HRU := hide hru
      have HOWu := hide (own_later (unhide HOW) hbu)
      have HBu := hide ((unhide HB).trans (hbu.mono hsz))
      have hszu : w6.heap.size ≤ wu.heap.size := (unhide HBu).size
      have hnews := hide (news_of_rd hru)
      have HST1 := hide (flatTo_step r k)
      have HST2 := hide (vol_step r k)
      have HST3 := hide (gram_step r k)
      have hvb2 := vol_bd48 (itemsR r) (unitsOfR r (k : Int)) (by omega)
      have hgb2 := gram_bd48 r (unitsOfR r (k : Int)) (by omega)
      obtain ⟨us, hus⟩ : ∃ us, unitsOfR r (k : Int) = us := ⟨_, rfl⟩
      rw [hus] at hN1 HNO HRU hnews HST1 HST2 HST3 hvb2 hgb2 ⊢
      obtain ⟨N1, hN1e⟩ : ∃ N1, us.length = N1 := ⟨_, rfl⟩
      have HN1 := hide hN1e
      rw [hN1e] at hN1 HNO HRU ⊢
      obtain ⟨v1, hv1e⟩ : ∃ v1, volOf (itemsR r) us = v1 := ⟨_, rfl⟩
      obtain ⟨q1, hq1e⟩ : ∃ q1, gramOf (itemsR r) us = q1 := ⟨_, rfl⟩
      rw [hv1e] at HST2 hvb2
      rw [hq1e] at HST3 hgb2
      have HV1 := hide hv1e
      have HQ1 := hide hq1e
      obtain ⟨hb2a, hb2b⟩ := hvb2
      obtain ⟨hb3a, hb3b⟩ := hgb2
      clear hou hru hnone hbu hus hN1e hv1e hq1e HOW HB
      go_wp2_with (first
        | (at_builtin; refine append_opt _ rfl _ _ 32 rfl w6.heap.size 3 i0 (.int .i64 0) 1 8 Tryz.underlying32 hi hz0 hz1 hz2 rfl (by decide) (.slice (some ⟨g, 0, none⟩) t cap) t (ci (flatTo r k)) rfl (unhide HOWu) a1 N1 cap1 (ci us) rfl (unhide HNO) (by rw [ci_len, unhide HN1, Nat.mul_one]) (unhide hnews) (ci_one us) (by unfold maxLen; omega) (by omega) (by omega) (by simp) ?_; intro g5 cap5 v5 ho5 hg5; have HB5 := hide ((unhide HBu).grown hg5 hszu (fun b hb => by have : g = b := (by simpa [Value.ownBlock] using hb); omega)); have HRU5 := hide ((unhide HRU).grown hg5 (unhide HNB)); have HO5 := hide ho5; clear ho5 hg5; have KXz := hide (Blk.below (unhide HB5) zxw6 (unhide Kxw6)); have z0 : v5.cell? ⟨w1.heap.size, 0, none⟩ = some (.int .i64 r.way) := ((unhide KXz) 0 (by simp)).1; have z1 : v5.cell? ⟨w1.heap.size, 1, none⟩ = some (.int .i64 r.pal.wd) := ((unhide KXz) 1 (by simp)).1; have z2 : v5.cell? ⟨w1.heap.size, 2, none⟩ = some (.int .i64 r.pal.dp) := ((unhide KXz) 2 (by simp)).1; have z3 : v5.cell? ⟨w1.heap.size, 3, none⟩ = some (.int .i64 r.pal.ht) := ((unhide KXz) 3 (by simp)).1; have z4 : v5.cell? ⟨w1.heap.size, 4, none⟩ = some (.int .i64 r.pal.gram) := ((unhide KXz) 4 (by simp)).1; have z5 : v5.cell? ⟨w1.heap.size, 5, none⟩ = some (.int .i64 r.classes) := ((unhide KXz) 5 (by simp)).1; have z6 : v5.cell? ⟨w1.heap.size, 6, none⟩ = some (.slice h.ap r.pairs.length h.cp) := ((unhide KXz) 6 (by simp)).1; have z7 : v5.cell? ⟨w1.heap.size, 7, none⟩ = some (.slice h.at' r.types.length h.ct) := ((unhide KXz) 7 (by simp)).1; have z8 : v5.cell? ⟨w1.heap.size, 8, none⟩ = some (.int .i64 r.master) := ((unhide KXz) 8 (by simp)).1; have z9 : v5.cell? ⟨w1.heap.size, 9, none⟩ = some (.slice h.ai r.items.length h.ci) := ((unhide KXz) 9 (by simp)).1)
        | fail)
      refine (volumeOf_any r h a1 N1 cap1 us v5 ((unhide Qrw6).mono (unhide HB5)) hsm ((unhide Qgw6).later (unhide HB5)) (unhide HRU5) (by omega)).mono ?_
      rintro e v6 ⟨rfl, hb6⟩
      clear z0 z1 z2 z3 z4 z5 z6 z7 z8 z9
      have HB6 := hide ((unhide HB5).trans (hb6.mono (unhide HB5).size))
      have HRU6 := hide ((unhide HRU5).mono hb6)
      have HO6 := hide (own_later (unhide HO5) hb6)
      rw [unhide HV1]
      clear hb6 HB5 HRU5 HO5 hnews
      have KXs := hide (Blk.below (unhide HB6) zxw6 (unhide Kxw6))
      have s0 : v6.cell? ⟨w1.heap.size, 0, none⟩ = some (.int .i64 r.way) := ((unhide KXs) 0 (by simp)).1
      have s1 : v6.cell? ⟨w1.heap.size, 1, none⟩ = some (.int .i64 r.pal.wd) := ((unhide KXs) 1 (by simp)).1
      have s2 : v6.cell? ⟨w1.heap.size, 2, none⟩ = some (.int .i64 r.pal.dp) := ((unhide KXs) 2 (by simp)).1
      have s3 : v6.cell? ⟨w1.heap.size, 3, none⟩ = some (.int .i64 r.pal.ht) := ((unhide KXs) 3 (by simp)).1
      have s4 : v6.cell? ⟨w1.heap.size, 4, none⟩ = some (.int .i64 r.pal.gram) := ((unhide KXs) 4 (by simp)).1
      have s5 : v6.cell? ⟨w1.heap.size, 5, none⟩ = some (.int .i64 r.classes) := ((unhide KXs) 5 (by simp)).1
      have s6 : v6.cell? ⟨w1.heap.size, 6, none⟩ = some (.slice h.ap r.pairs.length h.cp) := ((unhide KXs) 6 (by simp)).1
      have s7 : v6.cell? ⟨w1.heap.size, 7, none⟩ = some (.slice h.at' r.types.length h.ct) := ((unhide KXs) 7 (by simp)).1
      have s8 : v6.cell? ⟨w1.heap.size, 8, none⟩ = some (.int .i64 r.master) := ((unhide KXs) 8 (by simp)).1
      have s9 : v6.cell? ⟨w1.heap.size, 9, none⟩ = some (.slice h.ai r.items.length h.ci) := ((unhide KXs) 9 (by simp)).1
      go_wp2_with fail
      refine (gramOf_any r h a1 N1 cap1 us v6 ((unhide Qrw6).mono (unhide HB6)) hsm ((unhide Qgw6).later (unhide HB6)) (unhide HRU6) (by omega)).mono ?_
      rintro e v7 ⟨rfl, hb7⟩
      clear s0 s1 s2 s3 s4 s5 s6 s7 s8 s9
      have HB7 := hide ((unhide HB6).trans (hb7.mono (unhide HB6).size))
      have HO7 : Hid (v7.ownsRow w6.heap.size 3 1 (.slice (some ⟨g5, 0, none⟩) (t + N1) cap5) (t + N1) (ci (flatTo r (k + 1)))) := by
        have := own_later (unhide HO6) hb7
        rw [unhide HST1]
        simpa [ci, Hid] using this
      rw [unhide HQ1]
      clear hb7 HB6 HRU6 HO6
      go_wp2
      go_roundw
      case rel => exact ⟨k + 1, t + N1, g5, cap5, _, _, by omega, by go_num, by rw [unhide HST1, List.length_append, ← unhide HT, unhide HN1], by go_num, rfl, rfl, by rw [unhide HST2, ← unhide HV], by rw [unhide HST3, ← unhide HG], unhide HO7, unhide HB7⟩
      case measure => simp [intOf]; omega
    · have hkm : k = m := by omega
      rename World => wo
      have HTN : t = (unitsR r).length := by rw [unhide HT, hkm]; exact unhide HLF
      have HVN : Hid (vv = volOf (itemsR r) (rangeI (unitsR r).length)) := by rw [unhide HV, hkm]; exact unhide HVF
      have HGN : Hid (gg = gramOf (itemsR r) (rangeI (unitsR r).length)) := by rw [unhide HG, hkm]; exact unhide HGF
      have HRF : Hid (Rd wo (some ⟨g, 0, none⟩) t (flatTo r k)) := Rd.of_owns (unhide HOW)
      have HON : Hid (∀ j : Nat, j < (unitsR r).length → (flatTo r k).count (j : Int) = 1) := by intro j hj; rw [hkm]; exact (unhide HONE) j hj
      have hv48 := vol_bd48 (itemsR r) (rangeI (unitsR r).length) (by rw [rangeI_len]; omega)
      have HCL : Hid (¬ classI r = 0 → (unitsR r).length = 0) := fun h => units_none h
      have HGW : Hid (∀ j g2 cap2 : Nat, ∀ w2, World.ownsRow w2 wo.heap.size 3 1 (.slice (some ⟨g2, 0, none⟩) j cap2) j (ci (rangeI j)) → wo.heap.size ≤ g2) := fun j g2 cap2 w2 h => own_base h
      obtain ⟨N, hN⟩ : ∃ N, (unitsR r).length = N := ⟨_, rfl⟩
      rw [hN] at HTN HVN HGN HON HCL hN12 ⊢
      obtain ⟨Vv, hVv⟩ : ∃ Vv, volOf (itemsR r) (rangeI N) = Vv := ⟨_, rfl⟩
      obtain ⟨Gv, hGv⟩ : ∃ Gv, gramOf (itemsR r) (rangeI N) = Gv := ⟨_, rfl⟩
      have HVv := hide hVv
      have HGv := hide hGv
      rw [hVv] at HVN
      rw [hGv] at HGN
      have E1 := unhide HVN
      have E2 := unhide HGN
      subst E1 E2 HTN
      clear x0 x1 x2 x3 x4 x5 x6 x7 x8 x9 hv48 hVv hGv hN HVN HGN HT HV HG HOW HVF HGF HLF HONE hv0 hv1 hg0 hg1 hkm
      have O1 : Hid ((wo.alloc (.cells #[] 3)).ownsRow wo.heap.size 3 1 (.slice (some ⟨wo.heap.size, 0, none⟩) 0 0) 0 []) := World.ownsRow_lit (e := 3) wo #[] 0 (Nat.le_refl _) (Nat.zero_le _) rfl
      go_wp2
      go_loopw [11, 12] (fun ev i wr => ∃ j g2 cap2 : Nat, j ≤ t ∧ i = .int .i64 j ∧ ev = .slice (some ⟨g2, 0, none⟩) j cap2 ∧ wr.ownsRow wo.heap.size 3 1 (.slice (some ⟨g2, 0, none⟩) j cap2) j (ci (rangeI j)) ∧ Below wo.heap.size wo wr) (fun _ i _ => t - (intOf i).toNat)
      case atStart => exact ⟨0, wo.heap.size, 0, Nat.zero_le _, rfl, rfl, unhide O1, (Below.refl _ _).alloc (Nat.le_refl _) _⟩
      case round =>
        clear O1
        obtain ⟨j, g2, cap2, hj, rfl, rfl, hown2, hbq⟩ := hrel
        have hgq := own_base hown2
        have HO2 := hide hown2
        have HQ := hide hbq
        have hszq := hbq.size
        clear hown2 hbq
        by_cases hlj : j < t
        · go_wp2_with (first
            | (at_builtin; refine wpList_append_own _ rfl _ _ 32 rfl wo.heap.size 3 i0 (.int .i64 0) 1 8 Tryz.underlying32 hi hz0 hz1 hz2 rfl (by decide) (.slice (some ⟨g2, 0, none⟩) j cap2) j (ci (rangeI j)) rfl ((unhide HO2).alloc _) ⟨_, 0, none⟩ 1 1 [.int .i64 (j : Int)] rfl rfl (cell_one_new _ _ _) (by simp [Value.oneCell']) (by unfold maxLen; omega) (by omega) (by simp; omega) ?_; intro v' y5 h1 h2 h3; obtain ⟨g3, cap3x, rfl⟩ := ownsRow_succ h1; have HY := hide (((unhide HQ).alloc hszq (.cells #[.int .i64 (j : Int)] 3)).grown h2 (by simp; omega) (fun b hb => by have : g2 = b := (by simpa [Value.ownBlock] using hb); omega)); have HO3 := hide h1; clear h1 h2 h3)
            | fail)
          refine (timesC_any _ _ _ (flatTo r k) (j : Int) y5 ((unhide HRF).mono (unhide HY)) (by omega)).mono ?_
          rintro e y6 ⟨rfl, rfl⟩
          rw [(unhide HON) j hlj]
          have HO4 : Hid (y6.ownsRow wo.heap.size 3 1 (.slice (some ⟨g3, 0, none⟩) (j + 1) cap3x) (j + 1) (ci (rangeI (j + 1)))) := by
            have := unhide HO3
            rw [rangeI_step]
            simpa [ci, Hid] using this
          clear HO3
          go_wp2
          go_roundw
          case rel => exact ⟨j + 1, g3, cap3x, by omega, by go_num, rfl, unhide HO4, unhide HY⟩
          case measure => simp [intOf]; omega
        · have hjt : j = t := by omega
          have HRE : Hid (Rd wr (some ⟨g2, 0, none⟩) t (rangeI t)) := by have := unhide HO2; rw [hjt] at this; exact Rd.of_owns this
          rw [hjt]
          have HBq := hide ((unhide HB).trans ((unhide HQ).mono hsz))
          clear HO2 HQ hlj hj hgq
          have KXp := hide (Blk.below (unhide HBq) zxw6 (unhide Kxw6))
          have p0 : wr.cell? ⟨w1.heap.size, 0, none⟩ = some (.int .i64 r.way) := ((unhide KXp) 0 (by simp)).1
          have p1 : wr.cell? ⟨w1.heap.size, 1, none⟩ = some (.int .i64 r.pal.wd) := ((unhide KXp) 1 (by simp)).1
          have p2 : wr.cell? ⟨w1.heap.size, 2, none⟩ = some (.int .i64 r.pal.dp) := ((unhide KXp) 2 (by simp)).1
          have p3 : wr.cell? ⟨w1.heap.size, 3, none⟩ = some (.int .i64 r.pal.ht) := ((unhide KXp) 3 (by simp)).1
          have p4 : wr.cell? ⟨w1.heap.size, 4, none⟩ = some (.int .i64 r.pal.gram) := ((unhide KXp) 4 (by simp)).1
          have p5 : wr.cell? ⟨w1.heap.size, 5, none⟩ = some (.int .i64 r.classes) := ((unhide KXp) 5 (by simp)).1
          have p6 : wr.cell? ⟨w1.heap.size, 6, none⟩ = some (.slice h.ap r.pairs.length h.cp) := ((unhide KXp) 6 (by simp)).1
          have p7 : wr.cell? ⟨w1.heap.size, 7, none⟩ = some (.slice h.at' r.types.length h.ct) := ((unhide KXp) 7 (by simp)).1
          have p8 : wr.cell? ⟨w1.heap.size, 8, none⟩ = some (.int .i64 r.master) := ((unhide KXp) 8 (by simp)).1
          have p9 : wr.cell? ⟨w1.heap.size, 9, none⟩ = some (.slice h.ai r.items.length h.ci) := ((unhide KXp) 9 (by simp)).1
          go_wp2_with fail
          refine (volumeOf_any r h (some ⟨g2, 0, none⟩) t cap2 (rangeI t) wr ((unhide Qrw6).mono (unhide HBq)) hsm ((unhide Qgw6).later (unhide HBq)) (unhide HRE) (by omega)).mono ?_
          rintro e y1 ⟨rfl, hy1⟩
          clear p0 p1 p2 p3 p4 p5 p6 p7 p8 p9
          have HB1 := hide ((unhide HBq).trans (hy1.mono (unhide HBq).size))
          have HRE1 := hide ((unhide HRE).mono hy1)
          rw [unhide HVv]
          clear hy1 HBq HRE
          have KXq := hide (Blk.below (unhide HB1) zxw6 (unhide Kxw6))
          have q0 : y1.cell? ⟨w1.heap.size, 0, none⟩ = some (.int .i64 r.way) := ((unhide KXq) 0 (by simp)).1
          have q1 : y1.cell? ⟨w1.heap.size, 1, none⟩ = some (.int .i64 r.pal.wd) := ((unhide KXq) 1 (by simp)).1
          have q2 : y1.cell? ⟨w1.heap.size, 2, none⟩ = some (.int .i64 r.pal.dp) := ((unhide KXq) 2 (by simp)).1
          have q3 : y1.cell? ⟨w1.heap.size, 3, none⟩ = some (.int .i64 r.pal.ht) := ((unhide KXq) 3 (by simp)).1
          have q4 : y1.cell? ⟨w1.heap.size, 4, none⟩ = some (.int .i64 r.pal.gram) := ((unhide KXq) 4 (by simp)).1
          have q5 : y1.cell? ⟨w1.heap.size, 5, none⟩ = some (.int .i64 r.classes) := ((unhide KXq) 5 (by simp)).1
          have q6 : y1.cell? ⟨w1.heap.size, 6, none⟩ = some (.slice h.ap r.pairs.length h.cp) := ((unhide KXq) 6 (by simp)).1
          have q7 : y1.cell? ⟨w1.heap.size, 7, none⟩ = some (.slice h.at' r.types.length h.ct) := ((unhide KXq) 7 (by simp)).1
          have q8 : y1.cell? ⟨w1.heap.size, 8, none⟩ = some (.int .i64 r.master) := ((unhide KXq) 8 (by simp)).1
          have q9 : y1.cell? ⟨w1.heap.size, 9, none⟩ = some (.slice h.ai r.items.length h.ci) := ((unhide KXq) 9 (by simp)).1
          go_wp2_with fail
          refine (gramOf_any r h (some ⟨g2, 0, none⟩) t cap2 (rangeI t) y1 ((unhide Qrw6).mono (unhide HB1)) hsm ((unhide Qgw6).later (unhide HB1)) (unhide HRE1) (by omega)).mono ?_
          rintro e y2 ⟨rfl, hy2⟩
          clear q0 q1 q2 q3 q4 q5 q6 q7 q8 q9
          have HB2 := hide ((unhide HB1).trans (hy2.mono (unhide HB1).size))
          rw [unhide HGv]
          clear hy2 HB1 HRE1
          have KXr := hide (Blk.below (unhide HB2) zxw6 (unhide Kxw6))
          have r0 : y2.cell? ⟨w1.heap.size, 0, none⟩ = some (.int .i64 r.way) := ((unhide KXr) 0 (by simp)).1
          have r1 : y2.cell? ⟨w1.heap.size, 1, none⟩ = some (.int .i64 r.pal.wd) := ((unhide KXr) 1 (by simp)).1
          have r2 : y2.cell? ⟨w1.heap.size, 2, none⟩ = some (.int .i64 r.pal.dp) := ((unhide KXr) 2 (by simp)).1
          have r3 : y2.cell? ⟨w1.heap.size, 3, none⟩ = some (.int .i64 r.pal.ht) := ((unhide KXr) 3 (by simp)).1
          have r4 : y2.cell? ⟨w1.heap.size, 4, none⟩ = some (.int .i64 r.pal.gram) := ((unhide KXr) 4 (by simp)).1
          have r5 : y2.cell? ⟨w1.heap.size, 5, none⟩ = some (.int .i64 r.classes) := ((unhide KXr) 5 (by simp)).1
          have r6 : y2.cell? ⟨w1.heap.size, 6, none⟩ = some (.slice h.ap r.pairs.length h.cp) := ((unhide KXr) 6 (by simp)).1
          have r7 : y2.cell? ⟨w1.heap.size, 7, none⟩ = some (.slice h.at' r.types.length h.ct) := ((unhide KXr) 7 (by simp)).1
          have r8 : y2.cell? ⟨w1.heap.size, 8, none⟩ = some (.int .i64 r.master) := ((unhide KXr) 8 (by simp)).1
          have r9 : y2.cell? ⟨w1.heap.size, 9, none⟩ = some (.slice h.ai r.items.length h.ci) := ((unhide KXr) 9 (by simp)).1
          go_wp2_with fail
          refine (specClass_any r h y2 ((unhide Qrw6).mono (unhide HB2)) hsm).mono ?_
          rintro e y3 ⟨rfl, hy3⟩
          clear r0 r1 r2 r3 r4 r5 r6 r7 r8 r9
          have HB3 : Hid (Below w.heap.size w y3) := by
            have := (unhide HB2).trans (hy3.mono (unhide HB2).size)
            exact (unhide Hw6).trans (this.mono (unhide Hw6).size)
          clear hy3 HB2
          by_cases hc0 : classI r = 0
          · rw [hc0]
            go_wp2
            go_ret
            exact ⟨rfl, unhide HB3⟩
          · have hN0 := (unhide HCL) hc0
            have e1 : (classI r == 0) = false := by rw [beq_eq_false_iff_ne]; exact hc0
            have e2 : ((t : Int) == 0) = true := by rw [hN0]; rfl
            go_wp2
            go_ret
            exact ⟨rfl, unhide HB3⟩
end Go.Proofs.YtlakbnpinennnaaGreatDoor
