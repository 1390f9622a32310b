/- What the law of Shelves goes by: a count, an append of a list, the places so far, sums so far. -/
import Derived.Test.YtcblpoeeembniaaHoldPlain
import Derived.Laws.AppendOwnNone
namespace Go.Proofs.Ytcblpoeeembniaa
open Go Go.RowKit
set_option linter.unusedVariables false
set_option linter.unusedSimpArgs false
theorem count_step (zs : List Int) (x : Int) (k : Nat) (h : k < zs.length) : (zs.take (k + 1)).count x = (zs.take k).count x + (if zs.getD k 0 == x then 1 else 0) := by
 rw [List.take_succ_eq_append_getElem h, List.count_append, List.count_cons, List.count_nil]
 simp [List.getD_eq_getElem?_getD, h]
set_option maxHeartbeats 1000000 in
theorem timesC_any (a : Option Addr) (n c : Nat) (zs : List Int) (x : Int) (w : World) (hr : Rd w a n zs) (hn : n ≤ 1048600) :
 Calls Try.prog 29 #[.slice a n c, .int .i64 x] w fun e w' => e = .returned (.int .i64 (zs.count x : Nat)) ∧ w' = w := by
 go_enter Try.func29, Try.ntmps29
 go_wp2
 go_loop [5, 6] (fun t i => ∃ k m : Nat, k ≤ n ∧ i = .int .i64 k ∧ t = .int .i64 (m : Int) ∧ m ≤ k ∧ m = (zs.take k).count x) (fun _ i => n - (intOf i).toNat)
 case atStart => exact ⟨0, 0, Nat.zero_le _, rfl, rfl, Nat.le_refl _, rfl⟩
 case round =>
  obtain ⟨k, m, hk, rfl, rfl, hmk, hm⟩ := hrel
  have HM := hide hm
  clear hm
  by_cases hlt : k < n
  · obtain ⟨b, off, rfl, hc⟩ := hr.2 k hlt
    have HS := hide (count_step zs x k (by rw [hr.1]; exact hlt))
    generalize zs.getD k 0 = q at hc HS
    clear hr
    cases e1 : (q == x)
    · go_wp2
      go_round
      case rel => exact ⟨k + 1, m, by omega, by go_num, rfl, by omega, by rw [unhide HS, e1, ← unhide HM]; rfl⟩
      case measure => simp [intOf]; omega
    · go_wp2
      go_round
      case rel => exact ⟨k + 1, m + 1, by omega, by go_num, by go_num, by omega, by rw [unhide HS, e1, ← unhide HM]; rfl⟩
      case measure => simp [intOf]; omega
  · have HE : Hid (m = zs.count x) := by rw [unhide HM, List.take_of_length_le (by rw [hr.1]; omega)]; rfl
    go_wp2
    go_ret
    exact ⟨ret_num (by rw [unhide HE]), rfl⟩
def cih (L : List Int) : List Value := L.map (Value.int .i64)
theorem cih_len (L : List Int) : (cih L).length = L.length := by simp [cih]
theorem cih_at (L : List Int) (i : Nat) (h : i < L.length) : (cih L)[i]? = some (.int .i64 (L.getD i 0)) := by simp [cih, h]
theorem news_of_rd {w : World} {a : Option Addr} {n : Nat} {L : List Int} (h : Rd w a n L) : ∀ ad, a = some ad → ∀ j u, (cih L)[j]? = some u → w.cell? (ad.add j) = some u := by
 intro ad ha j u hu
 have hj : j < L.length := by
  have := (List.getElem?_eq_some_iff.1 hu).1
  simpa [cih] using this
 obtain ⟨b, off, hb, hc⟩ := h.2 j (by rw [← h.1]; exact hj)
 rw [hb] at ha
 injection ha with ha
 subst ha
 rw [cih_at L j hj] at hu
 injection hu with hu
 subst hu
 unfold Addr.add
 split
 · next e => subst e; exact hc
 · exact hc
theorem append_opt {P : Program} (w : World) {ops : Array Oper} {rest : List Oper} {o : Oper} {a : Act} {Q : Exit → Act → World → Prop} (hgd : o.guard = none) (s x : Operand) (t : TypeId)
 (ho : o.op = .call { callee := .builtin .append, args := #[s, x], argTypes := #[t, t] })
 (base : Nat) (e : TypeId) (i : TypeInfo) (z : Value) (size bytes : Nat) (ht : P.underlying t = some (.slice e)) (hi : P.info? e = some i) (hz : i.zero = some z)
 (hsize : i.size = size) (hby : i.bytes = bytes) (hzs : z.cells.size = size) (hsz : 0 < size)
 (v : Value) (n : Nat) (xs : List Value) (hs : a.eval s = v) (hown : w.ownsRow base e size v n xs)
 (ao : Option Addr) (m c : Nat) (news : List Value) (hx : a.eval x = .slice ao m c) (hnone : ao = none → m = 0 ∧ c = 0) (hl : news.length = m * size) (hnews : ∀ ad, ao = some ad → ∀ j u, news[j]? = some u → w.cell? (ad.add j) = some u) (h1 : ∀ u ∈ news, u.oneCell' = true)
 (h63 : n + m ≤ maxLen) (hbytes : (n + m) * bytes ≤ 140737488355328) (hbase : base ≤ w.heap.size) (hv : ¬ v = .slice none 0 0)
 (h : ∀ g cap w', w'.ownsRow base e size (.slice (some ⟨g, 0, none⟩) (n + m) cap) (n + m) (xs ++ news) → w.grownBy w' v.ownBlock → wpList P ops Q rest (a.put o.dst (.slice (some ⟨g, 0, none⟩) (n + m) cap)) w') : wpList P ops Q (o :: rest) a w := by
 cases ao with
 | none =>
  obtain ⟨rfl, rfl⟩ := hnone rfl
  obtain rfl : news = [] := List.eq_nil_of_length_eq_zero (by simpa using hl)
  obtain ⟨g, cap, rfl⟩ := own_shape hown hv
  refine wpList_append_own_none hgd s x t ho base e i size ht hi _ n xs hs hown hx ?_
  have := h g cap w (by simpa using hown) (World.grownBy.refl _ _)
  simpa using this
 | some ad =>
  refine wpList_append_own w hgd s x t ho base e i z size bytes ht hi hz hsize hby hzs hsz v n xs hs hown ad m c news hx hl (hnews ad rfl) h1 h63 hbytes hbase fun v' w' h2 h3 h4 => ?_
  obtain ⟨g, cap, rfl⟩ := own_shape h2 (fun e => hv (h4.1 e).1)
  exact h g cap w' h2 h3
theorem cih_one (L : List Int) : ∀ u ∈ cih L, u.oneCell' = true := by
 intro u hu
 obtain ⟨x, _, rfl⟩ := List.mem_map.1 hu
 rfl
def flatTo (ss : List ShelfV) (j : Nat) : List Int := (ss.take j).flatMap (fun s => s.us)
theorem flatTo_step (ss : List ShelfV) (j : Nat) (h : j < ss.length) : flatTo ss (j + 1) = flatTo ss j ++ (ss.getD j default).us := by
 unfold flatTo
 rw [List.take_succ_eq_append_getElem h, List.flatMap_append]
 simp [h]
theorem flatTo_len (ss : List ShelfV) (j : Nat) : (flatTo ss j).length ≤ (ss.flatMap (fun s => s.us)).length := by
 unfold flatTo
 conv => rhs; rw [← List.take_append_drop j ss, List.flatMap_append, List.length_append]
 omega
theorem flatTo_all (ss : List ShelfV) : flatTo ss ss.length = ss.flatMap (fun s => s.us) := by
 unfold flatTo
 rw [List.take_length]
def psum (f : BoxV → Int) (bs : List BoxV) (us : List Int) (k : Nat) : Int := ((us.take k).map (fun b => f (bs.getD b.toNat default))).sum
theorem psum_step (f : BoxV → Int) (bs : List BoxV) (us : List Int) (k j : Nat) (h : k < us.length) (hj : us.getD k 0 = (j : Int)) : psum f bs us (k + 1) = psum f bs us k + f (bs.getD j default) := by
 unfold psum
 rw [List.take_succ_eq_append_getElem h, List.map_append, List.sum_append]
 have : us[k] = (j : Int) := by rw [← hj]; simp [List.getD_eq_getElem?_getD, h]
 rw [this]
 simp
theorem sum_nn : ∀ l : List Int, (∀ x ∈ l, 0 ≤ x) → 0 ≤ l.sum
 | [], _ => by simp
 | x :: l, h => by
  have h1 := sum_nn l (fun y hy => h y (by simp [hy]))
  have h2 := h x (by simp)
  rw [List.sum_cons]
  omega
theorem psum_bd (f : BoxV → Int) (bs : List BoxV) (us : List Int) (k : Nat) (h : ∀ b ∈ us, 0 ≤ f (bs.getD b.toNat default)) : 0 ≤ psum f bs us k ∧ psum f bs us k ≤ (us.map (fun b => f (bs.getD b.toNat default))).sum := by
 have h1 : 0 ≤ psum f bs us k := sum_nn _ (fun x hx => by
  obtain ⟨b, hb, rfl⟩ := List.mem_map.1 hx
  exact h b (List.mem_of_mem_take hb))
 have h2 : 0 ≤ ((us.drop k).map (fun b => f (bs.getD b.toNat default))).sum := sum_nn _ (fun x hx => by
  obtain ⟨b, hb, rfl⟩ := List.mem_map.1 hx
  exact h b (List.mem_of_mem_drop hb))
 refine ⟨h1, ?_⟩
 have e : (us.map (fun b => f (bs.getD b.toNat default))).sum = psum f bs us k + ((us.drop k).map (fun b => f (bs.getD b.toNat default))).sum := by
  unfold psum
  conv => lhs; rw [← List.take_append_drop k us, List.map_append, List.sum_append]
 omega
theorem psum_all (f : BoxV → Int) (bs : List BoxV) (us : List Int) : psum f bs us us.length = (us.map (fun b => f (bs.getD b.toNat default))).sum := by
 unfold psum
 rw [List.take_length]
/-- All that the law asks of a shelf. -/
structure HoldF (p : PalletV) (bs : List BoxV) (s : ShelfV) : Prop where
 at' : ∀ k, k < s.us.length → ∃ j : Nat, s.us.getD k 0 = (j : Int) ∧ j < bs.length ∧ (bs.getD j default).dp ≤ s.dp ∧ (bs.getD j default).ht ≤ s.ht ∧ psum BoxV.wd bs s.us (k + 1) = psum BoxV.wd bs s.us k + (bs.getD j default).wd ∧ psum BoxV.gram bs s.us (k + 1) = psum BoxV.gram bs s.us k + (bs.getD j default).gram
 wb : ∀ k, 0 ≤ psum BoxV.wd bs s.us k ∧ psum BoxV.wd bs s.us k ≤ s.wd
 gb : ∀ k, 0 ≤ psum BoxV.gram bs s.us k ∧ psum BoxV.gram bs s.us k ≤ s.gram
 we : psum BoxV.wd bs s.us s.us.length = s.wd
 ge : psum BoxV.gram bs s.us s.us.length = s.gram
 w1 : s.wd ≤ p.wd
 g1 : s.gram ≤ p.gram
theorem holdF_at {p : PalletV} {bs : List BoxV} (hb : boxesB p bs = true) (i : Nat) (hi : i < (shelvesR p bs).length) : HoldF p bs ((shelvesR p bs).getD i default) := by
 have h := hold_at p bs i hi
 have hs := size_at p bs i hi
 generalize (shelvesR p bs).getD i default = s at *
 have hin : ∀ b ∈ s.us, 0 ≤ (bs.getD b.toNat default).wd ∧ 0 ≤ (bs.getD b.toNat default).gram := by
  intro b hbm
  obtain ⟨j, rfl, hj, _, _⟩ := h.inn b hbm
  have := box_in (boxesB_in hb hj)
  rw [Int.toNat_natCast]
  omega
 refine ⟨fun k hk => ?_, fun k => ?_, fun k => ?_, (psum_all _ _ _).trans h.wd, (psum_all _ _ _).trans h.gram, hs.w1, hs.g1⟩
 · have hm : s.us.getD k 0 ∈ s.us := by simp [List.getD_eq_getElem?_getD, hk]
   obtain ⟨j, e, hj, h1, h2⟩ := h.inn _ hm
   exact ⟨j, e, hj, h1, h2, psum_step _ _ _ _ _ hk e, psum_step _ _ _ _ _ hk e⟩
 · have := psum_bd BoxV.wd bs s.us k (fun b hb => (hin b hb).1)
   rw [h.wd] at this
   exact this
 · have := psum_bd BoxV.gram bs s.us k (fun b hb => (hin b hb).2)
   rw [h.gram] at this
   exact this
end Go.Proofs.Ytcblpoeeembniaa
