/- Master, Bounds, BoundsOk, SpecBounds: one text. -/
import Derived.Test.YtphdeojiehigpaaPkA
/- MasterOf of model and program: the first type of the master's number. -/
namespace Go.Proofs.Ytphdeojiehigpaa
open Go.RowKit
set_option linter.unusedVariables false
set_option linter.unusedSimpArgs false

def TypeV.zero : TypeV := ⟨0, 0, 0, 0, 0, 0, 0⟩
def isId (m : Int) (t : TypeV) : Bool := t.id == m
def masterV (r : ReqV) : TypeV := (r.types.find? (isId r.master)).getD TypeV.zero
def masterB (r : ReqV) : Bool := (r.types.find? (isId r.master)).isSome
theorem find_hit {α : Type} [Inhabited α] (f : α → Bool) (xs : List α) (k : Nat) (hk : k < xs.length) (h0 : (xs.take k).find? f = none) (h1 : f (xs.getD k default) = true) : xs.find? f = some (xs.getD k default) := by
  have hd : xs.drop k = xs[k] :: xs.drop (k + 1) := List.drop_eq_getElem_cons hk
  have hg : xs.getD k default = xs[k] := by simp [hk]
  rw [hg] at h1 ⊢
  have h2 : (xs.take k ++ xs.drop k).find? f = some xs[k] := by
    rw [List.find?_append, h0, hd, List.find?_cons_of_pos h1]
    rfl
  rwa [List.take_append_drop] at h2
theorem find_step {α : Type} [Inhabited α] (f : α → Bool) (xs : List α) (k : Nat) (hk : k < xs.length) (h0 : (xs.take k).find? f = none) (h1 : f (xs.getD k default) = false) : (xs.take (k + 1)).find? f = none := by
  have hg : xs.getD k default = xs[k] := by simp [hk]
  rw [hg] at h1
  rw [List.take_succ_eq_append_getElem hk, List.find?_append, h0]
  simp [h1]
theorem find_end {α : Type} (f : α → Bool) (xs : List α) (k : Nat) (hk : xs.length ≤ k) (h0 : (xs.take k).find? f = none) : xs.find? f = none := by rwa [List.take_of_length_le hk] at h0
theorem master_hit {r : ReqV} {q : TypeV} (h : r.types.find? (isId r.master) = some q) : masterV r = q ∧ masterB r = true := by simp [masterV, masterB, h]
theorem master_none {r : ReqV} (h : r.types.find? (isId r.master) = none) : masterV r = TypeV.zero ∧ masterB r = false := by simp [masterV, masterB, h]
theorem ret_master {p q : TypeV} {a b : Bool} (h1 : p = q) (h2 : a = b) : Ending.returned (.tuple #[.agg #[.int .i64 p.id, .int .i64 p.wd, .int .i64 p.ht, .int .i64 p.dp, .int .i64 p.tare, .int .i64 p.gram, .int .i64 p.cost], .bool a]) = .returned (.tuple #[.agg #[.int .i64 q.id, .int .i64 q.wd, .int .i64 q.ht, .int .i64 q.dp, .int .i64 q.tare, .int .i64 q.gram, .int .i64 q.cost], .bool b]) := by rw [h1, h2]
theorem below_fill7 {B g : Nat} {w u : World} {b0 b1 b2 b3 b4 b5 b6 : Value} (h : Below B w u) (hg : B ≤ g) :
    Below B w (((((((u.setCell ⟨g, 0, none⟩ b0).setCell ⟨g, 1, none⟩ b1).setCell ⟨g, 2, none⟩ b2).setCell ⟨g, 3, none⟩ b3).setCell ⟨g, 4, none⟩ b4).setCell ⟨g, 5, none⟩ b5).setCell ⟨g, 6, none⟩ b6) :=
  ((((((h.setCell hg _).setCell hg _).setCell hg _).setCell hg _).setCell hg _).setCell hg _).setCell hg _
theorem Blk.fill7 {w : World} {g : Nat} {a0 a1 a2 a3 a4 a5 a6 b0 b1 b2 b3 b4 b5 b6 : Value} (h : Blk w g [a0, a1, a2, a3, a4, a5, a6]) :
    Blk (((((((w.setCell ⟨g, 0, none⟩ b0).setCell ⟨g, 1, none⟩ b1).setCell ⟨g, 2, none⟩ b2).setCell ⟨g, 3, none⟩ b3).setCell ⟨g, 4, none⟩ b4).setCell ⟨g, 5, none⟩ b5).setCell ⟨g, 6, none⟩ b6) g [b0, b1, b2, b3, b4, b5, b6] :=
  ((((((h.set (j := 0) (v := b0) (by simp)).set (j := 1) (v := b1) (by simp)).set (j := 2) (v := b2) (by simp)).set (j := 3) (v := b3) (by simp)).set (j := 4) (v := b4) (by simp)).set (j := 5) (v := b5) (by simp)).set (j := 6) (v := b6) (by simp)

def byIdV (r : ReqV) (m : Int) : TypeV := (r.types.find? (isId m)).getD TypeV.zero
def byIdB (r : ReqV) (m : Int) : Bool := (r.types.find? (isId m)).isSome
theorem byId_hit {r : ReqV} {m : Int} {q : TypeV} (h : r.types.find? (isId m) = some q) : byIdV r m = q ∧ byIdB r m = true := by simp [byIdV, byIdB, h]
theorem byId_none {r : ReqV} {m : Int} (h : r.types.find? (isId m) = none) : byIdV r m = TypeV.zero ∧ byIdB r m = false := by simp [byIdV, byIdB, h]

set_option maxHeartbeats 2000000 in
theorem specTypeById_any (r : ReqV) (h : ReqH) (m : Int) (w : World) (hr : RdReq w r h) (hs : r.types.length ≤ 1048600) :
    Calls Try.prog 5 #[reqVal r h, .int .i64 m] w fun e w' => e = .returned (.tuple #[.agg #[.int .i64 (byIdV r m).id, .int .i64 (byIdV r m).wd, .int .i64 (byIdV r m).ht, .int .i64 (byIdV r m).dp, .int .i64 (byIdV r m).tare, .int .i64 (byIdV r m).gram, .int .i64 (byIdV r m).cost], .bool (byIdB r m)]) ∧ Below w.heap.size w w' := by
  unfold reqVal
  have hty := hr.2.1
  have hlen := hty.1
  clear hr
  generalize h.at' = ta at *
  go_enter Try.func5, Try.ntmps5
  go_wp2
  have HX : Blk ((w.alloc (.cells #[.int .i64 r.way, .int .i64 r.pal.wd, .int .i64 r.pal.dp, .int .i64 r.pal.ht, .int .i64 r.pal.gram, .int .i64 r.classes, .slice h.ap r.pairs.length h.cp, .slice ta r.types.length h.ct, .int .i64 r.master, .slice h.ai r.items.length h.ci] 39)).alloc (.cells #[.int .i64 0, .int .i64 0, .int .i64 0, .int .i64 0, .int .i64 0, .int .i64 0, .int .i64 0] 31)) w.heap.size [.int .i64 r.way, .int .i64 r.pal.wd, .int .i64 r.pal.dp, .int .i64 r.pal.ht, .int .i64 r.pal.gram, .int .i64 r.classes, .slice h.ap r.pairs.length h.cp, .slice ta r.types.length h.ct, .int .i64 r.master, .slice h.ai r.items.length h.ci] := (Blk.allocAt [.int .i64 r.way, .int .i64 r.pal.wd, .int .i64 r.pal.dp, .int .i64 r.pal.ht, .int .i64 r.pal.gram, .int .i64 r.classes, .slice h.ap r.pairs.length h.cp, .slice ta r.types.length h.ct, .int .i64 r.master, .slice h.ai r.items.length h.ci] rfl).allocOld (by simp) _
  have HT : Blk ((w.alloc (.cells #[.int .i64 r.way, .int .i64 r.pal.wd, .int .i64 r.pal.dp, .int .i64 r.pal.ht, .int .i64 r.pal.gram, .int .i64 r.classes, .slice h.ap r.pairs.length h.cp, .slice ta r.types.length h.ct, .int .i64 r.master, .slice h.ai r.items.length h.ci] 39)).alloc (.cells #[.int .i64 0, .int .i64 0, .int .i64 0, .int .i64 0, .int .i64 0, .int .i64 0, .int .i64 0] 31)) (w.heap.size + 1) [.int .i64 0, .int .i64 0, .int .i64 0, .int .i64 0, .int .i64 0, .int .i64 0, .int .i64 0] := Blk.allocAt [.int .i64 0, .int .i64 0, .int .i64 0, .int .i64 0, .int .i64 0, .int .i64 0, .int .i64 0] (by simp)
  have HB : Below w.heap.size w ((w.alloc (.cells #[.int .i64 r.way, .int .i64 r.pal.wd, .int .i64 r.pal.dp, .int .i64 r.pal.ht, .int .i64 r.pal.gram, .int .i64 r.classes, .slice h.ap r.pairs.length h.cp, .slice ta r.types.length h.ct, .int .i64 r.master, .slice h.ai r.items.length h.ci] 39)).alloc (.cells #[.int .i64 0, .int .i64 0, .int .i64 0, .int .i64 0, .int .i64 0, .int .i64 0, .int .i64 0] 31)) := ((Below.refl w.heap.size w).alloc (Nat.le_refl _) _).alloc (by simp) _
  have hz : w.heap.size + 1 < ((w.alloc (.cells #[.int .i64 r.way, .int .i64 r.pal.wd, .int .i64 r.pal.dp, .int .i64 r.pal.ht, .int .i64 r.pal.gram, .int .i64 r.classes, .slice h.ap r.pairs.length h.cp, .slice ta r.types.length h.ct, .int .i64 r.master, .slice h.ai r.items.length h.ci] 39)).alloc (.cells #[.int .i64 0, .int .i64 0, .int .i64 0, .int .i64 0, .int .i64 0, .int .i64 0, .int .i64 0] 31)).heap.size := by simp
  have HTY : Hid (RdR TypeV.cells 7 ((w.alloc (.cells #[.int .i64 r.way, .int .i64 r.pal.wd, .int .i64 r.pal.dp, .int .i64 r.pal.ht, .int .i64 r.pal.gram, .int .i64 r.classes, .slice h.ap r.pairs.length h.cp, .slice ta r.types.length h.ct, .int .i64 r.master, .slice h.ai r.items.length h.ci] 39)).alloc (.cells #[.int .i64 0, .int .i64 0, .int .i64 0, .int .i64 0, .int .i64 0, .int .i64 0, .int .i64 0] 31)) ta r.types.length r.types) := hty.mono (by omega) TypeV.len (HB.mono (Nat.le_refl _))
  generalize ((w.alloc (.cells #[.int .i64 r.way, .int .i64 r.pal.wd, .int .i64 r.pal.dp, .int .i64 r.pal.ht, .int .i64 r.pal.gram, .int .i64 r.classes, .slice h.ap r.pairs.length h.cp, .slice ta r.types.length h.ct, .int .i64 r.master, .slice h.ai r.items.length h.ci] 39)).alloc (.cells #[.int .i64 0, .int .i64 0, .int .i64 0, .int .i64 0, .int .i64 0, .int .i64 0, .int .i64 0] 31)) = W at *
  obtain ⟨G, hG⟩ : ∃ G, G = w.heap.size := ⟨_, rfl⟩
  rw [← hG] at HX HT hz ⊢
  have HG := hide hG
  have HBH := hide HB
  have HXX := hide HX
  have HTT := hide HT
  have lt0 : G < W.heap.size := by omega
  clear hG HB HX HT hty hlen
  go_loopw [6] (fun i wr => ∃ k : Nat, k ≤ r.types.length ∧ i = .int .i64 (k : Int) ∧ (r.types.take k).find? (isId m) = none ∧ Below W.heap.size W wr) (fun i _ => r.types.length - (intOf i).toNat)
  case atStart => exact ⟨0, Nat.zero_le _, rfl, by simp, Below.refl _ _⟩
  case round =>
    obtain ⟨k, hk, rfl, hno, hb⟩ := hrel
    have A1 := Blk.below hb lt0 (unhide HXX)
    have T1 := Blk.below hb hz (unhide HTT)
    have a7 : wr.cell? ⟨G, 7, none⟩ = some (.slice ta r.types.length h.ct) := (A1 7 (by simp)).1
    have a8 : wr.cell? ⟨G, 8, none⟩ = some (.int .i64 r.master) := (A1 8 (by simp)).1
    have t0 : wr.cell? ⟨G + 1, 0, none⟩ = some (.int .i64 0) := (T1 0 (by simp)).1
    have tf0 : wr.frozen? ⟨G + 1, 0, none⟩ = false := (T1 0 (by simp)).2
    have t1 : wr.cell? ⟨G + 1, 1, none⟩ = some (.int .i64 0) := (T1 1 (by simp)).1
    have tf1 : wr.frozen? ⟨G + 1, 1, none⟩ = false := (T1 1 (by simp)).2
    have t2 : wr.cell? ⟨G + 1, 2, none⟩ = some (.int .i64 0) := (T1 2 (by simp)).1
    have tf2 : wr.frozen? ⟨G + 1, 2, none⟩ = false := (T1 2 (by simp)).2
    have t3 : wr.cell? ⟨G + 1, 3, none⟩ = some (.int .i64 0) := (T1 3 (by simp)).1
    have tf3 : wr.frozen? ⟨G + 1, 3, none⟩ = false := (T1 3 (by simp)).2
    have t4 : wr.cell? ⟨G + 1, 4, none⟩ = some (.int .i64 0) := (T1 4 (by simp)).1
    have tf4 : wr.frozen? ⟨G + 1, 4, none⟩ = false := (T1 4 (by simp)).2
    have t5 : wr.cell? ⟨G + 1, 5, none⟩ = some (.int .i64 0) := (T1 5 (by simp)).1
    have tf5 : wr.frozen? ⟨G + 1, 5, none⟩ = false := (T1 5 (by simp)).2
    have t6 : wr.cell? ⟨G + 1, 6, none⟩ = some (.int .i64 0) := (T1 6 (by simp)).1
    have tf6 : wr.frozen? ⟨G + 1, 6, none⟩ = false := (T1 6 (by simp)).2

    have z1 : G + 1 < wr.heap.size := Nat.lt_of_lt_of_le hz hb.size
    have z0 : G < wr.heap.size := by omega
    have HBB := hide hb
    have HNO := hide hno
    have HTZ := hide T1
    by_cases hlt : k < r.types.length
    · obtain ⟨b, off, rfl, hc⟩ := (unhide HTY).2 k hlt
      have HSTEP := hide (fun h1 => find_step (isId m) r.types k hlt hno h1)
      have HHIT := hide (fun h1 => find_hit (isId m) r.types k hlt hno h1)
      generalize r.types.getD k default = q at hc HSTEP HHIT
      have d0 : wr.cell? ⟨b, off + k * 7, none⟩ = some (.int .i64 q.id) := (hb.cell (World.block_lt_of_cell? _ _ (hc 0 (by omega)))).trans (hc 0 (by omega))
      have d1 : wr.cell? ⟨b, off + k * 7 + 1, none⟩ = some (.int .i64 q.wd) := (hb.cell (World.block_lt_of_cell? _ _ (hc 1 (by omega)))).trans (hc 1 (by omega))
      have d2 : wr.cell? ⟨b, off + k * 7 + 2, none⟩ = some (.int .i64 q.ht) := (hb.cell (World.block_lt_of_cell? _ _ (hc 2 (by omega)))).trans (hc 2 (by omega))
      have d3 : wr.cell? ⟨b, off + k * 7 + 3, none⟩ = some (.int .i64 q.dp) := (hb.cell (World.block_lt_of_cell? _ _ (hc 3 (by omega)))).trans (hc 3 (by omega))
      have d4 : wr.cell? ⟨b, off + k * 7 + 4, none⟩ = some (.int .i64 q.tare) := (hb.cell (World.block_lt_of_cell? _ _ (hc 4 (by omega)))).trans (hc 4 (by omega))
      have d5 : wr.cell? ⟨b, off + k * 7 + 5, none⟩ = some (.int .i64 q.gram) := (hb.cell (World.block_lt_of_cell? _ _ (hc 5 (by omega)))).trans (hc 5 (by omega))
      have d6 : wr.cell? ⟨b, off + k * 7 + 6, none⟩ = some (.int .i64 q.cost) := (hb.cell (World.block_lt_of_cell? _ _ (hc 6 (by omega)))).trans (hc 6 (by omega))
      have hqm : isId m q = (q.id == m) := rfl
      rw [hqm] at HSTEP HHIT
      clear hc hb hno A1 T1 hqm
      cases hid : (q.id == m)
      · have HST := hide ((unhide HSTEP) hid)
        clear HSTEP HHIT
        go_wp2
        go_roundw
        case rel => exact ⟨k + 1, by omega, by go_num, unhide HST, unhide HBB⟩
        case measure => simp [intOf]; omega
      · have HH := hide (byId_hit ((unhide HHIT) hid))
        clear HSTEP HHIT
        go_wp2
        have e1 := (unhide HH).1
        have e2 := (unhide HH).2
        have HE1 := hide e1
        have HE2 := hide e2
        clear e1 e2 HH
        refine bodyPost_ret (v := .tuple #[.agg #[.int .i64 q.id, .int .i64 q.wd, .int .i64 q.ht, .int .i64 q.dp, .int .i64 q.tare, .int .i64 q.gram, .int .i64 q.cost], .bool true]) (by simp [results, Try.results5, go_sem, t0, t1, t2, t3, t4, t5, t6]) rfl ⟨ret_master (unhide HE1).symm (unhide HE2).symm, ?_⟩
        exact below_fill7 ((unhide HBH).trans ((unhide HBB).mono (unhide HBH).size)) (by have := unhide HG; omega)
    · have HH := hide (byId_none (find_end (isId m) r.types k (by omega) hno))
      clear hb hno A1 T1
      go_wp2
      have HE1 := hide (unhide HH).1
      have HE2 := hide (unhide HH).2
      refine bodyPost_ret (v := .tuple #[.agg #[.int .i64 0, .int .i64 0, .int .i64 0, .int .i64 0, .int .i64 0, .int .i64 0, .int .i64 0], .bool false]) (by simp [results, Try.results5, go_sem, t0, t1, t2, t3, t4, t5, t6]) rfl ⟨ret_master (p := TypeV.zero) (unhide HE1).symm (unhide HE2).symm, ?_⟩
      refine below_fill7 ?_ (by have := unhide HG; omega)
      exact (unhide HBH).trans ((unhide HBB).mono (unhide HBH).size)
set_option maxHeartbeats 2000000 in
theorem typeById_any (r : ReqV) (h : ReqH) (m : Int) (w : World) (hr : RdReq w r h) (hs : r.types.length ≤ 1048600) :
    Calls Try.prog 7 #[reqVal r h, .int .i64 m] w fun e w' => e = .returned (.tuple #[.agg #[.int .i64 (byIdV r m).id, .int .i64 (byIdV r m).wd, .int .i64 (byIdV r m).ht, .int .i64 (byIdV r m).dp, .int .i64 (byIdV r m).tare, .int .i64 (byIdV r m).gram, .int .i64 (byIdV r m).cost], .bool (byIdB r m)]) ∧ Below w.heap.size w w' := by
  unfold reqVal
  have hty := hr.2.1
  have hlen := hty.1
  clear hr
  generalize h.at' = ta at *
  go_enter Try.func7, Try.ntmps7
  go_wp2
  have HX : Blk ((w.alloc (.cells #[.int .i64 r.way, .int .i64 r.pal.wd, .int .i64 r.pal.dp, .int .i64 r.pal.ht, .int .i64 r.pal.gram, .int .i64 r.classes, .slice h.ap r.pairs.length h.cp, .slice ta r.types.length h.ct, .int .i64 r.master, .slice h.ai r.items.length h.ci] 39)).alloc (.cells #[.int .i64 0, .int .i64 0, .int .i64 0, .int .i64 0, .int .i64 0, .int .i64 0, .int .i64 0] 31)) w.heap.size [.int .i64 r.way, .int .i64 r.pal.wd, .int .i64 r.pal.dp, .int .i64 r.pal.ht, .int .i64 r.pal.gram, .int .i64 r.classes, .slice h.ap r.pairs.length h.cp, .slice ta r.types.length h.ct, .int .i64 r.master, .slice h.ai r.items.length h.ci] := (Blk.allocAt [.int .i64 r.way, .int .i64 r.pal.wd, .int .i64 r.pal.dp, .int .i64 r.pal.ht, .int .i64 r.pal.gram, .int .i64 r.classes, .slice h.ap r.pairs.length h.cp, .slice ta r.types.length h.ct, .int .i64 r.master, .slice h.ai r.items.length h.ci] rfl).allocOld (by simp) _
  have HT : Blk ((w.alloc (.cells #[.int .i64 r.way, .int .i64 r.pal.wd, .int .i64 r.pal.dp, .int .i64 r.pal.ht, .int .i64 r.pal.gram, .int .i64 r.classes, .slice h.ap r.pairs.length h.cp, .slice ta r.types.length h.ct, .int .i64 r.master, .slice h.ai r.items.length h.ci] 39)).alloc (.cells #[.int .i64 0, .int .i64 0, .int .i64 0, .int .i64 0, .int .i64 0, .int .i64 0, .int .i64 0] 31)) (w.heap.size + 1) [.int .i64 0, .int .i64 0, .int .i64 0, .int .i64 0, .int .i64 0, .int .i64 0, .int .i64 0] := Blk.allocAt [.int .i64 0, .int .i64 0, .int .i64 0, .int .i64 0, .int .i64 0, .int .i64 0, .int .i64 0] (by simp)
  have HB : Below w.heap.size w ((w.alloc (.cells #[.int .i64 r.way, .int .i64 r.pal.wd, .int .i64 r.pal.dp, .int .i64 r.pal.ht, .int .i64 r.pal.gram, .int .i64 r.classes, .slice h.ap r.pairs.length h.cp, .slice ta r.types.length h.ct, .int .i64 r.master, .slice h.ai r.items.length h.ci] 39)).alloc (.cells #[.int .i64 0, .int .i64 0, .int .i64 0, .int .i64 0, .int .i64 0, .int .i64 0, .int .i64 0] 31)) := ((Below.refl w.heap.size w).alloc (Nat.le_refl _) _).alloc (by simp) _
  have hz : w.heap.size + 1 < ((w.alloc (.cells #[.int .i64 r.way, .int .i64 r.pal.wd, .int .i64 r.pal.dp, .int .i64 r.pal.ht, .int .i64 r.pal.gram, .int .i64 r.classes, .slice h.ap r.pairs.length h.cp, .slice ta r.types.length h.ct, .int .i64 r.master, .slice h.ai r.items.length h.ci] 39)).alloc (.cells #[.int .i64 0, .int .i64 0, .int .i64 0, .int .i64 0, .int .i64 0, .int .i64 0, .int .i64 0] 31)).heap.size := by simp
  have HTY : Hid (RdR TypeV.cells 7 ((w.alloc (.cells #[.int .i64 r.way, .int .i64 r.pal.wd, .int .i64 r.pal.dp, .int .i64 r.pal.ht, .int .i64 r.pal.gram, .int .i64 r.classes, .slice h.ap r.pairs.length h.cp, .slice ta r.types.length h.ct, .int .i64 r.master, .slice h.ai r.items.length h.ci] 39)).alloc (.cells #[.int .i64 0, .int .i64 0, .int .i64 0, .int .i64 0, .int .i64 0, .int .i64 0, .int .i64 0] 31)) ta r.types.length r.types) := hty.mono (by omega) TypeV.len (HB.mono (Nat.le_refl _))
  generalize ((w.alloc (.cells #[.int .i64 r.way, .int .i64 r.pal.wd, .int .i64 r.pal.dp, .int .i64 r.pal.ht, .int .i64 r.pal.gram, .int .i64 r.classes, .slice h.ap r.pairs.length h.cp, .slice ta r.types.length h.ct, .int .i64 r.master, .slice h.ai r.items.length h.ci] 39)).alloc (.cells #[.int .i64 0, .int .i64 0, .int .i64 0, .int .i64 0, .int .i64 0, .int .i64 0, .int .i64 0] 31)) = W at *
  obtain ⟨G, hG⟩ : ∃ G, G = w.heap.size := ⟨_, rfl⟩
  rw [← hG] at HX HT hz ⊢
  have HG := hide hG
  have HBH := hide HB
  have HXX := hide HX
  have HTT := hide HT
  have lt0 : G < W.heap.size := by omega
  clear hG HB HX HT hty hlen
  go_loopw [11] (fun i wr => ∃ k : Nat, k ≤ r.types.length ∧ i = .int .i64 (k : Int) ∧ (r.types.take k).find? (isId m) = none ∧ Below W.heap.size W wr) (fun i _ => r.types.length - (intOf i).toNat)
  case atStart => exact ⟨0, Nat.zero_le _, rfl, by simp, Below.refl _ _⟩
  case round =>
    obtain ⟨k, hk, rfl, hno, hb⟩ := hrel
    have A1 := Blk.below hb lt0 (unhide HXX)
    have T1 := Blk.below hb hz (unhide HTT)
    have a7 : wr.cell? ⟨G, 7, none⟩ = some (.slice ta r.types.length h.ct) := (A1 7 (by simp)).1
    have a8 : wr.cell? ⟨G, 8, none⟩ = some (.int .i64 r.master) := (A1 8 (by simp)).1
    have t0 : wr.cell? ⟨G + 1, 0, none⟩ = some (.int .i64 0) := (T1 0 (by simp)).1
    have tf0 : wr.frozen? ⟨G + 1, 0, none⟩ = false := (T1 0 (by simp)).2
    have t1 : wr.cell? ⟨G + 1, 1, none⟩ = some (.int .i64 0) := (T1 1 (by simp)).1
    have tf1 : wr.frozen? ⟨G + 1, 1, none⟩ = false := (T1 1 (by simp)).2
    have t2 : wr.cell? ⟨G + 1, 2, none⟩ = some (.int .i64 0) := (T1 2 (by simp)).1
    have tf2 : wr.frozen? ⟨G + 1, 2, none⟩ = false := (T1 2 (by simp)).2
    have t3 : wr.cell? ⟨G + 1, 3, none⟩ = some (.int .i64 0) := (T1 3 (by simp)).1
    have tf3 : wr.frozen? ⟨G + 1, 3, none⟩ = false := (T1 3 (by simp)).2
    have t4 : wr.cell? ⟨G + 1, 4, none⟩ = some (.int .i64 0) := (T1 4 (by simp)).1
    have tf4 : wr.frozen? ⟨G + 1, 4, none⟩ = false := (T1 4 (by simp)).2
    have t5 : wr.cell? ⟨G + 1, 5, none⟩ = some (.int .i64 0) := (T1 5 (by simp)).1
    have tf5 : wr.frozen? ⟨G + 1, 5, none⟩ = false := (T1 5 (by simp)).2
    have t6 : wr.cell? ⟨G + 1, 6, none⟩ = some (.int .i64 0) := (T1 6 (by simp)).1
    have tf6 : wr.frozen? ⟨G + 1, 6, none⟩ = false := (T1 6 (by simp)).2

    have z1 : G + 1 < wr.heap.size := Nat.lt_of_lt_of_le hz hb.size
    have z0 : G < wr.heap.size := by omega
    have HBB := hide hb
    have HNO := hide hno
    have HTZ := hide T1
    by_cases hlt : k < r.types.length
    · obtain ⟨b, off, rfl, hc⟩ := (unhide HTY).2 k hlt
      have HSTEP := hide (fun h1 => find_step (isId m) r.types k hlt hno h1)
      have HHIT := hide (fun h1 => find_hit (isId m) r.types k hlt hno h1)
      generalize r.types.getD k default = q at hc HSTEP HHIT
      have d0 : wr.cell? ⟨b, off + k * 7, none⟩ = some (.int .i64 q.id) := (hb.cell (World.block_lt_of_cell? _ _ (hc 0 (by omega)))).trans (hc 0 (by omega))
      have d1 : wr.cell? ⟨b, off + k * 7 + 1, none⟩ = some (.int .i64 q.wd) := (hb.cell (World.block_lt_of_cell? _ _ (hc 1 (by omega)))).trans (hc 1 (by omega))
      have d2 : wr.cell? ⟨b, off + k * 7 + 2, none⟩ = some (.int .i64 q.ht) := (hb.cell (World.block_lt_of_cell? _ _ (hc 2 (by omega)))).trans (hc 2 (by omega))
      have d3 : wr.cell? ⟨b, off + k * 7 + 3, none⟩ = some (.int .i64 q.dp) := (hb.cell (World.block_lt_of_cell? _ _ (hc 3 (by omega)))).trans (hc 3 (by omega))
      have d4 : wr.cell? ⟨b, off + k * 7 + 4, none⟩ = some (.int .i64 q.tare) := (hb.cell (World.block_lt_of_cell? _ _ (hc 4 (by omega)))).trans (hc 4 (by omega))
      have d5 : wr.cell? ⟨b, off + k * 7 + 5, none⟩ = some (.int .i64 q.gram) := (hb.cell (World.block_lt_of_cell? _ _ (hc 5 (by omega)))).trans (hc 5 (by omega))
      have d6 : wr.cell? ⟨b, off + k * 7 + 6, none⟩ = some (.int .i64 q.cost) := (hb.cell (World.block_lt_of_cell? _ _ (hc 6 (by omega)))).trans (hc 6 (by omega))
      have hqm : isId m q = (q.id == m) := rfl
      rw [hqm] at HSTEP HHIT
      clear hc hb hno A1 T1 hqm
      cases hid : (q.id == m)
      · have HST := hide ((unhide HSTEP) hid)
        clear HSTEP HHIT
        go_wp2
        go_roundw
        case rel => exact ⟨k + 1, by omega, by go_num, unhide HST, bw_alloc (unhide HBB) _⟩
        case measure => simp [intOf]; omega
      · have HH := hide (byId_hit ((unhide HHIT) hid))
        clear HSTEP HHIT
        go_wp2
        have e1 := (unhide HH).1
        have e2 := (unhide HH).2
        have HE1 := hide e1
        have HE2 := hide e2
        clear e1 e2 HH
        have CC : Blk ((((((((wr.setCell ⟨G + 1, 0, none⟩ (.int .i64 q.id)).setCell ⟨G + 1, 1, none⟩ (.int .i64 q.wd)).setCell ⟨G + 1, 2, none⟩ (.int .i64 q.ht)).setCell ⟨G + 1, 3, none⟩ (.int .i64 q.dp)).setCell ⟨G + 1, 4, none⟩ (.int .i64 q.tare)).setCell ⟨G + 1, 5, none⟩ (.int .i64 q.gram)).setCell ⟨G + 1, 6, none⟩ (.int .i64 q.cost)).alloc (.cells #[.int .i64 q.id, .int .i64 q.wd, .int .i64 q.ht, .int .i64 q.dp, .int .i64 q.tare, .int .i64 q.gram, .int .i64 q.cost] 31)) (G + 1) [.int .i64 q.id, .int .i64 q.wd, .int .i64 q.ht, .int .i64 q.dp, .int .i64 q.tare, .int .i64 q.gram, .int .i64 q.cost] := (Blk.fill7 (unhide HTZ)).allocOld (by simpa using z1) _
        have c0 : ((((((((wr.setCell ⟨G + 1, 0, none⟩ (.int .i64 q.id)).setCell ⟨G + 1, 1, none⟩ (.int .i64 q.wd)).setCell ⟨G + 1, 2, none⟩ (.int .i64 q.ht)).setCell ⟨G + 1, 3, none⟩ (.int .i64 q.dp)).setCell ⟨G + 1, 4, none⟩ (.int .i64 q.tare)).setCell ⟨G + 1, 5, none⟩ (.int .i64 q.gram)).setCell ⟨G + 1, 6, none⟩ (.int .i64 q.cost)).alloc (.cells #[.int .i64 q.id, .int .i64 q.wd, .int .i64 q.ht, .int .i64 q.dp, .int .i64 q.tare, .int .i64 q.gram, .int .i64 q.cost] 31)).cell? ⟨G + 1, 0, none⟩ = some (.int .i64 q.id) := (CC 0 (by simp)).1
        have c1 : ((((((((wr.setCell ⟨G + 1, 0, none⟩ (.int .i64 q.id)).setCell ⟨G + 1, 1, none⟩ (.int .i64 q.wd)).setCell ⟨G + 1, 2, none⟩ (.int .i64 q.ht)).setCell ⟨G + 1, 3, none⟩ (.int .i64 q.dp)).setCell ⟨G + 1, 4, none⟩ (.int .i64 q.tare)).setCell ⟨G + 1, 5, none⟩ (.int .i64 q.gram)).setCell ⟨G + 1, 6, none⟩ (.int .i64 q.cost)).alloc (.cells #[.int .i64 q.id, .int .i64 q.wd, .int .i64 q.ht, .int .i64 q.dp, .int .i64 q.tare, .int .i64 q.gram, .int .i64 q.cost] 31)).cell? ⟨G + 1, 1, none⟩ = some (.int .i64 q.wd) := (CC 1 (by simp)).1
        have c2 : ((((((((wr.setCell ⟨G + 1, 0, none⟩ (.int .i64 q.id)).setCell ⟨G + 1, 1, none⟩ (.int .i64 q.wd)).setCell ⟨G + 1, 2, none⟩ (.int .i64 q.ht)).setCell ⟨G + 1, 3, none⟩ (.int .i64 q.dp)).setCell ⟨G + 1, 4, none⟩ (.int .i64 q.tare)).setCell ⟨G + 1, 5, none⟩ (.int .i64 q.gram)).setCell ⟨G + 1, 6, none⟩ (.int .i64 q.cost)).alloc (.cells #[.int .i64 q.id, .int .i64 q.wd, .int .i64 q.ht, .int .i64 q.dp, .int .i64 q.tare, .int .i64 q.gram, .int .i64 q.cost] 31)).cell? ⟨G + 1, 2, none⟩ = some (.int .i64 q.ht) := (CC 2 (by simp)).1
        have c3 : ((((((((wr.setCell ⟨G + 1, 0, none⟩ (.int .i64 q.id)).setCell ⟨G + 1, 1, none⟩ (.int .i64 q.wd)).setCell ⟨G + 1, 2, none⟩ (.int .i64 q.ht)).setCell ⟨G + 1, 3, none⟩ (.int .i64 q.dp)).setCell ⟨G + 1, 4, none⟩ (.int .i64 q.tare)).setCell ⟨G + 1, 5, none⟩ (.int .i64 q.gram)).setCell ⟨G + 1, 6, none⟩ (.int .i64 q.cost)).alloc (.cells #[.int .i64 q.id, .int .i64 q.wd, .int .i64 q.ht, .int .i64 q.dp, .int .i64 q.tare, .int .i64 q.gram, .int .i64 q.cost] 31)).cell? ⟨G + 1, 3, none⟩ = some (.int .i64 q.dp) := (CC 3 (by simp)).1
        have c4 : ((((((((wr.setCell ⟨G + 1, 0, none⟩ (.int .i64 q.id)).setCell ⟨G + 1, 1, none⟩ (.int .i64 q.wd)).setCell ⟨G + 1, 2, none⟩ (.int .i64 q.ht)).setCell ⟨G + 1, 3, none⟩ (.int .i64 q.dp)).setCell ⟨G + 1, 4, none⟩ (.int .i64 q.tare)).setCell ⟨G + 1, 5, none⟩ (.int .i64 q.gram)).setCell ⟨G + 1, 6, none⟩ (.int .i64 q.cost)).alloc (.cells #[.int .i64 q.id, .int .i64 q.wd, .int .i64 q.ht, .int .i64 q.dp, .int .i64 q.tare, .int .i64 q.gram, .int .i64 q.cost] 31)).cell? ⟨G + 1, 4, none⟩ = some (.int .i64 q.tare) := (CC 4 (by simp)).1
        have c5 : ((((((((wr.setCell ⟨G + 1, 0, none⟩ (.int .i64 q.id)).setCell ⟨G + 1, 1, none⟩ (.int .i64 q.wd)).setCell ⟨G + 1, 2, none⟩ (.int .i64 q.ht)).setCell ⟨G + 1, 3, none⟩ (.int .i64 q.dp)).setCell ⟨G + 1, 4, none⟩ (.int .i64 q.tare)).setCell ⟨G + 1, 5, none⟩ (.int .i64 q.gram)).setCell ⟨G + 1, 6, none⟩ (.int .i64 q.cost)).alloc (.cells #[.int .i64 q.id, .int .i64 q.wd, .int .i64 q.ht, .int .i64 q.dp, .int .i64 q.tare, .int .i64 q.gram, .int .i64 q.cost] 31)).cell? ⟨G + 1, 5, none⟩ = some (.int .i64 q.gram) := (CC 5 (by simp)).1
        have c6 : ((((((((wr.setCell ⟨G + 1, 0, none⟩ (.int .i64 q.id)).setCell ⟨G + 1, 1, none⟩ (.int .i64 q.wd)).setCell ⟨G + 1, 2, none⟩ (.int .i64 q.ht)).setCell ⟨G + 1, 3, none⟩ (.int .i64 q.dp)).setCell ⟨G + 1, 4, none⟩ (.int .i64 q.tare)).setCell ⟨G + 1, 5, none⟩ (.int .i64 q.gram)).setCell ⟨G + 1, 6, none⟩ (.int .i64 q.cost)).alloc (.cells #[.int .i64 q.id, .int .i64 q.wd, .int .i64 q.ht, .int .i64 q.dp, .int .i64 q.tare, .int .i64 q.gram, .int .i64 q.cost] 31)).cell? ⟨G + 1, 6, none⟩ = some (.int .i64 q.cost) := (CC 6 (by simp)).1
        clear CC
        refine bodyPost_ret (v := .tuple #[.agg #[.int .i64 q.id, .int .i64 q.wd, .int .i64 q.ht, .int .i64 q.dp, .int .i64 q.tare, .int .i64 q.gram, .int .i64 q.cost], .bool true]) (by simp [results, Try.results7, go_sem, c0, c1, c2, c3, c4, c5, c6]) rfl ⟨ret_master (unhide HE1).symm (unhide HE2).symm, ?_⟩
        exact ((below_fill7 ((unhide HBH).trans ((unhide HBB).mono (unhide HBH).size)) (by have := unhide HG; omega)).alloc (by have := (unhide HBH).size; have := (unhide HBB).size; simp; omega) _)
    · have HH := hide (byId_none (find_end (isId m) r.types k (by omega) hno))
      clear hb hno A1 T1
      go_wp2
      have HE1 := hide (unhide HH).1
      have HE2 := hide (unhide HH).2
      refine bodyPost_ret (v := .tuple #[.agg #[.int .i64 0, .int .i64 0, .int .i64 0, .int .i64 0, .int .i64 0, .int .i64 0, .int .i64 0], .bool false]) (by simp [results, Try.results7, go_sem, t0, t1, t2, t3, t4, t5, t6]) rfl ⟨ret_master (p := TypeV.zero) (unhide HE1).symm (unhide HE2).symm, ?_⟩
      refine below_fill7 ?_ (by have := unhide HG; omega)
      exact (unhide HBH).trans ((unhide HBB).mono (unhide HBH).size)
end Go.Proofs.Ytphdeojiehigpaa

/- BoundsOk of the program. -/
namespace Go.Proofs.Ytphdeojiehigpaa
open Go.RowKit
set_option linter.unusedVariables false

def pairB (p : PairV) : Bool := inB p.a 0 3 && inB p.b 0 3
def TypeV.ok (t : TypeV) : Bool := typeB t.id t.wd t.ht t.dp t.tare t.gram t.cost
def ItemV.ok (t : ItemV) : Bool := itemB t.id t.wd t.ht t.dp t.gram t.cls t.cnt
def PalletV.ok (t : PalletV) : Bool := palletB t.wd t.dp t.ht t.gram
def cntSum (xs : List ItemV) : Int := (xs.map (·.cnt)).sum
def pairsB (xs : List PairV) : Bool := decide (xs.length ≤ 16) && xs.all pairB
def typesB (xs : List TypeV) : Bool := inB xs.length 1 5 && xs.all TypeV.ok
def itemsB (xs : List ItemV) : Bool := decide (xs.length ≤ 8) && (xs.all ItemV.ok && decide (cntSum xs ≤ 12))
def boundsB (r : ReqV) : Bool := inB r.way 0 1 && r.pal.ok && inB r.classes 1 4 && pairsB r.pairs && typesB r.types && inB r.master 0 999 && itemsB r.items

theorem all_step {α : Type} [Inhabited α] (f : α → Bool) (xs : List α) (k : Nat) (h : k < xs.length) (h0 : (xs.take k).all f = true) (h1 : f (xs.getD k default) = true) : (xs.take (k + 1)).all f = true := by
  rw [List.take_succ_eq_append_getElem h, List.all_append, h0]
  simpa [h] using h1
theorem all_fell {α : Type} [Inhabited α] (f : α → Bool) (xs : List α) (k : Nat) (h : k < xs.length) (h1 : f (xs.getD k default) = false) : xs.all f = false := by
  rw [List.all_eq_false]
  exact ⟨xs[k], List.getElem_mem _, by simpa [h] using h1⟩
theorem all_whole {α : Type} (f : α → Bool) (xs : List α) (k : Nat) (h : xs.length ≤ k) (h0 : (xs.take k).all f = true) : xs.all f = true := by
  rwa [List.take_of_length_le h] at h0
theorem ret_bool {a b : Bool} (h : a = b) : Ending.returned (.bool a) = .returned (.bool b) := by rw [h]
theorem pairsB_long {xs : List PairV} (h : ¬ xs.length ≤ 16) : pairsB xs = false := by simp [pairsB, h]
theorem pairsB_fell {xs : List PairV} (h : xs.all pairB = false) : pairsB xs = false := by simp [pairsB, h]
theorem pairsB_true {xs : List PairV} (h0 : xs.length ≤ 16) (h : xs.all pairB = true) : pairsB xs = true := by simp [pairsB, h, h0]
theorem typesB_long {xs : List TypeV} (h : inB xs.length 1 5 = false) : typesB xs = false := by simp [typesB, h]
theorem typesB_fell {xs : List TypeV} (h : xs.all TypeV.ok = false) : typesB xs = false := by simp [typesB, h]
theorem typesB_true {xs : List TypeV} (h0 : inB xs.length 1 5 = true) (h : xs.all TypeV.ok = true) : typesB xs = true := by simp [typesB, h, h0]
theorem itemsB_long {xs : List ItemV} (h : ¬ xs.length ≤ 8) : itemsB xs = false := by simp [itemsB, h]
theorem itemsB_fell {xs : List ItemV} (h : xs.all ItemV.ok = false) : itemsB xs = false := by simp [itemsB, h]
theorem itemsB_end {xs : List ItemV} (h0 : xs.length ≤ 8) (h : xs.all ItemV.ok = true) : itemsB xs = decide (cntSum xs ≤ 12) := by simp [itemsB, h, h0]
theorem item_cnt {q : ItemV} (h : q.ok = true) : 1 ≤ q.cnt ∧ q.cnt ≤ 6 := by
  simp only [ItemV.ok, itemB, Bool.and_eq_true] at h
  exact inB_iff.1 h.2
theorem cntSum_snoc (l : List ItemV) (x : ItemV) : cntSum (l ++ [x]) = cntSum l + x.cnt := by simp [cntSum, List.sum_append]
theorem cntSum_step (xs : List ItemV) (k : Nat) (h : k < xs.length) : cntSum (xs.take (k + 1)) = cntSum (xs.take k) + (xs.getD k default).cnt := by
  rw [List.take_succ_eq_append_getElem h, cntSum_snoc]
  simp [h]
theorem cntSum_bd (xs : List ItemV) (h : xs.all ItemV.ok = true) : 0 ≤ cntSum xs ∧ cntSum xs ≤ 6 * xs.length := by
  induction xs with
  | nil => simp [cntSum]
  | cons x r ih =>
    simp only [List.all_cons, Bool.and_eq_true] at h
    have := item_cnt h.1
    have := ih h.2
    have e : cntSum (x :: r) = x.cnt + cntSum r := by simp [cntSum]
    rw [e, List.length_cons]
    omega




end Go.Proofs.Ytphdeojiehigpaa

/- BoundsOk of the program answers as the bounds say. -/
namespace Go.Proofs.Ytphdeojiehigpaa
open Go.RowKit
set_option linter.unusedVariables false

theorem boundsB_no {r : ReqV} (h : inB r.way 0 1 = false ∨ palletB r.pal.wd r.pal.dp r.pal.ht r.pal.gram = false ∨ inB r.classes 1 4 = false ∨ pairsB r.pairs = false ∨ typesB r.types = false ∨ inB r.master 0 999 = false ∨ itemsB r.items = false) : boundsB r = false := by
  rcases h with h | h | h | h | h | h | h <;> simp [boundsB, PalletV.ok, h]
theorem boundsB_yes {r : ReqV} (h1 : inB r.way 0 1 = true) (h2 : palletB r.pal.wd r.pal.dp r.pal.ht r.pal.gram = true) (h3 : inB r.classes 1 4 = true) (h4 : pairsB r.pairs = true) (h5 : typesB r.types = true) (h6 : inB r.master 0 999 = true) (h7 : itemsB r.items = true) : boundsB r = true := by
  simp [boundsB, PalletV.ok, h1, h2, h3, h4, h5, h6, h7]
end Go.Proofs.Ytphdeojiehigpaa

/- BoundsOk of the model answers as the bounds say. -/
namespace Go.Proofs.Ytphdeojiehigpaa
open Go.RowKit
set_option linter.unusedVariables false
end Go.Proofs.Ytphdeojiehigpaa
