/- The model's draws: a cursor over the bytes of a draw. What it draws lies within its bounds, whatever the bytes. -/
import Derived.Test.YtcblpoeeembniaaRd
import Derived.Laws.Bits128
import Derived.Laws.Pointers
namespace Go.Proofs.Ytcblpoeeembniaa
open Go.RowKit

theorem i64_and255 (n : Int) : bits .and .i64 n 255 = n % 256 := by
 have h255 : (BitVec.ofInt 64 255).toNat = 2 ^ 8 - 1 := by decide
 have key : (BitVec.ofInt 64 n &&& BitVec.ofInt 64 255).toNat = (n % ((2 ^ 64 : Nat) : Int)).toNat % 2 ^ 8 := by
  rw [BitVec.toNat_and, BitVec.toNat_ofInt, h255, Nat.and_two_pow_sub_one_eq_mod]
 show IntKind.i64.wrap ((BitVec.ofInt 64 n &&& BitVec.ofInt 64 255).toNat : Nat) = n % 256
 rw [key, IntKind.wrap_i64]
 omega

/-- The slice at 'a' of length 'n' holds the bytes 'zs'. -/
def RdB (w : World) (a : Option Addr) (n : Nat) (zs : List Int) : Prop :=
 zs.length = n ∧ ∀ i, i < n → ∃ b off, a = some ⟨b, off, none⟩ ∧ w.cell? ⟨b, off + i, none⟩ = some (.int .u8 (zs.getD i 0)) ∧ 0 ≤ zs.getD i 0 ∧ zs.getD i 0 ≤ 255

theorem RdB.mono {w w' : World} {a : Option Addr} {n : Nat} {zs : List Int} (h : RdB w a n zs) (hb : Below w.heap.size w w') : RdB w' a n zs :=
 ⟨h.1, fun i hi => by
  obtain ⟨b, off, ha, hc, h1⟩ := h.2 i hi
  exact ⟨b, off, ha, (hb.cell (World.block_lt_of_cell? w _ hc)).trans hc, h1⟩⟩
theorem RdB.grown {w w' : World} {a : Option Addr} {g n : Nat} {zs : List Int} (h : RdB w a n zs) (hg : w.grownBy w' (some g)) (hne : 0 < n → ∀ x, a = some x → x.block ≠ g) : RdB w' a n zs :=
 ⟨h.1, fun i hi => by
  obtain ⟨b, off, ha, hc, h1⟩ := h.2 i hi
  exact ⟨b, off, ha, hg.cell hc (by have := hne (by omega) _ ha; simpa using this), h1⟩⟩

/-- The cursor at block k over the bytes at 'a'. -/
structure Cur (w : World) (k : Nat) (a : Option Addr) (n c : Nat) (zs : List Int) : Prop where
 cells : ∃ i h : Int, 0 ≤ i ∧ i ≤ n ∧ w.heap[k]? = some (.cells #[.slice a n c, .int .i64 i, .int .i64 h] 83 (0, 0))
 bytes : RdB w a n zs
 apart : 0 < n → ∀ x, a = some x → x.block ≠ k
 small : n ≤ 1048576

theorem Cur.mono {w w' : World} {k : Nat} {a : Option Addr} {n c : Nat} {zs : List Int} (h : Cur w k a n c zs) (hb : Below w.heap.size w w') : Cur w' k a n c zs := by
 obtain ⟨⟨i, hh, h1, h2, h3⟩, h4, h5, h6⟩ := h
 exact ⟨⟨i, hh, h1, h2, (hb.block k (lt_of_block h3)).trans h3⟩, h4.mono hb, h5, h6⟩
theorem Cur.grown {w w' : World} {k g : Nat} {a : Option Addr} {n c : Nat} {zs : List Int} (h : Cur w k a n c zs) (hg : w.grownBy w' (some g)) (hk : k ≠ g) (hne : 0 < n → ∀ x, a = some x → x.block ≠ g) : Cur w' k a n c zs := by
 obtain ⟨⟨i, hh, h1, h2, h3⟩, h4, h5, h6⟩ := h
 exact ⟨⟨i, hh, h1, h2, (hg.block k (lt_of_block h3) (by simpa using hk)).trans h3⟩, h4.grown hg hne, h5, h6⟩

theorem three_cell {w : World} {k : Nat} {x y z : Value} {t : TypeId} (h : w.heap[k]? = some (.cells #[x, y, z] t (0, 0))) : w.cell? ⟨k, 0, none⟩ = some x ∧ w.cell? ⟨k, 1, none⟩ = some y ∧ w.cell? ⟨k, 2, none⟩ = some z := by
 refine ⟨?_, ?_, ?_⟩ <;> simp [World.cell?, h]
theorem three_free {w : World} {k : Nat} {x y z : Value} {t : TypeId} (h : w.heap[k]? = some (.cells #[x, y, z] t (0, 0))) (j : Nat) : w.frozen? ⟨k, j, none⟩ = false := by
 simp [World.frozen?, h]
theorem three_set1 {w : World} {k : Nat} {x y z u : Value} {t : TypeId} (h : w.heap[k]? = some (.cells #[x, y, z] t (0, 0))) : (w.setCell ⟨k, 1, none⟩ u).heap[k]? = some (.cells #[x, u, z] t (0, 0)) := by
 rw [heap_setCell_same w k 1 _ t u h]; rfl
theorem three_set2 {w : World} {k : Nat} {x y z u : Value} {t : TypeId} (h : w.heap[k]? = some (.cells #[x, y, z] t (0, 0))) : (w.setCell ⟨k, 2, none⟩ u).heap[k]? = some (.cells #[x, y, u] t (0, 0)) := by
 rw [heap_setCell_same w k 2 _ t u h]; rfl

theorem gb_drew1 {w w' : World} {row : Option Nat} (h : w.grownBy w' row) (m : Nat) : w.grownBy (w'.drewN m) row := ⟨h.os, h.tape, h.output, h.size, h.block⟩
/-- What is written into new memory alone. -/
theorem gb_new {w w' w1 : World} {row : Option Nat} {g : Nat} (h : w.grownBy w' row) (h' : w'.grownBy w1 (some g)) (hg : w.heap.size ≤ g) : w.grownBy w1 row :=
 ⟨h'.os.trans h.os, h'.tape.trans h.tape, h'.output.trans h.output, Nat.le_trans h.size h'.size, fun k hk hne => (h'.block k (Nat.lt_of_lt_of_le hk h.size) (fun e => by cases e; omega)).trans (h.block k hk hne)⟩
theorem gb_same {w w1 w2 : World} {row : Option Nat} (h : w.grownBy w1 row) (h' : w1.grownBy w2 row) : w.grownBy w2 row :=
 ⟨h'.os.trans h.os, h'.tape.trans h.tape, h'.output.trans h.output, Nat.le_trans h.size h'.size, fun k hk hne => (h'.block k (Nat.lt_of_lt_of_le hk h.size) hne).trans (h.block k hk hne)⟩

set_option maxRecDepth 100000 in
set_option maxHeartbeats 1600000 in
theorem l1Byte_any (k : Nat) (a : Option Addr) (n c : Nat) (zs : List Int) (w : World) (hc : Cur w k a n c zs) :
 Calls Try.prog 68 #[.pointer (some ⟨k, 0, none⟩)] w fun e w' => ∃ x : Int, e = .returned (.int .i64 x) ∧ 0 ≤ x ∧ x ≤ 255 ∧ Cur w' k a n c zs ∧ w.grownBy w' (some k) := by
 have HC := hide hc
 obtain ⟨⟨i, h, hi0, hin, hb⟩, hby, hap, hsm⟩ := hc
 have hc3 := three_cell hb
 obtain ⟨c0, c1, c2⟩ := hc3
 have f2 := three_free hb 2
 have HBY := hide hby
 have HAP := hide hap
 have HB := hide hb
 clear hby hap hb
 go_enter Try.func68, Try.ntmps68
 go_wp2
 generalize wrap64 (wrap64 (h * 6364136223846793005) + 1442695040888963407) = h1
 have hb1 : (w.setCell ⟨k, 2, none⟩ (.int .i64 h1)).heap[k]? = some (.cells #[.slice a n c, .int .i64 i, .int .i64 h1] 83 (0, 0)) := three_set2 HB.out
 have hg1 : w.grownBy (w.setCell ⟨k, 2, none⟩ (.int .i64 h1)) (some k) := gb_set (World.grownBy.refl _ _) 2 _
 generalize w.setCell ⟨k, 2, none⟩ (.int .i64 h1) = W1 at *
 clear c0 c1 c2 f2
 obtain ⟨c0, c1, c2⟩ := three_cell hb1
 have HB1 := hide hb1
 have HG1 := hide hg1
 clear hb1 hg1
 go_quiet (fail)
 go_wp2
 generalize hx : bits BinOp.and IntKind.i64 (bits BinOp.xor IntKind.i64 _ _) 255 = x
 have hx0 : 0 ≤ x ∧ x ≤ 255 := by rw [i64_and255] at hx; omega
 clear hx
 by_cases hlt : i < (n : Int)
 · obtain ⟨j, rfl⟩ := Int.eq_ofNat_of_zero_le hi0
   obtain ⟨b, off, rfl, hcb, hv⟩ := (HBY.out.grown HG1.out HAP.out).2 j (by omega)
   generalize zs.getD j 0 = v at *
   have f1 := three_free HB1.out 1
   go_quiet (fail)
   go_wp2
   go_quiet (fail)
   go_wp2
   generalize hy : bits BinOp.and IntKind.i64 (x + v) 255 = y
   have hy0 : 0 ≤ y ∧ y ≤ 255 := by rw [i64_and255] at hy; omega
   clear hy
   go_ret
   refine ⟨y, rfl, hy0.1, hy0.2, ⟨⟨(j : Int) + 1, h1, by omega, by omega, three_set1 HB1.out⟩, ?_, HAP.out, hsm⟩, ?_⟩
   · exact HBY.out.grown (gb_set (gb_drew1 HG1.out _) 1 _) HAP.out
   · exact gb_set (gb_drew1 HG1.out _) 1 _
 · go_quiet (fail)
   go_wp2
   go_ret
   refine ⟨x, rfl, hx0.1, hx0.2, ⟨⟨i, h1, hi0, hin, HB1.out⟩, ?_, HAP.out, hsm⟩, ?_⟩
   · exact HBY.out.grown (gb_drew1 HG1.out _) HAP.out
   · exact gb_drew1 HG1.out _

set_option maxHeartbeats 400000 in
/-- l1Below at 1 to 256. -/
theorem l1Below_any (k : Nat) (a : Option Addr) (n c : Nat) (zs : List Int) (m : Int) (w : World) (hc : Cur w k a n c zs) (hm0 : 1 ≤ m) (hm1 : m ≤ 256) :
 Calls Try.prog 61 #[.pointer (some ⟨k, 0, none⟩), .int .i64 m] w fun e w' => ∃ x : Int, e = .returned (.int .i64 x) ∧ 0 ≤ x ∧ x < m ∧ Cur w' k a n c zs ∧ w.grownBy w' (some k) := by
 have HC := hide hc
 clear hc
 have t1 : ¬ m ≤ 0 := by omega
 go_enter Try.func61, Try.ntmps61
 go_wp2_with fail
 refine (l1Byte_any k a n c zs w HC.out).mono ?_
 rintro e w1 ⟨x, rfl, hx0, hx1, hc1, hg1⟩
 have HC1 := hide hc1
 have HG1 := hide hg1
 clear hc1 hg1
 go_wp2
 go_ret
 exact ⟨x % m, rfl, Int.emod_nonneg _ (by omega), Int.emod_lt_of_pos _ (by omega), HC1.out, HG1.out⟩

set_option maxHeartbeats 400000 in
theorem l1Once_any (k : Nat) (a : Option Addr) (n c : Nat) (zs : List Int) (m : Int) (w : World) (hc : Cur w k a n c zs) (hm0 : 1 ≤ m) (hm1 : m ≤ 256) :
 Calls Try.prog 63 #[.pointer (some ⟨k, 0, none⟩), .int .i64 m] w fun e w' => ∃ b : Bool, e = .returned (.bool b) ∧ Cur w' k a n c zs ∧ w.grownBy w' (some k) := by
 have HC := hide hc
 clear hc
 go_enter Try.func63, Try.ntmps63
 go_wp2_with fail
 refine (l1Below_any k a n c zs m w HC.out hm0 hm1).mono ?_
 rintro e w1 ⟨x, rfl, hx0, hx1, hc1, hg1⟩
 have HC1 := hide hc1
 have HG1 := hide hg1
 clear hc1 hg1
 go_wp2
 go_ret
 exact ⟨_, rfl, HC1.out, HG1.out⟩

set_option maxHeartbeats 400000 in
/-- l1PickInt out of a row that lies apart from the cursor. -/
theorem l1PickInt_any (k : Nat) (a : Option Addr) (n c : Nat) (zs : List Int) (b m cap : Nat) (ls : List Int) (w : World) (hc : Cur w k a n c zs) (hr : Rd w (some ⟨b, 0, none⟩) m ls) (hm0 : 1 ≤ m) (hm1 : m ≤ 256) (hbk : b ≠ k) :
 Calls Try.prog 62 #[.pointer (some ⟨k, 0, none⟩), .slice (some ⟨b, 0, none⟩) m cap] w fun e w' => ∃ j : Nat, j < m ∧ e = .returned (.int .i64 (ls.getD j 0)) ∧ Cur w' k a n c zs ∧ w.grownBy w' (some k) := by
 have HC := hide hc
 have HR := hide hr
 clear hc hr
 go_enter Try.func62, Try.ntmps62
 go_wp2_with fail
 refine (l1Below_any k a n c zs (m : Int) w HC.out (by omega) (by omega)).mono ?_
 rintro e w1 ⟨x, rfl, hx0, hx1, hc1, hg1⟩
 obtain ⟨j, rfl⟩ := Int.eq_ofNat_of_zero_le hx0
 obtain ⟨b', off', e, hcell⟩ := (HR.out.grown hg1 (by intro x hx; cases hx; exact hbk)).2 j (by omega)
 cases e
 have HC1 := hide hc1
 have HG1 := hide hg1
 clear hc1 hg1
 rw [Nat.zero_add] at hcell
 generalize hv : ls.getD j 0 = v at *
 have HV := hide hv
 clear hv
 go_wp2
 go_ret
 exact ⟨j, by omega, by rw [HV.out]; rfl, HC1.out, HG1.out⟩

set_option maxHeartbeats 800000 in
theorem l1New_any (a : Option Addr) (n c : Nat) (zs : List Int) (w : World) (hr : RdB w a n zs) (hn : n ≤ 1048576) (hlt : 0 < n → ∀ x, a = some x → x.block < w.heap.size) :
 Calls Try.prog 50 #[.slice a n c] w fun e w' => e = .returned (.pointer (some ⟨w.heap.size, 0, none⟩)) ∧ Cur w' w.heap.size a n c zs ∧ Below w.heap.size w w' := by
 have HLT := hide hlt
 clear hlt
 go_enter Try.func50, Try.ntmps50
 go_wp2
 go_loop [3, 4] (fun h i => ∃ (k : Nat) (hv : Int), k ≤ n ∧ k ≤ 4000 ∧ i = .int .i64 (k : Int) ∧ h = .int .i64 hv) (fun _ i => n - (intOf i).toNat)
 case atStart => exact ⟨0, _, Nat.zero_le _, by omega, rfl, rfl⟩
 case round =>
  obtain ⟨k, hv, hk, hk4, rfl, rfl⟩ := hrel
  by_cases hend : k < n ∧ k < 4000
  · obtain ⟨h1, h2⟩ := hend
    obtain ⟨b, off, rfl, hcell, hv0, hv1⟩ := hr.2 k h1
    generalize zs.getD k 0 = v at *
    have t1 : (k : Int) < (n : Int) := by omega
    have t2 : (k : Int) < 4000 := by omega
    go_wp2
    go_round
    case rel => exact ⟨k + 1, _, by omega, by omega, by go_num, rfl⟩
    case measure => simp [intOf]; omega
  · have hfin : ∀ hv : Int, Cur (w.alloc (.cells #[.slice a n c, .int .i64 0, .int .i64 hv] 83)) w.heap.size a n c zs := fun hv =>
     ⟨⟨0, hv, Int.le_refl _, by omega, heap_alloc_new w _⟩, hr.mono ((Below.refl _ _).alloc (Nat.le_refl _) _), fun h x hx => by have := HLT.out h x hx; omega, hn⟩
    have HFIN := hide hfin
    clear hfin
    by_cases h1 : k < n
    · have h2 : ¬ k < 4000 := fun h => hend ⟨h1, h⟩
      have t1 : (k : Int) < (n : Int) := by omega
      have t2 : ¬ (k : Int) < 4000 := by omega
      go_wp2
      go_ret
      exact ⟨rfl, HFIN.out _, (Below.refl _ _).alloc (Nat.le_refl _) _⟩
    · have t1 : ¬ (k : Int) < (n : Int) := by omega
      go_wp2
      go_ret
      exact ⟨rfl, HFIN.out _, (Below.refl _ _).alloc (Nat.le_refl _) _⟩
end Go.Proofs.Ytcblpoeeembniaa
