/- An append of whatever many (none too) to a slice that is not nil, at a step of a region that draws its order; rows carried past blocks. -/
import Derived.Test.YtcblpoeeembniaaRd
import Derived.Test.YtcblpoeeembniaaStructs
import Derived.Deep.AppendLies
namespace Go.Proofs.Ytcblpoeeembniaa
open Go Go.RowKit
set_option linter.unusedVariables false
set_option linter.unusedSimpArgs false

theorem step_append_some {P : Program} (w : World) {ops : Array Oper} {o : Oper} {a : Act} {K : Act → World → Prop} {Q : Exit → Act → World → Prop} {E : Prop} (hgd : o.guard = none) (s x : Operand) (t : TypeId)
 (ho : o.op = .call { callee := .builtin .append, args := #[s, x], argTypes := #[t, t] })
 (base : Nat) (e : TypeId) (i : TypeInfo) (z : Value) (size bytes : Nat) (ht : P.underlying t = some (.slice e)) (hi : P.info? e = some i) (hz : i.zero = some z)
 (hsize : i.size = size) (hby : i.bytes = bytes) (hzs : z.cells.size = size) (hsz : 0 < size)
 (v : Value) (n : Nat) (xs : List Value) (hs : a.eval s = v) (hown : w.ownsRow base e size v n xs) (hv : ¬ v = .slice none 0 0)
 (ad : Addr) (m c : Nat) (news : List Value) (hx : a.eval x = .slice (some ad) m c) (hl : news.length = m * size) (hnews : ∀ j u, news[j]? = some u → w.cell? (ad.add j) = some u) (h1 : ∀ u ∈ news, u.oneCell' = true)
 (h63 : n + m ≤ maxLen) (hbytes : (n + m) * bytes ≤ 140737488355328) (hbase : base ≤ w.heap.size)
 (h : ∀ g cap w', w'.ownsRow base e size (.slice (some ⟨g, 0, none⟩) (n + m) cap) (n + m) (xs ++ news) → w.grownBy w' v.ownBlock → (v.ownBlock = some g ∨ g = w.heap.size) → g < w'.heap.size → K (a.put o.dst (.slice (some ⟨g, 0, none⟩) (n + m) cap)) w') :
 if Region.wanted o (yielded ops a.tmps) = true then Oper.wp P o a w K Q else E := by
 have hw : Region.wanted o (yielded ops a.tmps) = true := by simp [Region.wanted, hgd]
 rw [if_pos hw]
 obtain ⟨v', w', hr, h2, h3, h4, h5⟩ := run_append_own_at (P := P) w base t o.type e i z size bytes ht hi hz hsize hby hzs hsz v n xs hown ad m c news hl hnews h1 h63 hbytes hbase
 obtain ⟨g, cap, rfl⟩ := own_shape h2 (fun e => hv (h4.1 e).1)
 have hlt := (h2.lt g rfl).2
 have hat : v.ownBlock = some g ∨ g = w.heap.size := by
  rcases h5 with h5 | h5
  · exact .inl (by rw [← h5]; rfl)
  · exact .inr (by simpa [Value.ownBlock] using h5)
 unfold Oper.wp execOp
 simp only [ho, resolve, invoke, builtin, Sem.run_bind, Sem.run_pure, Result.andThen_ok, List.map_toArray, List.map_cons, List.map_nil, hs, hx, hr]
 exact h g cap w' h2 h3 hat hlt
theorem Blk.news {w : World} {g : Nat} {cs : List Value} (h : Blk w g cs) : ∀ j u, cs[j]? = some u → w.cell? ((⟨g, 0, none⟩ : Addr).add j) = some u := fun j u hu => by
 have hadd : (⟨g, 0, none⟩ : Addr).add j = ⟨g, j, none⟩ := by unfold Addr.add; split <;> simp_all
 rw [hadd, (h j (by rcases Nat.lt_or_ge j cs.length with h1 | h1; exact h1; rw [List.getElem?_eq_none h1] at hu; cases hu)).1, hu]
theorem Rd.news {w : World} {b off n : Nat} {us : List Int} (h : Rd w (some ⟨b, off, none⟩) n us) : ∀ j u, (us.map (Value.int .i64))[j]? = some u → w.cell? ((⟨b, off, none⟩ : Addr).add j) = some u := fun j u hu => by
 have hadd : (⟨b, off, none⟩ : Addr).add j = ⟨b, off + j, none⟩ := by unfold Addr.add; split <;> simp_all
 have hj : j < us.length := by rcases Nat.lt_or_ge j us.length with h1 | h1; exact h1; rw [List.getElem?_eq_none (by simpa using h1)] at hu; cases hu
 obtain ⟨b', off', e, hc⟩ := h.2 j (by rw [← h.1]; exact hj)
 injection e with e
 injection e with e1 e2
 subst e1 e2
 rw [getD_map_int us j hj] at hu
 rw [hadd, hc, ← hu]
theorem Rd.news_len {w : World} {a : Option Addr} {n : Nat} {us : List Int} (h : Rd w a n us) : (us.map (Value.int .i64)).length = n * 1 := by rw [List.length_map, h.1, Nat.mul_one]
theorem news_one (us : List Int) : ∀ u ∈ us.map (Value.int .i64), u.oneCell' = true := fun u hu => by
 obtain ⟨x, _, rfl⟩ := List.mem_map.1 hu
 rfl
theorem wrap_fits {x : Int} (h0 : -9223372036854775808 ≤ x) (h1 : x ≤ 9223372036854775807) : IntKind.i64.wrap x = x := by
 rw [IntKind.wrap_i64]; omega
theorem ne_new {b g g1 H : Nat} (hat : some g = some g1 ∨ g1 = H) (hne : b ≠ g) (hlt : b < H) : b ≠ g1 := by
 rcases hat with h | h
 · injection h with h; omega
 · omega
theorem _root_.Go.RowKit.Below.drewsN {B : Nat} {w w' : World} (h : Below B w w') (n : Nat) : Below B w (w'.drewN n) := ⟨h.os, h.tape, h.output, h.size, h.block⟩
theorem lt_alloc {w : World} {b : Nat} (h : b < w.heap.size) (o : Obj) : b < (w.alloc o).heap.size := by simp; omega
theorem lt_alloc_new (w : World) (o : Obj) : w.heap.size < (w.alloc o).heap.size := by simp
theorem own_lit0 (w : World) {B : Nat} {e : TypeId} {size : Nat} (hB : B ≤ w.heap.size) : (w.alloc (.cells #[] e)).ownsRow B e size (.slice (some ⟨w.heap.size, 0, none⟩) 0 0) 0 [] := World.ownsRow_lit w #[] 0 hB (Nat.zero_le _) (by simp)
end Go.Proofs.Ytcblpoeeembniaa
