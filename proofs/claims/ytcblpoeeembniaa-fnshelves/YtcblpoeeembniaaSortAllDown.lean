/- The library's stable sort of places by keys (Down): symMerge at every length, then the whole. -/
import Derived.Test.YtcblpoeeembniaaSortInsDown
import Derived.Test.YtcblpoeeembniaaSortSymADown
import Derived.Test.YtcblpoeeembniaaSortSymBDown
import Derived.Test.YtcblpoeeembniaaSortSymCADown
import Derived.Test.YtcblpoeeembniaaSortSymCBDown
import Derived.Test.YtcblpoeeembniaaSortBlocks
namespace Go.Proofs.Ytcblpoeeembniaa
open Go.RowKit

theorem symDown_all (base g n cap bx : Nat) (ak : Option Addr) (nk ck : Nat) (keys : List Int) (hbx : bx ≠ g) (hak : ∀ x, ak = some x → x.block ≠ g) (hn : n ≤ 1048576) : ∀ N, SymSaidDown base g n cap bx ak nk ck keys N
 | 0 => fun P L R Q A M B w hN hL hR => by omega
 | N + 1 => fun P L R Q A M B w hN hL hR hA hM hB hown hk hLs hRs hLR hin => by
  have ih := symDown_all base g n cap bx ak nk ck keys hbx hak hn N
  by_cases h1 : L.length = 1
  · obtain ⟨x, rfl⟩ := List.length_eq_one_iff.1 h1
    exact symLeftDown base g n cap bx ak nk ck keys P R Q x A M B w hA (by simpa using hM) (by simpa using hB) hR hown hk hbx hak hRs (fun y hy => hLR x (by simp) y hy) (fun p hp => hin p (List.mem_append_right _ hp)) (hin x (by simp)) hn
  · by_cases h2 : R.length = 1
    · obtain ⟨y, rfl⟩ := List.length_eq_one_iff.1 h2
      exact symRightDown base g n cap bx ak nk ck keys P L Q y A M B w hA hM (by simpa using hB) (by omega) hown hk hbx hak hLs (fun x hx => hLR x hx y (by simp)) (fun p hp => hin p (List.mem_append_left _ hp)) (hin y (by simp)) hn
    · have eA : A = ((P.length : Nat) : Int) := hA
      have eM : M = ((P.length + L.length : Nat) : Int) := by omega
      have eB : B = ((P.length + L.length + R.length : Nat) : Int) := by omega
      rw [eA, eM, eB]
      by_cases hmm : (P.length + (P.length + L.length + R.length)) / 2 < P.length + L.length
      · exact symStepDownA base g n cap bx ak nk ck keys N ih hbx hak hn P L R Q _ _ _ _ w hN rfl rfl rfl (by omega) (by omega) rfl hmm hown hk hLs hRs hLR hin
      · exact symStepDownB base g n cap bx ak nk ck keys N ih hbx hak hn P L R Q _ _ _ _ w hN rfl rfl rfl (by omega) (by omega) rfl hmm hown hk hLs hRs hLR hin

set_option maxHeartbeats 400000 in
/-- The insertion sort over nothing. -/
theorem insNoneDown (g n cap : Nat) (A B : Int) (fv : Value) (w : World) (h : B ≤ A) (hA : 0 ≤ A) (hA1 : A ≤ 1048576) :
 Calls Try.prog 71 #[.slice (some ⟨g, 0, none⟩) n cap, .int .i64 A, .int .i64 B, fv] w fun e w' => e = .returned (.tuple #[]) ∧ w' = w := by
 have h1 : ¬ A + 1 < B := by omega
 go_enter Try.func71, Try.ntmps71
 go_wp2
 refine wp_loop_rounds 1 ?_
 rw [rounds_succ]
 go_wp2
 go_end0
 exact ⟨rfl, rfl⟩

/-- One piece of the row sorted by insertion, by its places. -/
theorem insSegDown (base g n cap bx : Nat) (ak : Option Addr) (ck : Nat) (keys : List Int) (D : List Nat) (x y : Nat) (A B : Int) (w : World) (hA : A = x) (hB : B = y) (hxy : x ≤ y) (hyn : y ≤ n) (hl : D.length = n)
 (hown : w.ownsRow base 3 1 (.slice (some ⟨g, 0, none⟩) n cap) n (cellsN D)) (hk : Keys w bx ak n ck keys) (hbx : bx ≠ g) (hak : ∀ x, ak = some x → x.block ≠ g) (hD : seg D x y = List.range' x (y - x)) (hn : n ≤ 1048576) :
 Calls Try.prog 71 #[.slice (some ⟨g, 0, none⟩) n cap, .int .i64 A, .int .i64 B, .func (Fn.func 66) #[] #[.pointer (some ⟨bx, 0, none⟩)]] w fun e w' =>
  e = .returned (.tuple #[]) ∧ ∃ M, M.Perm (List.range' x (y - x)) ∧ M.Pairwise (bef keys true) ∧ w'.ownsRow base 3 1 (.slice (some ⟨g, 0, none⟩) n cap) n (cellsN (put D x y M)) ∧ w.grownBy w' (some g) := by
 have hx : (D.take x).length = x := by rw [List.length_take]; omega
 have hs : (seg D x y).length = y - x := seg_len D x y hxy (by omega)
 by_cases he : x = y
 · refine (insNoneDown g n cap A B _ w (by omega) (by omega) (by omega)).mono ?_
   rintro e w' ⟨rfl, rfl⟩
   refine ⟨rfl, [], ?_, List.Pairwise.nil, ?_, World.grownBy.refl _ _⟩
   · have : y - x = 0 := by omega
     rw [this]; exact List.Perm.refl _
   · subst he
     unfold put
     rw [List.append_nil, List.take_append_drop]
     exact hown
 · refine (insDown_any base g n cap bx ak n ck keys (D.take x) (seg D x y) (D.drop y) A B w (by rw [hx]; exact hA) (by rw [hx, hs]; omega) (by omega) (by rw [← cut3 D x y hxy]; exact hown) hk hbx hak (by rw [hD]; exact range_lt _ _) ?_ hn).mono ?_
   · intro p hp
     rw [hD] at hp
     have := mem_rng hp
     omega
   · rintro e w' ⟨rfl, M, hp, hs2, ho, hg⟩
     rw [hD] at hp
     exact ⟨rfl, M, hp, hs2, ho, hg⟩

/-- Two sorted pieces side by side merged. -/
theorem symSegDown (base g n cap bx : Nat) (ak : Option Addr) (ck : Nat) (keys : List Int) (D : List Nat) (x y z : Nat) (A M B : Int) (w : World) (hA : A = x) (hM : M = y) (hB : B = z) (hxy : x < y) (hyz : y < z) (hzn : z ≤ n) (hl : D.length = n)
 (hown : w.ownsRow base 3 1 (.slice (some ⟨g, 0, none⟩) n cap) n (cellsN D)) (hk : Keys w bx ak n ck keys) (hbx : bx ≠ g) (hak : ∀ x, ak = some x → x.block ≠ g) (h1 : Srt keys true D x y) (h2 : Srt keys true D y z) (hn : n ≤ 1048576) :
 Calls Try.prog 72 #[.slice (some ⟨g, 0, none⟩) n cap, .int .i64 A, .int .i64 M, .int .i64 B, .func (Fn.func 66) #[] #[.pointer (some ⟨bx, 0, none⟩)]] w fun e w' =>
  e = .returned (.tuple #[]) ∧ ∃ M, M.Perm (List.range' x (z - x)) ∧ M.Pairwise (bef keys true) ∧ w'.ownsRow base 3 1 (.slice (some ⟨g, 0, none⟩) n cap) n (cellsN (put D x z M)) ∧ w.grownBy w' (some g) := by
 have hx : (D.take x).length = x := by rw [List.length_take]; omega
 have hs1 : (seg D x y).length = y - x := seg_len D x y (by omega) (by omega)
 have hs2 : (seg D y z).length = z - y := seg_len D y z (by omega) (by omega)
 refine (symDown_all base g n cap bx ak n ck keys hbx hak hn ((seg D x y).length + (seg D y z).length) (D.take x) (seg D x y) (seg D y z) (D.drop z) A M B w (Nat.le_refl _) (by omega) (by omega) (by rw [hx]; exact hA) (by rw [hx, hs1]; omega) (by rw [hx, hs1, hs2]; omega) (by rw [← cut4 D x y z (by omega) (by omega)]; exact hown) hk h1.1 h2.1 ?_ ?_).mono ?_
 · intro p hp q hq
   have := srt_mem h1 hp
   have := srt_mem h2 hq
   omega
 · intro p hp
   rcases List.mem_append.1 hp with hp | hp
   · have := srt_mem h1 hp; omega
   · have := srt_mem h2 hp; omega
 · rintro e w' ⟨rfl, M', hp, hs, ho, hg⟩
   exact ⟨rfl, M', merged (by omega) (by omega) h1 h2 hp, hs, ho, hg⟩
end Go.Proofs.Ytcblpoeeembniaa
