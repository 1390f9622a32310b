/- Next fit of the program. -/
import Derived.Test.YtphdeojiehigpaaGreatDoorPutFrom
import Derived.Deep.DeepMust
import Derived.Deep.DeepCutAuto
namespace Go.Proofs.YtphdeojiehigpaaGreatDoor
open Go Go.RowKit
set_option linter.unusedVariables false
set_option linter.unusedSimpArgs false

theorem ci_snoc (l : List Int) (x : Int) : ci (l ++ [x]) = ci l ++ [.int .i64 x] := by simp [ci]
set_option maxHeartbeats 2000000 in
theorem there_any (xs : List ItemV) (Bk N ecap : Nat) (ea : Option Addr) (c1 c2 c3 c4 : Value) (a : Option Addr) (n c : Nat) (us : List Int) (w : World) (hk : Blk w Bk [.slice ea N ecap, c1, c2, c3, c4]) (hbk : Bk < w.heap.size) (hN : N = (unitsL xs).length) (hN12 : N ≤ 1000) (hu : Rd w a n us) (hn : n ≤ 1048600) :
    Calls Tryz.prog 142 #[.pointer (some ⟨Bk, 0, none⟩), .slice a n c] w fun e w' => ∃ g cap, e = .returned (.slice (some ⟨g, 0, none⟩) (knownL xs us).length cap) ∧ w'.ownsRow w.heap.size 3 1 (.slice (some ⟨g, 0, none⟩) (knownL xs us).length cap) (knownL xs us).length (ci (knownL xs us)) ∧ Below w.heap.size w w' := by
  obtain ⟨i0, hi, hz0, hz1, hz2⟩ := info_parts Tryz.infoInts
  have HK := hide hk
  have HU := hide hu
  have HN := hide hN
  clear hk hu hN
  go_enter Tryz.func142, Tryz.ntmps142
  go_wp2
  have O1 := hide (own_lit0 (e := 3) (size := 1) w (Nat.le_refl _))
  have B1 : Hid (Below w.heap.size w (w.alloc (.cells #[] 3))) := (Below.refl _ _).alloc (Nat.le_refl _) _
  generalize (w.alloc (.cells #[] 3)) = w1 at *
  go_loopw [5, 11] (fun o i wr => ∃ (k g cap m : Nat), k ≤ n ∧ i = .int .i64 k ∧ m = (knownTo xs us k).length ∧ o = .slice (some ⟨g, 0, none⟩) m cap ∧ wr.ownsRow w.heap.size 3 1 (.slice (some ⟨g, 0, none⟩) m cap) m (ci (knownTo xs us k)) ∧ Below w.heap.size w wr) (fun _ i _ => n - (intOf i).toNat)
  case atStart => exact ⟨0, w.heap.size, 0, 0, Nat.zero_le _, rfl, rfl, rfl, unhide O1, unhide B1⟩
  case round =>
    clear O1 B1
    obtain ⟨k, g, cap, m, hk, rfl, hm, rfl, hown, hbel⟩ := hrel
    have HM := hide hm
    have HO := hide hown
    have HB := hide hbel
    by_cases hlk : k < n
    case neg =>
      have HE : Hid (knownTo xs us k = knownL xs us) := knownTo_all (by rw [(unhide HU).1]; omega)
      clear hm hown hbel
      go_wp2
      go_ret
      have e := unhide HE
      have hm := unhide HM
      rw [e] at hm
      subst hm
      exact ⟨g, cap, rfl, by have := unhide HO; rwa [e] at this, unhide HB⟩
    obtain ⟨b, off, hua, hc⟩ := ((unhide HU).mono hbel).2 k hlk
    have hku : k < us.length := by rw [(unhide HU).1]; exact hlk
    have HHIT := hide (knownTo_hit (xs := xs) hku)
    have HMIS := hide (knownTo_miss (xs := xs) hku)
    have hmk : m ≤ 1048600 := by have := (knownTo_len xs us k).1; omega
    generalize us.getD k 0 = x at hc HHIT HMIS
    subst hua
    have c0 : wr.cell? ⟨Bk, 0, none⟩ = some (.slice ea N ecap) := (hbel.cell (p := ⟨Bk, 0, none⟩) hbk).trans ((unhide HK) 0 (by simp)).1
    have hgl := (hown.lt g rfl)
    have hz : w.heap.size ≤ wr.heap.size := hbel.size
    clear hm hown hbel
    go_wp2_with fail
    refine (within_any _ _ _ _).mono ?_
    rintro e w2 ⟨rfl, hw⟩
    subst w2
    have HKN : Hid (knownB xs x = inB x 0 ((N : Int) - 1)) := by rw [Hid, unhide HN]; rfl
    cases hkn : inB x 0 ((N : Int) - 1)
    case false =>
      have HG2 := hide ((unhide HMIS) (by rw [unhide HKN]; exact hkn))
      clear hkn
      go_wp2_with fail
      go_roundw
      case rel => exact ⟨k + 1, g, cap, m, by omega, by go_num, by rw [unhide HG2]; exact unhide HM, rfl, by rw [unhide HG2]; exact unhide HO, unhide HB⟩
      case measure => simp [intOf]; omega
    case true =>
      have HG2 := hide ((unhide HHIT) (by rw [unhide HKN]; exact hkn))
      clear hkn
      have O3 := hide ((unhide HO).alloc (.cells #[.int .i64 x] 3))
      go_wp2_with (first
        | (at_builtin; refine wpList_append_lies _ rfl _ _ 29 rfl w.heap.size 3 i0 (.int .i64 0) 1 8 Tryz.underlying29 hi hz0 hz1 hz2 rfl (by omega) (.slice (some ⟨g, 0, none⟩) m cap) m (ci (knownTo xs us k)) rfl (unhide O3) ⟨wr.heap.size, 0, none⟩ 1 1 [.int .i64 x] rfl rfl (World.news_of_block (heap_alloc_new _ _)) (by simp [Value.oneCell']) (by omega) (by unfold maxLen; omega) (by omega) (by simp; omega) (wr.heap.size + 1) (by simp) ?_; intro g3 cap3 w3 ho3 hg3 hat3 hlt3)
        | fail)
      have B4 : Hid (Below w.heap.size w w3) := ((unhide HB).alloc hz (.cells #[.int .i64 x] 3)).grown hg3 (by simp; omega) (fun q hq => by simp [Value.ownBlock] at hq; omega)
      have O4 : Hid (w3.ownsRow w.heap.size 3 1 (.slice (some ⟨g3, 0, none⟩) (m + 1) cap3) (m + 1) (ci (knownTo xs us k ++ [x]))) := by rw [ci_snoc]; exact ho3
      clear ho3 hg3 hat3 hlt3
      go_roundw
      case rel => exact ⟨k + 1, g3, cap3, m + 1, by omega, by go_num, by rw [unhide HG2, List.length_append, ← unhide HM]; rfl, rfl, by rw [unhide HG2]; exact unhide O4, unhide B4⟩
      case measure => simp [intOf]; omega

set_option maxHeartbeats 2000000 in
theorem nextFitRun_any (xs : List ItemV) (t : TypeV) (Bk eb N ecap : Nat) (a : Option Addr) (n c : Nat) (us : List Int) (w : World) (hok : PkOk xs t w.heap.size Bk eb N ecap [] w) (hu : Rd w a n us) (hub : ∀ x, a = some x → x.block < w.heap.size ∧ x.block ≠ Bk) (hin : ∀ k, k < n → ∃ v : Nat, us.getD k 0 = v ∧ v < N) (hgd : ∀ q ∈ xs, 1 ≤ q.gram ∧ q.gram ≤ 100000) (hn : n ≤ 1048590) :
    Calls Tryz.prog 140 #[.pointer (some ⟨Bk, 0, none⟩), .slice a n c] w fun e w' => e = .returned (.tuple #[]) ∧ PkOk xs t w.heap.size Bk eb N ecap (nextTo (roomB xs t) us n) w' ∧ Fr w.heap.size Bk w w' := by
  have HOK := hide hok
  have HU := hide hu
  clear hok hu
  go_enter Tryz.func140, Tryz.ntmps140
  go_wp2
  go_loopw [8] (fun i wr => ∃ k : Nat, k ≤ n ∧ i = .int .i64 k ∧ PkOk xs t w.heap.size Bk eb N ecap (nextTo (roomB xs t) us k) wr ∧ Fr w.heap.size Bk w wr) (fun i _ => n - (intOf i).toNat)
  case atStart => exact ⟨0, Nat.zero_le _, rfl, unhide HOK, Fr.refl _ _ _⟩
  case round =>
    clear HOK
    obtain ⟨k, hk, rfl, hpk, hfr⟩ := hrel
    have HP := hide hpk
    have HF := hide hfr
    by_cases hlk : k < n
    case neg =>
      obtain rfl : k = n := by omega
      clear hpk hfr
      go_wp2
      first | go_end0 | refine bodyPost_ret (results_none rfl _ _ _) rfl ?_
      exact ⟨rfl, unhide HP, unhide HF⟩
    obtain ⟨b, off, hua, hc⟩ := ((unhide HU).fr hfr hub).2 k hlk
    have hku : k < us.length := by rw [(unhide HU).1]; exact hlk
    obtain ⟨v, hv, hvN⟩ := hin k hlk
    have HST := hide (nextTo_step (roomB xs t) us k hku)
    have htt := nextTo_tot (roomB xs t) us k (by omega)
    rw [hv] at HST hc
    subst hua
    generalize nextTo (roomB xs t) us k = gs at *
    obtain ⟨ca, cc, rows, c3, _, _⟩ := hpk.out
    have hg9 : gs.length ≤ 1048590 := by omega
    have ht9 : tot2 gs ≤ 1048590 := by omega
    clear hpk hfr hv
    have HNX := hide (fun p (h : FoundAt (roomB xs t) gs (v : Int) (gs.length - 1) p) => h.next)
    have HCALL := hide (fun (z : Int) (hz : z = ((gs.length - 1 : Nat) : Int)) => show Calls Tryz.prog 181 #[.pointer (some ⟨Bk, 0, none⟩), .int .i64 z, .int .i64 (v : Int)] wr _ from by subst hz; exact putFrom_any xs t w.heap.size Bk eb N ecap (gs.length - 1) v gs wr (unhide HP) (by omega) hvN hgd ht9 hg9)
    clear ht9 htt
    go_wp2_with fail
    all_goals
      refine ((unhide HCALL) _ (by omega)).mono ?_
      rintro e w2 ⟨p, rfl, hfo, hp2, hf2⟩
      have HFO := hide ((unhide HNX) p hfo)
      have HP2 := hide hp2
      have HF2 := hide ((unhide HF).trans hf2)
      clear hfo hp2 hf2 HCALL
      go_wp2_with fail
      go_roundw
      case rel => exact ⟨k + 1, by omega, by go_num, by rw [unhide HST, nextStep, unhide HFO]; exact unhide HP2, unhide HF2⟩
      case measure => simp [intOf]; omega
end Go.Proofs.YtphdeojiehigpaaGreatDoor
