/- The library's stable sort of the places by their keys (Down), and the program's sort. -/
import Derived.Test.YtcblpoeeembniaaSortAllDown
namespace Go.Proofs.Ytcblpoeeembniaa
open Go.RowKit

set_option maxRecDepth 100000 in
set_option maxHeartbeats 6400000 in
theorem stableDown_any (base g n cap bx : Nat) (ak : Option Addr) (ck : Nat) (keys : List Int) (w : World) (hown : w.ownsRow base 3 1 (.slice (some ⟨g, 0, none⟩) n cap) n (cellsN (List.range n))) (hk : Keys w bx ak n ck keys) (hbx : bx ≠ g) (hak : ∀ x, ak = some x → x.block ≠ g) (hn : n ≤ 1048576) :
 Calls Try.prog 69 #[.slice (some ⟨g, 0, none⟩) n cap, .int .i64 (n : Int), .func (Fn.func 66) #[] #[.pointer (some ⟨bx, 0, none⟩)]] w fun e w' =>
  e = .returned (.tuple #[]) ∧ w'.ownsRow base 3 1 (.slice (some ⟨g, 0, none⟩) n cap) n (cellsN (sortP keys true (List.range n))) ∧ w.grownBy w' (some g) := by
 have HK := hide hk
 have HO := hide hown
 have HS := hide (invA_start keys true n)
 clear hk hown
 go_enter Try.func69, Try.ntmps69
 go_wp2
 go_loopw [7, 8] (fun a b wr => ∃ (x : Nat) (D : List Nat), x ≤ n ∧ a = .int .i64 (x : Int) ∧ b = .int .i64 ((x : Int) + 20) ∧ InvA keys true n x D ∧ wr.ownsRow base 3 1 (.slice (some ⟨g, 0, none⟩) n cap) n (cellsN D) ∧ w.grownBy wr (some g)) (fun a _ _ => n - (intOf a).toNat)
 case atStart => exact ⟨0, List.range n, Nat.zero_le _, rfl, rfl, HS.out, HO.out, World.grownBy.refl _ _⟩
 case round =>
  obtain ⟨x, D, hxn, rfl, rfl, hinv, how, hgb⟩ := hrel
  have hkw := HK.out.grown hgb hbx hak
  have hl := hinv.1
  have HI := hide hinv
  have HW := hide how
  have HG := hide hgb
  have HKW := hide hkw
  have HL := hide hl
  clear hinv how hgb hkw hl
  by_cases hx : x + 20 ≤ n
  · have t1 : (x : Int) + 20 ≤ (n : Int) := by omega
    go_wp2_with fail
    refine (insSegDown base g n cap bx ak ck keys D x (x + 20) _ _ wr ?_ ?_ ?_ ?_ HL.out HW.out HKW.out hbx hak ?_ hn).mono ?_
    · rfl
    · omega
    · omega
    · exact hx
    · exact invA_seg HI.out hx
    rintro e w1 ⟨rfl, M, hp, hs, ho, hg⟩
    have HI1 := hide (invA_step HI.out hx hp hs)
    have HG1 := hide (gb_trans HG.out hg)
    have HO1 := hide ho
    clear hp hs ho hg
    go_wp2
    go_roundw
    case rel => exact ⟨x + 20, _, hx, by go_num, by go_num, HI1.out, HO1.out, HG1.out⟩
    case measure => simp [intOf]; omega
  · have t1 : ¬ (x : Int) + 20 ≤ (n : Int) := by omega
    go_wp2_with fail
    refine (insSegDown base g n cap bx ak ck keys D x n _ _ wr ?_ ?_ hxn (Nat.le_refl _) HL.out HW.out HKW.out hbx hak ?_ hn).mono ?_
    · rfl
    · rfl
    · exact invA_seg HI.out (Nat.le_refl _)
    rintro e w1 ⟨rfl, M, hp, hs, ho, hg⟩
    have HB1 := hide (invA_end HI.out (by omega) hp hs)
    have HG1 := hide (gb_trans HG.out hg)
    have HO1 := hide ho
    clear hp hs ho hg HI HW HG HKW HL
    go_wp2
    obtain ⟨wo, rfl⟩ : ∃ wo : World, wo = wr := ⟨_, rfl⟩
    go_loopw [6, 7, 8, 9] (fun s _ _ _ wr => ∃ (bs : Nat) (E : List Nat), 20 ≤ bs ∧ (bs = 20 ∨ bs ≤ 2 * n) ∧ s = .int .i64 (bs : Int) ∧ Blks keys true n bs E ∧ wr.ownsRow base 3 1 (.slice (some ⟨g, 0, none⟩) n cap) n (cellsN E) ∧ w.grownBy wr (some g)) (fun s _ _ _ _ => 2 * n - (intOf s).toNat)
    case atStart => exact ⟨20, _, Nat.le_refl _, Or.inl rfl, rfl, HB1.out, HO1.out, HG1.out⟩
    case round =>
     clear HB1 HG1 HO1
     obtain ⟨bs, E, hbs, hbs2, rfl, hblk, how, hgb⟩ := hrel
     have hbs3 : bs ≤ 2097152 := by omega
     have HBL := hide hblk
     have HW := hide how
     have HG := hide hgb
     have HB2 := hide hbs2
     clear hblk how hgb hbs2
     by_cases hlt : bs < n
     · have hti : (bs : Int) < (n : Int) := by omega
       obtain ⟨b2, hb2⟩ : ∃ b2 : Nat, 2 * (bs : Int) = (b2 : Int) := ⟨2 * bs, by omega⟩
       have HB3 := hide (show b2 = 2 * bs by omega)
       have hb2n : b2 ≤ 2097152 := by omega
       have hb2c : (bs : Int) * 2 = (b2 : Int) := by omega
       go_wp2
       obtain ⟨wp, rfl⟩ : ∃ wp : World, wp = wr := ⟨_, rfl⟩
       go_loopw [7, 8] (fun a b wr => ∃ (x : Nat) (F : List Nat), x ≤ n ∧ a = .int .i64 (x : Int) ∧ b = .int .i64 ((x : Int) + b2) ∧ InvB keys true n bs x F ∧ wr.ownsRow base 3 1 (.slice (some ⟨g, 0, none⟩) n cap) n (cellsN F) ∧ w.grownBy wr (some g)) (fun a _ _ => n - (intOf a).toNat)
       case atStart => exact ⟨0, E, Nat.zero_le _, rfl, by go_num, invB_start HBL.out, HW.out, HG.out⟩
       case round =>
        clear HBL HW HG
        obtain ⟨x, F, hxn', rfl, rfl, hinv, how, hgb⟩ := hrel
        have hkw := HK.out.grown hgb hbx hak
        have HI := hide hinv
        have HW := hide how
        have HG := hide hgb
        have HKW := hide hkw
        clear hinv how hgb hkw
        by_cases hx2 : x + 2 * bs ≤ n
        · have t2 : (x : Int) + b2 ≤ (n : Int) := by omega
          go_wp2_with fail
          refine (symSegDown base g n cap bx ak ck keys F x (x + bs) (x + 2 * bs) _ _ _ wr ?_ ?_ ?_ ?_ ?_ hx2 HI.out.1 HW.out HKW.out hbx hak ?_ ?_ hn).mono ?_
          · rfl
          · omega
          · have := HB3.out; omega
          · omega
          · omega
          · exact invB_one HI.out (by omega) (by omega)
          · exact invB_two HI.out (by omega) (by omega)
          rintro e w2 ⟨rfl, M, hp, hs, ho, hg⟩
          have HI1 := hide (invB_step HI.out (by omega) hx2 hp hs)
          have HG1 := hide (gb_trans HG.out hg)
          have HO1 := hide ho
          clear hp hs ho hg
          go_wp2
          go_roundw
          case rel => exact ⟨x + 2 * bs, _, hx2, by go_num, by go_num, HI1.out, HO1.out, HG1.out⟩
          case measure => simp [intOf]; omega
        · have t2 : ¬ (x : Int) + b2 ≤ (n : Int) := by omega
          by_cases hx3 : x + bs < n
          · have t3 : (x : Int) + bs < (n : Int) := by omega
            go_wp2_with fail
            refine (symSegDown base g n cap bx ak ck keys F x (x + bs) n _ _ _ wr ?_ ?_ ?_ ?_ hx3 (Nat.le_refl _) HI.out.1 HW.out HKW.out hbx hak ?_ ?_ hn).mono ?_
            · rfl
            · omega
            · rfl
            · omega
            · exact invB_one HI.out (by omega) (by omega)
            · exact invB_two HI.out hx3 (by omega)
            rintro e w2 ⟨rfl, M, hp, hs, ho, hg⟩
            have HI1 := hide (invB_merge HI.out (by omega) hp hs)
            have HG1 := hide (gb_trans HG.out hg)
            have HO1 := hide ho
            clear hp hs ho hg
            go_wp2
            go_roundw
            case rel => exact ⟨2 * bs, _, by omega, Or.inr (by omega), by go_num, HI1.out, HO1.out, HG1.out⟩
            case measure => simp [intOf]; omega
          · have t3 : ¬ (x : Int) + bs < (n : Int) := by omega
            have HI1 := hide (invB_end HI.out (by omega) (by omega))
            go_wp2
            go_roundw
            case rel => exact ⟨2 * bs, _, by omega, Or.inr (by omega), by go_num, HI1.out, HW.out, HG.out⟩
            case measure => simp [intOf]; omega
     · have hti : ¬ (bs : Int) < (n : Int) := by omega
       have he := blk_end HBL.out (by omega)
       have HE := hide he
       clear he
       go_wp2
       go_end0
       exact ⟨rfl, by rw [← HE.out]; exact HW.out, HG.out⟩
end Go.Proofs.Ytcblpoeeembniaa
