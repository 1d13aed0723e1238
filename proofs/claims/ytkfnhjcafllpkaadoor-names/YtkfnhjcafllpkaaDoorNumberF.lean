/-
  plain.number over this program: a *Fault that wraps a reason.
-/
import Derived.Test.YtkfnhjcafllpkaaDoorNumber
import Derived.Deep.QuietTactic
import Derived.BigQuiet
namespace Go.Proofs.YtkfnhjcafllpkaaDoor
open Go.RowKit Go.Extern.Stop Go.Stop Go.Extern

theorem below_drewN {B : Nat} {a w : World} (h : Below B a w) (n : Nat) : Below B a (w.drewN n) := ⟨h.os, h.tape, h.output, h.size, h.block⟩

set_option maxRecDepth 100000 in
set_option maxHeartbeats 2000000 in
theorem number_fault (B : Nat) (a : Nat → Addr) (w : World) (hR : Reasons B a w) (k : Nat) (hk : k < 9) (pb po : Nat) (m : Int) (hpb : pb < w.heap.size)
    (f0 : w.cell? ⟨pb, po, none⟩ = some (.int .i64 m)) (f1 : w.cell? ⟨pb, po + 1, none⟩ = some (.iface 66 (.pointer (some (a k))))) :
    Calls Tryd.prog 5 #[.iface 28 (.pointer (some ⟨pb, po, none⟩))] w fun e w' => e = .returned (.tuple #[.int .i64 ((k : Int) + 1), .int .i64 m]) ∧ Below w.heap.size w w' := by
  have HR : Hid (Reasons B a w) := hR
  have g0 := hR.var 0 (by omega)
  have g1 := hR.var 1 (by omega)
  have g2 := hR.var 2 (by omega)
  have g3 := hR.var 3 (by omega)
  have g4 := hR.var 4 (by omega)
  have g5 := hR.var 5 (by omega)
  have g6 := hR.var 6 (by omega)
  have g7 := hR.var 7 (by omega)
  have g8 := hR.var 8 (by omega)
  have HF0 : Hid (w.cell? ⟨pb, po, none⟩ = some (.int .i64 m)) := f0
  have HF1 : Hid (w.cell? ⟨pb, po + 1, none⟩ = some (.iface 66 (.pointer (some (a k))))) := f1
  clear hR f0 f1
  go_enter Tryd.func5, Tryd.ntmps5
  go_wp2
  go_loopw [4, 21] (fun n i W => ∃ j : Nat, j ≤ 9 ∧ i = .int .i64 j ∧ n = .int .i64 (if k < j then (k : Int) + 1 else 0) ∧ Below w.heap.size w W ∧ ∀ q, q < 9 → W.cell? ⟨w.heap.size, q, none⟩ = some (.iface 66 (.pointer (some (a q))))) (fun _ i _ => 9 - (intOf i).toNat)
  case atStart =>
    refine ⟨0, by omega, rfl, by simp, (Below.refl _ _).alloc (Nat.le_refl _) _, fun q hq => ?_⟩
    have hq' : q = 0 ∨ q = 1 ∨ q = 2 ∨ q = 3 ∨ q = 4 ∨ q = 5 ∨ q = 6 ∨ q = 7 ∨ q = 8 := by omega
    rcases hq' with rfl | rfl | rfl | rfl | rfl | rfl | rfl | rfl | rfl <;> simp
  case round =>
    obtain ⟨j, hj, rfl, rfl, hb, hcell⟩ := hrel
    clear g0 g1 g2 g3 g4 g5 g6 g7 g8
    have hRr := HR.out.below (hb.mono HR.out.size)
    have HRr : Hid (Reasons B a wr) := hRr
    have f0 : wr.cell? ⟨pb, po, none⟩ = some (.int .i64 m) := by rw [hb.cell (p := ⟨pb, po, none⟩) hpb]; exact HF0.out
    have f1 : wr.cell? ⟨pb, po + 1, none⟩ = some (.iface 66 (.pointer (some (a k)))) := by rw [hb.cell (p := ⟨pb, po + 1, none⟩) hpb]; exact HF1.out
    by_cases hlt : j < 9
    · have hc := hcell j hlt
      have HC : Hid (∀ q, q < 9 → wr.cell? ⟨w.heap.size, q, none⟩ = some (.iface 66 (.pointer (some (a q))))) := hcell
      clear hcell hRr
      by_cases hjk : j = k
      · subst hjk
        have HX : Hid (Calls Tryd.prog 6 #[.iface 28 (.pointer (some ⟨pb, po, none⟩)), .iface 66 (.pointer (some (a j)))] wr fun e w' => e = .returned (.bool true) ∧ w' = wr) := is_wrap_same pb po (a j) wr f1
        clear f0 f1
        rw [if_neg (Nat.lt_irrefl j)]
        go_wp2_with (go_at_call 6; refine HX.out.mono ?_; rintro e w' ⟨rfl, rfl⟩)
        go_roundw
        case rel => exact ⟨j + 1, by omega, by go_num, by rw [if_pos (by omega)], hb, HC.out⟩
        case measure => simp [intOf]; omega
      · obtain ⟨ca, ta, hra⟩ := HRr.out.row k hk
        obtain ⟨cb, tb, hrb⟩ := HRr.out.row j hlt
        have hne := HRr.out.ne k j hk hlt (fun h => hjk h.symm)
        have HX : Hid (Calls Tryd.prog 6 #[.iface 28 (.pointer (some ⟨pb, po, none⟩)), .iface 66 (.pointer (some (a j)))] wr fun e w' => e = .returned (.bool false) ∧ w' = wr) := is_wrap_other pb po (a j) (a k) ca cb ta tb wr f1 hne hra hrb
        clear hra hrb hne f0 f1
        have hjn : (if k < j + 1 then (k : Int) + 1 else 0) = if k < j then (k : Int) + 1 else 0 := by
          by_cases h : k < j
          · rw [if_pos h, if_pos (by omega)]
          · rw [if_neg h, if_neg (by omega)]
        have HJ := (show Hid _ from hjn)
        clear hjn
        generalize (if k < j then (k : Int) + 1 else 0) = n0 at HJ ⊢
        go_wp2_with (go_at_call 6; refine HX.out.mono ?_; rintro e w' ⟨rfl, rfl⟩)
        go_roundw
        case rel => exact ⟨j + 1, by omega, by go_num, by rw [HJ.out], hb, HC.out⟩
        case measure => simp [intOf]; omega
    · rw [if_pos (by omega)]
      have hg := hRr.ty
      have hz : ((k : Int) + 1 == 0) = false := by rw [beq_eq_false_iff_ne]; omega
      have hsz := hb.size
      have hgl : 9 < wr.heap.size := by have := hRr.own; have := hRr.size; omega
      have hg2 : (wr.alloc (.cells #[.pointer none] 28)).cell? ⟨9, 0, none⟩ = some (.iface 52 (.agg #[.pointer (some ⟨13, 26, none⟩)])) := by
        rw [World.cell?_alloc_lt _ _ ⟨9, 0, none⟩ hgl]; exact hg
      have ht2 : (wr.alloc (.cells #[.pointer none] 28)).cell? ⟨wr.heap.size, 0, none⟩ = some (.pointer none) := by simp
      have hf2 : (wr.alloc (.cells #[.pointer none] 28)).frozen? ⟨wr.heap.size, 0, none⟩ = false := by simp
      have HX : Hid (Calls Tryd.prog 7 #[.iface 28 (.pointer (some ⟨pb, po, none⟩)), .iface 36 (.pointer (some ⟨wr.heap.size, 0, none⟩))] (wr.alloc (.cells #[.pointer none] 28)) fun ev w' => ev = .returned (.bool true) ∧ Below wr.heap.size wr w' ∧ w'.cell? ⟨wr.heap.size, 0, none⟩ = some (.pointer (some ⟨pb, po, none⟩))) := by
        refine (as_hit ⟨pb, po, none⟩ ⟨wr.heap.size, 0, none⟩ (.pointer none) _ hg2 ht2 hf2).mono ?_
        rintro e w' ⟨rfl, rfl⟩
        refine ⟨rfl, ?_, ?_⟩
        · exact ((((((Below.refl _ _).alloc (Nat.le_refl _) _).alloc (by simp) _).alloc (by simp; omega) _).alloc (by simp; omega) _).alloc (by simp; omega) _).setCell (Nat.le_refl _) _
        · refine World.cell?_setCell_same _ _ _ (u := .pointer none) ?_
          rw [World.cell?_alloc_lt _ _ ⟨wr.heap.size, 0, none⟩ (by simp; omega), World.cell?_alloc_lt _ _ ⟨wr.heap.size, 0, none⟩ (by simp; omega), World.cell?_alloc_lt _ _ ⟨wr.heap.size, 0, none⟩ (by simp; omega), World.cell?_alloc_lt _ _ ⟨wr.heap.size, 0, none⟩ (by simp)]
          exact ht2
      clear hcell hRr hg hg2 ht2 hf2
      go_wp2_with (go_at_call 7; refine HX.out.mono ?_; rintro e w' ⟨rfl, hb2, hc2⟩)
      have f0' : w'.cell? ⟨pb, po, none⟩ = some (.int .i64 m) := by rw [hb2.cell (p := ⟨pb, po, none⟩) (by show pb < wr.heap.size; omega)]; exact f0
      have HB : Hid (Below wr.heap.size wr w') := hb2
      clear f0 f1 hb2
      go_quiet (fail)
      go_wp2
      go_ret2
      exact ⟨rfl, below_drewN (hb.trans (HB.out.mono hsz)) _⟩
end Go.Proofs.YtkfnhjcafllpkaaDoor
