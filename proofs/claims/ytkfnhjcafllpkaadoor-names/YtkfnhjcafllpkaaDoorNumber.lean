/-
  plain.number over this program: nil, a reason, a *Fault that wraps a reason.
-/
import Derived.Test.YtkfnhjcafllpkaaDoorErrsAsW
namespace Go.Proofs.YtkfnhjcafllpkaaDoor
open Go.RowKit Go.Extern.Stop Go.Stop Go.Extern

/-- The nine reasons lie below B: variable k holds the pointer a k; no two alike; errors.errorType is laid. -/
structure Reasons (B : Nat) (a : Nat → Addr) (w : World) : Prop where
  var : ∀ k, k < 9 → w.cell? ⟨k, 0, none⟩ = some (.iface 66 (.pointer (some (a k))))
  low : ∀ k, k < 9 → (a k).block < B
  ne : ∀ i j, i < 9 → j < 9 → i ≠ j → a i ≠ a j
  row : ∀ k, k < 9 → ∃ c t, w.heap[(a k).block]? = some (.cells c t (0, 0))
  ty : w.cell? ⟨9, 0, none⟩ = some (.iface 52 (.agg #[.pointer (some ⟨13, 26, none⟩)]))
  own : 9 < B
  size : B ≤ w.heap.size

theorem Reasons.below {B : Nat} {a : Nat → Addr} {w w' : World} (h : Reasons B a w) (hb : Below B w w') : Reasons B a w' := by
  have ho := h.own
  refine ⟨fun k hk => ?_, h.low, h.ne, fun k hk => ?_, ?_, h.own, Nat.le_trans h.size hb.size⟩
  · rw [hb.cell (p := ⟨k, 0, none⟩) (by show k < B; omega)]; exact h.var k hk
  · obtain ⟨c, t, e⟩ := h.row k hk
    exact ⟨c, t, by rw [hb.block _ (h.low k hk)]; exact e⟩
  · rw [hb.cell (p := ⟨9, 0, none⟩) (by show 9 < B; omega)]; exact h.ty

theorem ret_pair {a b c d : Value} (h : a = c) (k : b = d) : Ending.returned (.tuple #[a, b]) = .returned (.tuple #[c, d]) := by rw [h, k]

set_option maxRecDepth 100000 in
theorem number_nil (w : World) : Calls Tryd.prog 5 #[.nilIface] w fun e w' => e = .returned (.tuple #[.int .i64 0, .int .i64 (-1)]) ∧ w' = w := by
  go_enter Tryd.func5, Tryd.ntmps5
  go_wp2
  go_ret2
  exact ⟨rfl, rfl⟩

set_option maxRecDepth 100000 in
set_option maxHeartbeats 2000000 in
theorem number_reason (B : Nat) (a : Nat → Addr) (w : World) (hR : Reasons B a w) (k : Nat) (hk : k < 9) :
    Calls Tryd.prog 5 #[.iface 66 (.pointer (some (a k)))] w fun e w' => e = .returned (.tuple #[.int .i64 ((k : Int) + 1), .int .i64 (-1)]) ∧ Below w.heap.size w w' := by
  have HR : Hid (Reasons B a w) := hR
  have g0 := hR.var 0 (by omega)
  have g1 := hR.var 1 (by omega)
  have g2 := hR.var 2 (by omega)
  have g3 := hR.var 3 (by omega)
  have g4 := hR.var 4 (by omega)
  have g5 := hR.var 5 (by omega)
  have g6 := hR.var 6 (by omega)
  have g7 := hR.var 7 (by omega)
  have g8 := hR.var 8 (by omega)
  clear hR
  go_enter Tryd.func5, Tryd.ntmps5
  go_wp2
  go_loopw [4, 21] (fun n i W => ∃ j : Nat, j ≤ 9 ∧ i = .int .i64 j ∧ n = .int .i64 (if k < j then (k : Int) + 1 else 0) ∧ Below w.heap.size w W ∧ ∀ q, q < 9 → W.cell? ⟨w.heap.size, q, none⟩ = some (.iface 66 (.pointer (some (a q))))) (fun _ i _ => 9 - (intOf i).toNat)
  case atStart =>
    refine ⟨0, by omega, rfl, by simp, (Below.refl _ _).alloc (Nat.le_refl _) _, fun q hq => ?_⟩
    have hq' : q = 0 ∨ q = 1 ∨ q = 2 ∨ q = 3 ∨ q = 4 ∨ q = 5 ∨ q = 6 ∨ q = 7 ∨ q = 8 := by omega
    rcases hq' with rfl | rfl | rfl | rfl | rfl | rfl | rfl | rfl | rfl <;> simp
  case round =>
    obtain ⟨j, hj, rfl, rfl, hb, hcell⟩ := hrel
    clear g0 g1 g2 g3 g4 g5 g6 g7 g8
    have hRr := HR.out.below (hb.mono HR.out.size)
    have HRr : Hid (Reasons B a wr) := hRr
    by_cases hlt : j < 9
    · have hc := hcell j hlt
      have HC : Hid (∀ q, q < 9 → wr.cell? ⟨w.heap.size, q, none⟩ = some (.iface 66 (.pointer (some (a q))))) := hcell
      clear hcell hRr
      by_cases hjk : j = k
      · subst hjk
        rw [if_neg (Nat.lt_irrefl j)]
        go_wp2_with (go_at_call 6; refine (is_same (a j) _).mono ?_; rintro e w' ⟨rfl, rfl⟩)
        go_roundw
        case rel => exact ⟨j + 1, by omega, by go_num, by rw [if_pos (by omega)], hb, HC.out⟩
        case measure => simp [intOf]; omega
      · obtain ⟨ca, ta, hra⟩ := HRr.out.row k hk
        obtain ⟨cb, tb, hrb⟩ := HRr.out.row j hlt
        have hne := HRr.out.ne k j hk hlt (fun h => hjk h.symm)
        have HX : Hid (Calls Tryd.prog 6 #[.iface 66 (.pointer (some (a k))), .iface 66 (.pointer (some (a j)))] wr fun e w' => e = .returned (.bool false) ∧ w' = wr) := is_other (a k) (a j) ca cb ta tb wr hne hra hrb
        clear hra hrb hne
        have hjn : (if k < j + 1 then (k : Int) + 1 else 0) = if k < j then (k : Int) + 1 else 0 := by
          by_cases h : k < j
          · rw [if_pos h, if_pos (by omega)]
          · rw [if_neg h, if_neg (by omega)]
        have HJ := (show Hid _ from hjn)
        clear hjn
        generalize (if k < j then (k : Int) + 1 else 0) = n0 at HJ ⊢
        go_wp2_with (go_at_call 6; refine HX.out.mono ?_; rintro e w' ⟨rfl, rfl⟩)
        go_roundw
        case rel => exact ⟨j + 1, by omega, by go_num, by rw [HJ.out], hb, HC.out⟩
        case measure => simp [intOf]; omega
    · rw [if_pos (by omega)]
      have hg := hRr.ty
      have hz : ((k : Int) + 1 == 0) = false := by rw [beq_eq_false_iff_ne]; omega
      have hsz := hb.size
      have hgl : 9 < wr.heap.size := by have := hRr.own; have := hRr.size; omega
      have hg2 : (wr.alloc (.cells #[.pointer none] 28)).cell? ⟨9, 0, none⟩ = some (.iface 52 (.agg #[.pointer (some ⟨13, 26, none⟩)])) := by
        rw [World.cell?_alloc_lt _ _ ⟨9, 0, none⟩ hgl]; exact hg
      clear hcell hRr
      go_wp2_with (go_at_call 7; refine (as_miss (a k) ⟨wr.heap.size, 0, none⟩ _ hg2).mono ?_; rintro e w' ⟨rfl, rfl⟩)
      go_ret2
      exact ⟨rfl, ((((hb.alloc hsz _).alloc (by simp; omega) _).alloc (by simp; omega) _).alloc (by simp; omega) _)⟩
end Go.Proofs.YtkfnhjcafllpkaaDoor
