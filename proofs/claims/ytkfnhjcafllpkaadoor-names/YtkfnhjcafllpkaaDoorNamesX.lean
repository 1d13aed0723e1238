/-
  prekeyslaw.Names: the walk.
-/
import Derived.Test.YtkfnhjcafllpkaaDoorNamesV
namespace Go.Proofs.YtkfnhjcafllpkaaDoor
open Go.RowKit Go.Extern.Stop Go.Stop Go.Extern

set_option maxRecDepth 100000 in
set_option maxHeartbeats 4000000 in
theorem names_calls (B : Nat) (a : Nat → Addr) (w : World) (hR : Reasons B a w) (hT : Texts a w) :
    Calls Tryd.prog 3 #[] w fun e w' => e = .returned (.bool true) ∧ Below w.heap.size w w' := by
  have HR : Hid (Reasons B a w) := hR
  have HT : Hid (Texts a w) := hT
  clear hR hT
  go_enter Tryd.func3, Tryd.ntmps3
  go_wp2
  go_loopw [1] (fun i W => ∃ j : Nat, j ≤ 9 ∧ i = .int .i64 j ∧ Below w.heap.size w W) (fun i _ => 9 - (intOf i).toNat)
  case atStart => exact ⟨0, by omega, rfl, Below.refl _ _⟩
  case round =>
    obtain ⟨j, hj, rfl, hb⟩ := hrel
    have later : ∀ W, Below w.heap.size w W → Reasons B a W ∧ Texts a W := fun W h => ⟨HR.out.below (h.mono HR.out.size), fun q hq => by
      obtain ⟨s, h1, h2, h3⟩ := HT.out q hq
      exact ⟨s, by rw [h.cell (Nat.lt_of_lt_of_le (HR.out.low q hq) HR.out.size)]; exact h1, h2, h3⟩⟩
    have HL : Hid (∀ W, Below w.heap.size w W → Reasons B a W ∧ Texts a W) := later
    have HB : Hid (Below w.heap.size w wr) := hb
    clear later hb
    by_cases hlt : j < 9
    · have e1 : ((j : Int) + 1 != (j : Int) + 1) = false := by simp
      go_wp2_with fail
      refine (reason_bare B a _ (HL.out _ HB.out).1 (HL.out _ HB.out).2 j hlt).mono ?_
      rintro e w1 ⟨rfl, hb1⟩
      have HB1 : Hid (Below w.heap.size w w1) := HB.out.trans (hb1.mono HB.out.size)
      clear hb1
      go_wp2_with fail
      refine (reason_wrapped B a _ (HL.out _ HB1.out).1 (HL.out _ HB1.out).2 j hlt).mono ?_
      rintro e w2 ⟨rfl, hb2⟩
      have HB2 : Hid (Below w.heap.size w w2) := HB1.out.trans (hb2.mono HB1.out.size)
      clear hb2
      go_wp2
      go_roundw
      case rel => exact ⟨j + 1, by omega, by go_num, HB2.out⟩
      case measure => simp [intOf]; omega
    · go_wp2
      go_ret
      exact ⟨rfl, HB.out⟩
end Go.Proofs.YtkfnhjcafllpkaaDoor
