/-
  plain.Reason, wrapped.
-/
import Derived.Test.YtkfnhjcafllpkaaDoorNamesW
namespace Go.Proofs.YtkfnhjcafllpkaaDoor
open Go.RowKit Go.Extern.Stop Go.Stop Go.Extern

set_option maxRecDepth 100000 in
set_option maxHeartbeats 8000000 in
theorem reason_wrapped (B : Nat) (a : Nat → Addr) (w : World) (hR : Reasons B a w) (hT : Texts a w) (k : Nat) (hk : k < 9) :
    Calls Tryd.prog 4 #[.int .i64 k, .bool true] w fun e w' => e = .returned (.tuple #[.int .i64 ((k : Int) + 1), .int .i64 7, .bool true]) ∧ Below w.heap.size w w' := by
  have g0 := hR.var 0 (by omega)
  have g1 := hR.var 1 (by omega)
  have g2 := hR.var 2 (by omega)
  have g3 := hR.var 3 (by omega)
  have g4 := hR.var 4 (by omega)
  have g5 := hR.var 5 (by omega)
  have g6 := hR.var 6 (by omega)
  have g7 := hR.var 7 (by omega)
  have g8 := hR.var 8 (by omega)
  obtain ⟨s, hs, hse, hsz⟩ := hT k hk
  have hl : (a k).block < w.heap.size := Nat.lt_of_lt_of_le (hR.low k hk) hR.size
  have HN : Hid (∀ o : Obj, Calls Tryd.prog 5 #[.iface 28 (.pointer (some ⟨w.heap.size + 1, 0, none⟩))] ((w.alloc o).alloc (.cells #[.int .i64 7, .iface 66 (.pointer (some (a k)))] 30)) fun e w' => e = .returned (.tuple #[.int .i64 ((k : Int) + 1), .int .i64 7]) ∧ Below w.heap.size w w' ∧ Hid (Calls Tryd.prog 33 #[.pointer (some ⟨w.heap.size + 1, 0, none⟩)] w' fun e w'' => (∃ t : ByteArray, e = .returned (.string t) ∧ t.toList.isEmpty = false) ∧ w'' = w')) := by
    intro o
    refine (number_fault B a _ (hR.below (((Below.refl _ _).alloc hR.size o).alloc (by simp; have := hR.size; omega) _)) k hk (w.heap.size + 1) 0 7 (by simp) (by simp) (by simp)).mono ?_
    rintro e w' ⟨rfl, hb⟩
    have hb2 : Below w.heap.size w w' := (((Below.refl _ _).alloc (Nat.le_refl _) o).alloc (by simp) _).trans (hb.mono (by simp; omega))
    refine ⟨rfl, hb2, faultError (w.heap.size + 1) 0 (a k) s w' ?_ ?_ (by rw [hb2.cell hl]; exact hs) hsz⟩
    · rw [hb.cell (p := ⟨w.heap.size + 1, 0, none⟩) (by simp)]; simp
    · rw [hb.cell (p := ⟨w.heap.size + 1, 0 + 1, none⟩) (by simp)]; simp
  have mE := Tryd.methodErrorF
  have hq' : k = 0 ∨ k = 1 ∨ k = 2 ∨ k = 3 ∨ k = 4 ∨ k = 5 ∨ k = 6 ∨ k = 7 ∨ k = 8 := by omega
  clear hR hT hs
  rcases hq' with rfl | rfl | rfl | rfl | rfl | rfl | rfl | rfl | rfl
  all_goals
    go_enter Tryd.func4, Tryd.ntmps4
    go_wp2_with fail
    refine (HN.out _).mono ?_
    rintro e w' ⟨rfl, hb, HC⟩
    go_wp2_with fail
    refine HC.out.mono ?_
    rintro e w'' ⟨⟨t, rfl, ht⟩, rfl⟩
    go_wp2
    go_ret3
    exact ⟨rfl, hb⟩

end Go.Proofs.YtkfnhjcafllpkaaDoor
