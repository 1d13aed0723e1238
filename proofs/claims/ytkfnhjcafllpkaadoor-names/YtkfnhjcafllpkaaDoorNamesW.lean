/-
  plain.Reason and prekeyslaw.Names over this program: the walks.
-/
import Derived.Test.YtkfnhjcafllpkaaDoorNumberF
namespace Go.Proofs.YtkfnhjcafllpkaaDoor
open Go.RowKit Go.Extern.Stop Go.Stop Go.Extern

/-- The reasons' texts: short, not empty. -/
def Texts (a : Nat → Addr) (w : World) : Prop := ∀ k, k < 9 → ∃ s : ByteArray, w.cell? (a k) = some (.string s) ∧ s.toList.isEmpty = false ∧ s.size ≤ 100

theorem Tryd.methodErrorE (v : Value) (w : World) : (Go.method 218 66 v "Error").run Tryd.prog w = .ok (63, v) w := by kernel_rfl
theorem Tryd.methodErrorF (v : Value) (w : World) : (Go.method 218 28 v "Error").run Tryd.prog w = .ok (33, v) w := by kernel_rfl

theorem errorE (a : Addr) (s : ByteArray) (w : World) (h : w.cell? a = some (.string s)) : Calls Tryd.prog 63 #[.pointer (some a)] w fun e w' => e = .returned (.string s) ∧ w' = w := by
  obtain ⟨b, o, sp⟩ := a
  go_enter Tryd.func63, Tryd.ntmps63
  go_wp2
  go_ret
  exact ⟨rfl, rfl⟩
theorem itoa7 (w : World) : Calls Tryd.prog 35 #[.int .i64 7] w fun e w' => e = .returned (.string ⟨#[55]⟩) ∧ w' = w := by
  go_enter Tryd.func35, Tryd.ntmps35
  go_wp2
  go_ret
  exact ⟨rfl, rfl⟩

theorem some_bytes (t : ByteArray) (h : 0 < t.size) : t.toList.isEmpty = false := by
  rw [ByteArray.toList_eq]
  have : t.data.toList.length = t.size := by simp
  cases hl : t.data.toList with
  | nil => rw [hl] at this; simp at this; omega
  | cons _ _ => rfl
theorem faultError (pb po : Nat) (a : Addr) (s : ByteArray) (w : World) (h0 : w.cell? ⟨pb, po, none⟩ = some (.int .i64 7)) (h1 : w.cell? ⟨pb, po + 1, none⟩ = some (.iface 66 (.pointer (some a)))) (h : w.cell? a = some (.string s)) (hs : s.size ≤ 100) :
    Calls Tryd.prog 33 #[.pointer (some ⟨pb, po, none⟩)] w fun e w' => (∃ t : ByteArray, e = .returned (.string t) ∧ t.toList.isEmpty = false) ∧ w' = w := by
  have HS : Hid (w.cell? a = some (.string s)) := h
  clear h
  have mE := Tryd.methodErrorE
  go_enter Tryd.func33, Tryd.ntmps33
  go_wp2_with (first | (go_at_call 35; refine (itoa7 _).mono ?_; rintro e w' ⟨rfl, rfl⟩) | (go_at_call 63; refine (errorE a s _ HS.out).mono ?_; rintro e w' ⟨rfl, rfl⟩))
  go_ret
  refine ⟨⟨_, rfl, some_bytes _ ?_⟩, rfl⟩
  simp only [ByteArray.size_append]
  have : (ByteArray.mk #[55]).size = 1 := rfl
  omega


set_option maxRecDepth 100000 in
set_option maxHeartbeats 8000000 in
theorem reason_bare (B : Nat) (a : Nat → Addr) (w : World) (hR : Reasons B a w) (hT : Texts a w) (k : Nat) (hk : k < 9) :
    Calls Tryd.prog 4 #[.int .i64 k, .bool false] w fun e w' => e = .returned (.tuple #[.int .i64 ((k : Int) + 1), .int .i64 (-1), .bool true]) ∧ Below w.heap.size w w' := by
  have g0 := hR.var 0 (by omega)
  have g1 := hR.var 1 (by omega)
  have g2 := hR.var 2 (by omega)
  have g3 := hR.var 3 (by omega)
  have g4 := hR.var 4 (by omega)
  have g5 := hR.var 5 (by omega)
  have g6 := hR.var 6 (by omega)
  have g7 := hR.var 7 (by omega)
  have g8 := hR.var 8 (by omega)
  obtain ⟨s, hs, hse, hsz⟩ := hT k hk
  have HS : Hid (w.cell? (a k) = some (.string s)) := hs
  have hl : (a k).block < w.heap.size := Nat.lt_of_lt_of_le (hR.low k hk) hR.size
  have HN : Hid (∀ o : Obj, Calls Tryd.prog 5 #[.iface 66 (.pointer (some (a k)))] (w.alloc o) fun e w' => e = .returned (.tuple #[.int .i64 ((k : Int) + 1), .int .i64 (-1)]) ∧ Below w.heap.size w w' ∧ w'.cell? (a k) = some (.string s)) := by
    intro o
    refine (number_reason B a _ (hR.below ((Below.refl _ _).alloc hR.size o)) k hk).mono ?_
    rintro e w' ⟨rfl, hb⟩
    have hb2 : Below w.heap.size w w' := ((Below.refl _ _).alloc (Nat.le_refl _) o).trans (hb.mono (by simp))
    exact ⟨rfl, hb2, by rw [hb2.cell hl]; exact hs⟩
  have mE := Tryd.methodErrorE
  have hq' : k = 0 ∨ k = 1 ∨ k = 2 ∨ k = 3 ∨ k = 4 ∨ k = 5 ∨ k = 6 ∨ k = 7 ∨ k = 8 := by omega
  clear hR hT hs
  rcases hq' with rfl | rfl | rfl | rfl | rfl | rfl | rfl | rfl | rfl
  all_goals
    go_enter Tryd.func4, Tryd.ntmps4
    go_wp2_with fail
    refine (HN.out _).mono ?_
    rintro e w' ⟨rfl, hb, hc⟩
    have HC := (show Hid _ from hc)
    clear hc
    go_wp2_with (go_at_call 63; refine (errorE _ s _ HC.out).mono ?_; rintro e w' ⟨rfl, rfl⟩)
    go_ret3
    exact ⟨rfl, hb⟩

end Go.Proofs.YtkfnhjcafllpkaaDoor
