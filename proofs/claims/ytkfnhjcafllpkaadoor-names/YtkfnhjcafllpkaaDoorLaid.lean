/-
  What the listed variables give the walks: the nine reasons and errors.errorType.
-/
import Derived.Test.YtkfnhjcafllpkaaDoorNumberF
import Derived.Test.YtkfnhjcafllpkaaDoorRows
import Derived.ProofKit
import Derived.LaidLaws
import Derived.LaidHandle
import Derived.LaidMore
import Derived.LaidOnce
import Derived.Stop.Joined
namespace Go.Proofs.YtkfnhjcafllpkaaDoor
open Go.ChangeShapes Go.WideShapes Go.ChangeAt Go.RowKit

theorem Tryd.own : ownKnob Tryd.prog.godebug = none := by kernel_rfl
theorem Tryd.cellsES : Tryd.prog.cellsOf 106 = 1 := by kernel_rfl
theorem Tryd.cellsString : Tryd.prog.cellsOf 9 = 1 := by kernel_rfl
theorem starES : "*" ++ "errors.errorString" = "*errors.errorString" := by decide
theorem Tryd.rowES (u : TypeId) (h : Tryd.prog.typeName? 3 u = some "*errors.errorString") : u = 66 :=
  typeName_ptr_named (nm := "errors.errorString") (by rw [starES]; kernel_rfl) (by kernel_rfl) (by decide) u (by rw [starES]; exact h)

abbrev errD (text : List UInt8) : DataW Unit := .iface "*errors.errorString" (.ptr (.agg [.lit (.string text)]))
def at0 (W : World) (g : Nat) (text : List UInt8) (a : Addr) : Prop :=
  W.cell? ⟨g, 0, none⟩ = some (.iface 66 (.pointer (some a))) ∧ (∃ s : ByteArray, W.cell? a = some (.string s) ∧ s.data.toList = text) ∧ ∃ c t, W.heap[a.block]? = some (.cells c t (0, 0))

set_option maxRecDepth 100000 in
theorem laid_list {W : World} : ∀ (l : List (String × List UInt8 × Nat)) (ps : List MemPlace), DataW.LaidVars Tryd.prog W (l.map fun x => (x.1, errD x.2.1)) ps →
    (∀ x ∈ l, Tryd.prog.globalNamed x.1 = some x.2.2 ∧ (Tryd.prog.globals[x.2.2]?).map (·.type) = some 26) →
    (∀ b off, MemPlace.cell b off ∈ ps → (∃ c t, W.heap[b]? = some (.cells c t (0, 0))) ∧ ∀ u v, W.cell? ⟨b, off, none⟩ = some (.iface u v) → Value.okWide Tryd.prog W .any 0 u v) →
    ∃ ad : List Addr, ad.length = l.length ∧ (∀ (i : Nat) (x : String × List UInt8 × Nat) (a : Addr), l[i]? = some x → ad[i]? = some a → at0 W x.2.2 x.2.1 a) ∧ (ad.map fun a => MemPlace.cell a.block a.off).Sublist ps
  | [], ps, _, _, _ => ⟨[], rfl, fun i x a h => by simp at h, List.nil_sublist _⟩
  | x :: l, ps, h, hg, hrows => by
    obtain ⟨g, t, cs, f, p, q, hg0, ht0, hv0, hd0, hr, rfl⟩ := h
    have hx := hg x (List.mem_cons_self ..)
    obtain rfl := Option.some.inj (hx.1.symm.trans hg0)
    obtain rfl := Option.some.inj (hx.2.symm.trans ht0)
    obtain ⟨ad, hlen, hat, hsub⟩ := laid_list l q hr (fun y hy => hg y (List.mem_cons_of_mem _ hy)) (fun b off hm => hrows b off (List.mem_append_right _ hm))
    obtain ⟨l0⟩ := cs
    have ok0 : ∀ u v, l0 = [.iface u v] → Value.okWide Tryd.prog W .any 0 u v := fun u v e => by
      subst e
      exact (hrows x.2.2 0 (by simp [MemPlace.row])).2 u v (by simpa using World.var?_cell hx.1 hv0 0)
    obtain ⟨a, s, rfl, hc, hs, hz, rfl⟩ := errorString_of_trod Tryd.underlying26 Tryd.rowES Tryd.underlying66 Tryd.underlying106 rfl rfl Tryd.underlying9 Tryd.cellsES Tryd.cellsString hd0 ok0
    refine ⟨a :: ad, by simp [hlen], fun i y b h1 h2 => ?_, ?_⟩
    · cases i with
      | zero =>
        simp only [List.getElem?_cons_zero, Option.some.injEq] at h1 h2
        subst h1; subst h2
        exact ⟨by simpa using World.var?_cell hx.1 hv0 0, ⟨s, hc, hs⟩, (hrows a.block a.off (by simp [MemPlace.row])).1⟩
      | succ i => exact hat i y b (by simpa using h1) (by simpa using h2)
    · have e : MemPlace.row a 1 = [MemPlace.cell a.block a.off] := by simp [MemPlace.row]
      rw [e, List.append_assoc]
      refine List.Sublist.trans ?_ (List.sublist_append_right _ _)
      simpa using List.Sublist.cons_cons (MemPlace.cell a.block a.off) hsub

def reasonList : List (String × List UInt8 × Nat) := [("prekeys/prekeys.ErrConfig", [97, 32, 99, 111, 110, 102, 105, 103, 32, 116, 104, 97, 116, 32, 109, 97, 121, 32, 110, 111, 116, 32, 98, 101], 0), ("prekeys/prekeys.ErrName", [110, 111, 32, 110, 97, 109, 101], 1), ("prekeys/prekeys.ErrKey", [110, 111, 32, 107, 101, 121, 32, 111, 102, 32, 101, 105, 103, 104, 116, 32, 98, 121, 116, 101, 115], 2), ("prekeys/prekeys.ErrID", [110, 111, 32, 110, 117, 109, 98, 101, 114, 32, 111, 102, 32, 97, 32, 107, 101, 121], 3), ("prekeys/prekeys.ErrCount", [116, 111, 111, 32, 102, 101, 119, 32, 111, 114, 32, 116, 111, 111, 32, 109, 97, 110, 121, 32, 107, 101, 121, 115], 4), ("prekeys/prekeys.ErrKind", [110, 111, 32, 107, 105, 110, 100, 32, 111, 102, 32, 114, 101, 113, 117, 101, 115, 116], 5), ("prekeys/prekeys.ErrShort", [97, 32, 102, 114, 97, 109, 101, 32, 116, 104, 97, 116, 32, 101, 110, 100, 115, 32, 116, 111, 111, 32, 101, 97, 114, 108, 121], 6), ("prekeys/prekeys.ErrFrame", [110, 111, 32, 102, 114, 97, 109, 101], 7), ("prekeys/prekeys.ErrDown", [116, 104, 101, 32, 100, 105, 115, 107, 32, 105, 115, 32, 100, 111, 119, 110], 8)]
def laidAll : List (String × DataW Unit) := ("errors.errorType", Rows.laid_errors_errorType) :: reasonList.map fun x => (x.1, errD x.2.1)

theorem Tryd.gEC : Tryd.prog.globalNamed "prekeys/prekeys.ErrConfig" = some 0 ∧ (Tryd.prog.globals[0]?).map (·.type) = some 26 := ⟨by kernel_rfl, by kernel_rfl⟩
theorem Tryd.gEN : Tryd.prog.globalNamed "prekeys/prekeys.ErrName" = some 1 ∧ (Tryd.prog.globals[1]?).map (·.type) = some 26 := ⟨by kernel_rfl, by kernel_rfl⟩
theorem Tryd.gEK : Tryd.prog.globalNamed "prekeys/prekeys.ErrKey" = some 2 ∧ (Tryd.prog.globals[2]?).map (·.type) = some 26 := ⟨by kernel_rfl, by kernel_rfl⟩
theorem Tryd.gEI : Tryd.prog.globalNamed "prekeys/prekeys.ErrID" = some 3 ∧ (Tryd.prog.globals[3]?).map (·.type) = some 26 := ⟨by kernel_rfl, by kernel_rfl⟩
theorem Tryd.gEO : Tryd.prog.globalNamed "prekeys/prekeys.ErrCount" = some 4 ∧ (Tryd.prog.globals[4]?).map (·.type) = some 26 := ⟨by kernel_rfl, by kernel_rfl⟩
theorem Tryd.gEQ : Tryd.prog.globalNamed "prekeys/prekeys.ErrKind" = some 5 ∧ (Tryd.prog.globals[5]?).map (·.type) = some 26 := ⟨by kernel_rfl, by kernel_rfl⟩
theorem Tryd.gES : Tryd.prog.globalNamed "prekeys/prekeys.ErrShort" = some 6 ∧ (Tryd.prog.globals[6]?).map (·.type) = some 26 := ⟨by kernel_rfl, by kernel_rfl⟩
theorem Tryd.gEF : Tryd.prog.globalNamed "prekeys/prekeys.ErrFrame" = some 7 ∧ (Tryd.prog.globals[7]?).map (·.type) = some 26 := ⟨by kernel_rfl, by kernel_rfl⟩
theorem Tryd.gED : Tryd.prog.globalNamed "prekeys/prekeys.ErrDown" = some 8 ∧ (Tryd.prog.globals[8]?).map (·.type) = some 26 := ⟨by kernel_rfl, by kernel_rfl⟩
theorem reason_globals : ∀ x ∈ reasonList, Tryd.prog.globalNamed x.1 = some x.2.2 ∧ (Tryd.prog.globals[x.2.2]?).map (·.type) = some 26 := by
  intro x hx
  simp only [reasonList, List.mem_cons, List.not_mem_nil, or_false] at hx
  rcases hx with rfl | rfl | rfl | rfl | rfl | rfl | rfl | rfl | rfl
  · exact Tryd.gEC
  · exact Tryd.gEN
  · exact Tryd.gEK
  · exact Tryd.gEI
  · exact Tryd.gEO
  · exact Tryd.gEQ
  · exact Tryd.gES
  · exact Tryd.gEF
  · exact Tryd.gED

theorem Tryd.et : Tryd.prog.globalNamed "errors.errorType" = some 9 := by kernel_rfl
theorem Tryd.rt : (Tryd.prog.cutTypes.find? (·.1 == "internal/reflectlite.rtype")).map (·.2) = some 52 := by kernel_rfl
theorem Tryd.sizeT : Tryd.prog.types.size = 118 := by kernel_rfl
theorem Tryd.oneRow : ((List.range 118).filter fun t => Tryd.prog.rowNamed t [101, 114, 114, 111, 114]) = [26] := by kernel_rfl
theorem Tryd.handleE : typeHandle Tryd.prog 26 = .pointer (some ⟨13, 26, none⟩) := by kernel_rfl

theorem reasons_of_laid {W : World} (h : laidMetH Tryd.prog laidAll W) : ∃ a : Nat → Addr, Reasons W.heap.size a W ∧ ∀ k, k < 9 → ∃ s : ByteArray, W.cell? (a k) = some (.string s) ∧ s.toList.isEmpty = false ∧ s.size ≤ 100 := by
  have h' : laidMet Tryd.prog (reasonList.map fun x => (x.1, errD x.2.1)) W ∧ handlesMet Tryd.prog [("errors.errorType", Rows.laid_errors_errorType)] W := h
  obtain ⟨name, u, ty, e1, e2, e3, e4, e5⟩ := h'.2 _ (List.mem_singleton.2 rfl)
  have en : name = [101, 114, 114, 111, 114] := (Option.some.inj e1).symm
  subst en
  obtain rfl := Option.some.inj (Tryd.rt.symm.trans e2)
  have hm : ty ∈ (List.range 118).filter fun t => Tryd.prog.rowNamed t [101, 114, 114, 111, 114] := List.mem_filter.2 ⟨List.mem_range.2 (by rw [← Tryd.sizeT]; exact e3), e4⟩
  rw [Tryd.oneRow] at hm
  obtain rfl := List.mem_singleton.1 hm
  rw [Tryd.handleE] at e5
  have hty : W.cell? ⟨9, 0, none⟩ = some (.iface 52 (.agg #[.pointer (some ⟨13, 26, none⟩)])) := by simpa using World.var?_cell Tryd.et e5 0
  obtain ⟨ps, hl, hnd, hrows⟩ := h'.1
  obtain ⟨ad, hlen, hat, hsub⟩ := laid_list reasonList ps hl reason_globals hrows
  have hl9 : reasonList.length = 9 := rfl
  have hnd2 : (ad.map fun a => MemPlace.cell a.block a.off).Nodup := hsub.nodup hnd
  have hget : ∀ k, k < 9 → ad[k]? = some (ad.getD k default) := fun k hk => by
    rw [List.getD_eq_getElem?_getD, List.getElem?_eq_getElem (by omega)]; rfl
  have hx : ∀ k, k < 9 → ∃ n t, reasonList[k]? = some (n, t, k) ∧ 0 < t.length ∧ t.length ≤ 100 := fun k hk => by
    have hq' : k = 0 ∨ k = 1 ∨ k = 2 ∨ k = 3 ∨ k = 4 ∨ k = 5 ∨ k = 6 ∨ k = 7 ∨ k = 8 := by omega
    rcases hq' with rfl | rfl | rfl | rfl | rfl | rfl | rfl | rfl | rfl <;> exact ⟨_, _, rfl, by decide, by decide⟩
  have hall : ∀ k, k < 9 → ∃ t : List UInt8, at0 W k t (ad.getD k default) ∧ 0 < t.length ∧ t.length ≤ 100 := fun k hk => by
    obtain ⟨n, t, e, h1, h2⟩ := hx k hk
    exact ⟨t, hat k _ _ e (hget k hk), h1, h2⟩
  refine ⟨fun k => ad.getD k default, ⟨fun k hk => ?_, fun k hk => ?_, fun i j hi hj hij he => ?_, fun k hk => ?_, hty, ?_, Nat.le_refl _⟩, fun k hk => ?_⟩
  · obtain ⟨t, h1, _⟩ := hall k hk; exact h1.1
  · obtain ⟨t, h1, _⟩ := hall k hk
    obtain ⟨c, t, hc⟩ := h1.2.2
    rcases Nat.lt_or_ge (ad.getD k default).block W.heap.size with h | h
    · exact h
    · rw [Array.getElem?_eq_none h] at hc; cases hc
  · have hi' : i < ad.length := by omega
    have hj' : j < ad.length := by omega
    have e : ad[i] = ad[j] := by
      have a1 := hget i hi; have a2 := hget j hj
      rw [List.getElem?_eq_getElem hi'] at a1; rw [List.getElem?_eq_getElem hj'] at a2
      simp only [Option.some.injEq] at a1 a2
      rw [a1, a2]; exact he
    have hp := List.pairwise_iff_getElem.1 hnd2
    rcases Nat.lt_or_gt_of_ne hij with h | h
    · exact hp i j (by simpa using hi') (by simpa using hj') h (by simp [e])
    · exact hp j i (by simpa using hj') (by simpa using hi') h (by simp [e])
  · obtain ⟨t, h1, _⟩ := hall k hk; exact h1.2.2
  · rcases Nat.lt_or_ge 9 W.heap.size with h | h
    · exact h
    · simp [World.cell?, Array.getElem?_eq_none h] at hty
  · obtain ⟨t, h1, h2, h3⟩ := hall k hk
    obtain ⟨s, hc, hs⟩ := h1.2.1
    have hsz : s.size = t.length := by rw [← hs]; simp
    refine ⟨s, hc, ?_, by omega⟩
    rw [ByteArray.toList_eq, hs]
    cases t with
    | nil => simp at h2
    | cons _ _ => rfl
end Go.Proofs.YtkfnhjcafllpkaaDoor
