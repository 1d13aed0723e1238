/-
  errors.As over this program, at the target '&f', f a *Fault: the error nil, a reason of errors.New's make, or a *Fault. After the guide's Toyas.
-/
import Derived.Test.YtkfnhjcafllpkaaDoorErrs
namespace Go.Proofs.YtkfnhjcafllpkaaDoor
open Go.RowKit Go.Extern.Stop Go.Stop Go.Extern

/-! ### errors.As at the target '&f', f a *Fault -/
theorem Tryd.callValueOfT (t : Addr) (w : World) : (callFunc 10 #[.iface 36 (.pointer (some t))]).run Tryd.prog w
    = .ok (Next.value (.agg #[.pointer (some ⟨13, 36, none⟩), .pointer (some ⟨w.heap.size, 0, none⟩), .int .u64 150])) (w.alloc (.cells #[.pointer (some t)] 36)) := by kernel_rfl
theorem Tryd.callValueOfF (t : Addr) (w : World) : (callFunc 10 #[.iface 28 (.pointer (some t))]).run Tryd.prog w
    = .ok (Next.value (.agg #[.pointer (some ⟨13, 28, none⟩), .pointer (some ⟨w.heap.size, 0, none⟩), .int .u64 150])) (w.alloc (.cells #[.pointer (some t)] 28)) := by kernel_rfl
theorem Tryd.callTypeT (a : Addr) (w : World) : (callFunc 11 #[.agg #[.pointer (some ⟨13, 36, none⟩), .pointer (some a), .int .u64 150]]).run Tryd.prog w
    = .ok (Next.value (.iface 52 (.agg #[.pointer (some ⟨13, 36, none⟩)]))) w := by kernel_rfl
theorem Tryd.methodKind (h : Value) (w : World) : (Go.method 218 52 (.agg #[h]) "Kind").run Tryd.prog w = .ok (30, h) w := by kernel_rfl
theorem Tryd.methodElem (h : Value) (w : World) : (Go.method 218 52 (.agg #[h]) "Elem").run Tryd.prog w = .ok (55, .agg #[h]) w := by kernel_rfl
theorem Tryd.methodImplements (h : Value) (w : World) : (Go.method 218 52 (.agg #[h]) "Implements").run Tryd.prog w = .ok (56, .agg #[h]) w := by kernel_rfl
theorem Tryd.methodAssignableTo (h : Value) (w : World) : (Go.method 218 52 (.agg #[h]) "AssignableTo").run Tryd.prog w = .ok (53, .agg #[h]) w := by kernel_rfl
theorem Tryd.callKindT (w : World) : (callFunc 30 #[.pointer (some ⟨13, 36, none⟩)]).run Tryd.prog w = .ok (Next.value (.int .u8 22)) w := by kernel_rfl
theorem Tryd.callKindF (w : World) : (callFunc 30 #[.pointer (some ⟨13, 28, none⟩)]).run Tryd.prog w = .ok (Next.value (.int .u8 22)) w := by kernel_rfl
theorem Tryd.callElemT (w : World) : (callFunc 55 #[.agg #[.pointer (some ⟨13, 36, none⟩)]]).run Tryd.prog w = .ok (Next.value (.iface 52 (.agg #[.pointer (some ⟨13, 28, none⟩)]))) w := by kernel_rfl
theorem Tryd.callImplementsF (w : World) : (callFunc 56 #[.agg #[.pointer (some ⟨13, 28, none⟩)], .iface 52 (.agg #[.pointer (some ⟨13, 26, none⟩)])]).run Tryd.prog w = .ok (Next.value (.bool true)) w := by kernel_rfl
theorem Tryd.callTypeOfE (v : Value) (w : World) : (callFunc 8 #[.iface 66 v]).run Tryd.prog w = .ok (Next.value (.iface 52 (.agg #[.pointer (some ⟨13, 66, none⟩)]))) w := by kernel_rfl
theorem Tryd.callTypeOfF (v : Value) (w : World) : (callFunc 8 #[.iface 28 v]).run Tryd.prog w = .ok (Next.value (.iface 52 (.agg #[.pointer (some ⟨13, 28, none⟩)]))) w := by kernel_rfl
theorem Tryd.callAssignableF (w : World) : (callFunc 53 #[.agg #[.pointer (some ⟨13, 28, none⟩)], .iface 52 (.agg #[.pointer (some ⟨13, 28, none⟩)])]).run Tryd.prog w = .ok (Next.value (.bool true)) w := by kernel_rfl
theorem Tryd.callAssignableE (w : World) : (callFunc 53 #[.agg #[.pointer (some ⟨13, 66, none⟩)], .iface 52 (.agg #[.pointer (some ⟨13, 28, none⟩)])]).run Tryd.prog w = .ok (Next.value (.bool false)) w := by kernel_rfl
end Go.Proofs.YtkfnhjcafllpkaaDoor
