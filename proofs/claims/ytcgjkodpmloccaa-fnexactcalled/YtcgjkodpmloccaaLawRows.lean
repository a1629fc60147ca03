/-
  The laws' own plans and hands in memory.
-/
import Derived.Test.YtcgjkodpmloccaaHands
namespace Go.Proofs.Ytcgjkodpmloccaa
open Go.ChangeShapes Go.WideShapes Go.ChangeAt Go.RowKit

theorem sizeLPlan : (Try.prog.info? 23).map (·.size) = some 4 := by kernel_rfl
theorem sizeLHand (h : Hd) : (Try.prog.info? 36).map (·.size) = some (hdC h).length := by
  show _ = some 22
  kernel_rfl
theorem planRow {w : World} {b : Nat} {x y z u : Int} (P : PlanAt w b x y z u) : w.rangeAt b 0 [.int .i64 x, .int .i64 y, .int .i64 z, .int .i64 u] := by
  obtain ⟨p0, p1, p2, p3⟩ := P
  intro j v hj
  match j, hj with
  | 0, hj => cases hj; simpa using p0
  | 1, hj => cases hj; simpa using p1
  | 2, hj => cases hj; simpa using p2
  | 3, hj => cases hj; simpa using p3
  | j + 4, hj => simp at hj

end Go.Proofs.Ytcgjkodpmloccaa
