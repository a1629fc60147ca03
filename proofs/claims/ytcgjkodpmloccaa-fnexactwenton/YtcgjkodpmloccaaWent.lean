/-
  What walking and going on answer (chapter 7), as plain data.
-/
import Derived.Test.YtcgjkodpmloccaaSpecFit
import Derived.Test.YtcgjkodpmloccaaSpecOn
namespace Go.Proofs.Ytcgjkodpmloccaa
open Go.ChangeShapes Go.WideShapes Go.ChangeAt Go.RowKit
set_option linter.unusedVariables false
set_option linter.unusedSimpArgs false
attribute [local go_sem ↓] Go.wp_at_zero Go.wp_at_succ

def walkedToB (x y z u : Int) (A : Ar) (h : Hd) (n : Int) : Bool := fitB x y z u A 0 h 0 && inB n (-1) ((A.nodes.length : Int) - 1)
def walkedToH (x y z u : Int) (A : Ar) (h : Hd) (n : Int) : Hd := if walkedToB x y z u A h n then walkH A h n else zeroH
def wentOnB (x y z u : Int) (A : Ar) (h : Hd) : Bool := fitB x y z u A 0 h 0 && stampedB A h.ver
def wentOnH (x y z u : Int) (A : Ar) (h : Hd) : Hd := if wentOnB x y z u A h then onH A h else zeroH
/-- What follows of a fit step. -/
structure FitIs (x y z u : Int) (A : Ar) (h : Hd) : Prop where
  ok : arenaB x y z u A = true
  ho : handB x y z u h = true
  x0 : 0 ≤ h.x_
  x1 : h.x_ < (A.nodes.length : Int)
  c0 : -1 ≤ h.curr
  c1 : h.curr < (A.nodes.length : Int)
  n0 : -1 ≤ h.new_
  v0 : 0 ≤ h.ver
  v1 : h.ver < (A.vers.length : Int)
  o0 : 0 ≤ h.out
  o1 : h.out ≤ 1000000
  s0 : 0 ≤ h.sum
  s1 : h.sum ≤ 1000000
  t0 : 0 ≤ h.then_
  t1 : h.then_ ≤ 7
  m0 : 0 ≤ h.cam
theorem fit_is {x y z u : Int} {A : Ar} {me : Int} {h : Hd} {clk : Int} (e : fitB x y z u A me h clk = true) : FitIs x y z u A h := by
  unfold fitB at e
  simp only [Bool.and_eq_true] at e
  obtain ⟨⟨⟨⟨e1, e2⟩, _⟩, _⟩, e5⟩ := e
  have e2' := e2
  unfold knowsB nodeIn verIn at e5
  unfold handB handFB at e2'
  simp only [Bool.and_eq_true, Bool.or_eq_true, beq_iff_eq, inB_iff] at e5 e2'
  refine ⟨e1, e2, ?_, ?_, ?_, ?_, ?_, ?_, ?_, ?_, ?_, ?_, ?_, ?_, ?_, ?_⟩ <;> omega

end Go.Proofs.Ytcgjkodpmloccaa
