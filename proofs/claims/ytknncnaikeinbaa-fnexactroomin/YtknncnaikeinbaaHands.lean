/-
  Hands as plain data; the laws' own copies and comparisons of them, as contracts. For every hand.
-/
import Derived.Test.YtknncnaikeinbaaSpecArena
import Derived.Test.YtknncnaikeinbaaRows2
namespace Go.Proofs.Ytknncnaikeinbaa
open Go.ChangeShapes Go.WideShapes Go.ChangeAt Go.RowKit
set_option linter.unusedVariables false
attribute [local go_sem ↓] Go.wp_at_zero Go.wp_at_succ

structure Hd where
  at_ : Int
  then_ : Int
  code : Int
  key : Int
  value : Int
  begin : Int
  reply : Int
  out : Int
  sum : Int
  held : Int
  x_ : Int
  ver : Int
  cam : Int
  camAt : Int
  pred : Int
  predVer : Int
  curr : Int
  currVer : Int
  new_ : Int
  least : Int
  index : Int
  round : Int

def hdC (h : Hd) : List Value := [.int .i64 h.at_, .int .i64 h.then_, .int .i64 h.code, .int .i64 h.key, .int .i64 h.value, .int .i64 h.begin, .int .i64 h.reply, .int .i64 h.out, .int .i64 h.sum, .int .i64 h.held, .int .i64 h.x_, .int .i64 h.ver, .int .i64 h.cam, .int .i64 h.camAt, .int .i64 h.pred, .int .i64 h.predVer, .int .i64 h.curr, .int .i64 h.currVer, .int .i64 h.new_, .int .i64 h.least, .int .i64 h.index, .int .i64 h.round]

/-- A load of a row, at an operation that stands behind a guard. -/
theorem wpList_load_wanted {P : Program} {ops : Array Oper} {rest : List Oper} {op : Oper} {a : Act} {w : World} {Q : Exit → Act → World → Prop} (hw : Region.wanted op (yielded ops a.tmps) = true) (ty : TypeId) (x : Operand) (ho : op.op = .load ty x)
    (b o : Nat) (hx : a.eval x = .pointer (some ⟨b, o, none⟩)) (cs : List Value) (d : TypeDesc) (hc : w.rangeAt b o cs)
    (hu : P.underlying ty = some d) (hd : d.isRow = true) (hi : (P.info? ty).map (·.size) = some cs.length)
    (h : wpList P ops Q rest (a.put op.dst (.agg cs.toArray)) w) : wpList P ops Q (op :: rest) a w :=
  wpList_step fun K hK => by rw [if_pos hw]; exact wp_load_mid ty x ho b o hx cs d hc hu hd hi (hK _ _ h)

/-- Are the nodes and versions of a hand within the plan's numbers? -/
def handNB (y z : Int) (h : Hd) : Bool := inB h.x_ 0 (y - 1) && inB h.pred 0 (y - 1) && inB h.curr (-1) (y - 1) && inB h.new_ (-1) (y - 1) && inB h.ver 0 (z - 1) && inB h.predVer 0 (z - 1) && inB h.currVer 0 (z - 1)
/-- Are the other fields of a hand right? -/
def handFB (h : Hd) : Bool := inB h.at_ 0 23 && inB h.then_ 0 7 && inB h.code 0 8 && inB h.reply 0 7 && inB h.key (-1) 63 && inB h.value 0 9999 && inB h.begin 0 20000 && inB h.camAt 0 20000 && inB h.round 0 20000 && inB h.out 0 1000000 && inB h.sum 0 1000000 && inB h.held (-1) 100 && inB h.cam 0 100 && inB h.least 0 100 && inB h.index 0 60
def handB (x y z u : Int) (h : Hd) : Bool := planB x y z u && handNB y z h && handFB h

theorem rowHand {w : World} {b : Nat} {h : Hd} (R : w.rangeAt b 0 (hdC h)) : w.cell? ⟨b, 0, none⟩ = some (.int .i64 h.at_) ∧ w.cell? ⟨b, 1, none⟩ = some (.int .i64 h.then_) ∧ w.cell? ⟨b, 2, none⟩ = some (.int .i64 h.code) ∧ w.cell? ⟨b, 3, none⟩ = some (.int .i64 h.key) ∧ w.cell? ⟨b, 4, none⟩ = some (.int .i64 h.value) ∧ w.cell? ⟨b, 5, none⟩ = some (.int .i64 h.begin) ∧ w.cell? ⟨b, 6, none⟩ = some (.int .i64 h.reply) ∧ w.cell? ⟨b, 7, none⟩ = some (.int .i64 h.out) ∧ w.cell? ⟨b, 8, none⟩ = some (.int .i64 h.sum) ∧ w.cell? ⟨b, 9, none⟩ = some (.int .i64 h.held) ∧ w.cell? ⟨b, 10, none⟩ = some (.int .i64 h.x_) ∧ w.cell? ⟨b, 11, none⟩ = some (.int .i64 h.ver) ∧ w.cell? ⟨b, 12, none⟩ = some (.int .i64 h.cam) ∧ w.cell? ⟨b, 13, none⟩ = some (.int .i64 h.camAt) ∧ w.cell? ⟨b, 14, none⟩ = some (.int .i64 h.pred) ∧ w.cell? ⟨b, 15, none⟩ = some (.int .i64 h.predVer) ∧ w.cell? ⟨b, 16, none⟩ = some (.int .i64 h.curr) ∧ w.cell? ⟨b, 17, none⟩ = some (.int .i64 h.currVer) ∧ w.cell? ⟨b, 18, none⟩ = some (.int .i64 h.new_) ∧ w.cell? ⟨b, 19, none⟩ = some (.int .i64 h.least) ∧ w.cell? ⟨b, 20, none⟩ = some (.int .i64 h.index) ∧ w.cell? ⟨b, 21, none⟩ = some (.int .i64 h.round) := by
  refine ⟨?_, ?_, ?_, ?_, ?_, ?_, ?_, ?_, ?_, ?_, ?_, ?_, ?_, ?_, ?_, ?_, ?_, ?_, ?_, ?_, ?_, ?_⟩
  · simpa using R 0 (.int .i64 h.at_) rfl
  · simpa using R 1 (.int .i64 h.then_) rfl
  · simpa using R 2 (.int .i64 h.code) rfl
  · simpa using R 3 (.int .i64 h.key) rfl
  · simpa using R 4 (.int .i64 h.value) rfl
  · simpa using R 5 (.int .i64 h.begin) rfl
  · simpa using R 6 (.int .i64 h.reply) rfl
  · simpa using R 7 (.int .i64 h.out) rfl
  · simpa using R 8 (.int .i64 h.sum) rfl
  · simpa using R 9 (.int .i64 h.held) rfl
  · simpa using R 10 (.int .i64 h.x_) rfl
  · simpa using R 11 (.int .i64 h.ver) rfl
  · simpa using R 12 (.int .i64 h.cam) rfl
  · simpa using R 13 (.int .i64 h.camAt) rfl
  · simpa using R 14 (.int .i64 h.pred) rfl
  · simpa using R 15 (.int .i64 h.predVer) rfl
  · simpa using R 16 (.int .i64 h.curr) rfl
  · simpa using R 17 (.int .i64 h.currVer) rfl
  · simpa using R 18 (.int .i64 h.new_) rfl
  · simpa using R 19 (.int .i64 h.least) rfl
  · simpa using R 20 (.int .i64 h.index) rfl
  · simpa using R 21 (.int .i64 h.round) rfl

end Go.Proofs.Ytknncnaikeinbaa
