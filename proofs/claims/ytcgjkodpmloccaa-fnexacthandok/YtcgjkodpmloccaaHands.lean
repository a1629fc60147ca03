/-
  Hands as plain data; the laws' own copies and comparisons of them, as contracts. For every hand.
-/
import Derived.Test.YtcgjkodpmloccaaSpecArena
import Derived.Test.YtcgjkodpmloccaaRows2
namespace Go.Proofs.Ytcgjkodpmloccaa
open Go.ChangeShapes Go.WideShapes Go.ChangeAt Go.RowKit
set_option linter.unusedVariables false
attribute [local go_sem ↓] Go.wp_at_zero Go.wp_at_succ

structure Hd where
  at_ : Int
  then_ : Int
  code : Int
  key : Int
  value : Int
  begin : Int
  reply : Int
  out : Int
  sum : Int
  held : Int
  x_ : Int
  ver : Int
  cam : Int
  camAt : Int
  pred : Int
  predVer : Int
  curr : Int
  currVer : Int
  new_ : Int
  least : Int
  index : Int
  round : Int

def hdC (h : Hd) : List Value := [.int .i64 h.at_, .int .i64 h.then_, .int .i64 h.code, .int .i64 h.key, .int .i64 h.value, .int .i64 h.begin, .int .i64 h.reply, .int .i64 h.out, .int .i64 h.sum, .int .i64 h.held, .int .i64 h.x_, .int .i64 h.ver, .int .i64 h.cam, .int .i64 h.camAt, .int .i64 h.pred, .int .i64 h.predVer, .int .i64 h.curr, .int .i64 h.currVer, .int .i64 h.new_, .int .i64 h.least, .int .i64 h.index, .int .i64 h.round]

/-- A load of a row, at an operation that stands behind a guard. -/
theorem wpList_load_wanted {P : Program} {ops : Array Oper} {rest : List Oper} {op : Oper} {a : Act} {w : World} {Q : Exit → Act → World → Prop} (hw : Region.wanted op (yielded ops a.tmps) = true) (ty : TypeId) (x : Operand) (ho : op.op = .load ty x)
    (b o : Nat) (hx : a.eval x = .pointer (some ⟨b, o, none⟩)) (cs : List Value) (d : TypeDesc) (hc : w.rangeAt b o cs)
    (hu : P.underlying ty = some d) (hd : d.isRow = true) (hi : (P.info? ty).map (·.size) = some cs.length)
    (h : wpList P ops Q rest (a.put op.dst (.agg cs.toArray)) w) : wpList P ops Q (op :: rest) a w :=
  wpList_step fun K hK => by rw [if_pos hw]; exact wp_load_mid ty x ho b o hx cs d hc hu hd hi (hK _ _ h)

theorem sizeHand (h : Hd) : (Try.prog.info? 38).map (fun i => i.size) = some (hdC h).toArray.size := by
  show _ = some 22
  kernel_rfl
theorem sizeHandL (h : Hd) : (Try.prog.info? 38).map (fun i => i.size) = some (hdC h).length := by
  show _ = some 22
  kernel_rfl
theorem oneHand (h : Hd) : (hdC h).toArray.all (·.oneCell') = true := by simp [hdC, Value.oneCell']

set_option maxRecDepth 100000 in
set_option maxHeartbeats 4000000 in
theorem toHand_any (h : Hd) (w : World) :
    Calls Try.prog 16 #[.agg (hdC h).toArray] w fun e w' => e = .returned (.agg (hdC h).toArray) ∧ Below w.heap.size w w' := by
  show Calls Try.prog 16 #[.agg #[.int .i64 h.at_, .int .i64 h.then_, .int .i64 h.code, .int .i64 h.key, .int .i64 h.value, .int .i64 h.begin, .int .i64 h.reply, .int .i64 h.out, .int .i64 h.sum, .int .i64 h.held, .int .i64 h.x_, .int .i64 h.ver, .int .i64 h.cam, .int .i64 h.camAt, .int .i64 h.pred, .int .i64 h.predVer, .int .i64 h.curr, .int .i64 h.currVer, .int .i64 h.new_, .int .i64 h.least, .int .i64 h.index, .int .i64 h.round]] w fun e w' => e = .returned (.agg (hdC h).toArray) ∧ Below w.heap.size w w'
  go_enter Try.func16, Try.ntmps16
  have F0 := there_new (w.alloc (.cells #[.int .i64 h.at_, .int .i64 h.then_, .int .i64 h.code, .int .i64 h.key, .int .i64 h.value, .int .i64 h.begin, .int .i64 h.reply, .int .i64 h.out, .int .i64 h.sum, .int .i64 h.held, .int .i64 h.x_, .int .i64 h.ver, .int .i64 h.cam, .int .i64 h.camAt, .int .i64 h.pred, .int .i64 h.predVer, .int .i64 h.curr, .int .i64 h.currVer, .int .i64 h.new_, .int .i64 h.least, .int .i64 h.index, .int .i64 h.round] 36)) #[.int .i64 0, .int .i64 0, .int .i64 0, .int .i64 0, .int .i64 0, .int .i64 0, .int .i64 0, .int .i64 0, .int .i64 0, .int .i64 0, .int .i64 0, .int .i64 0, .int .i64 0, .int .i64 0, .int .i64 0, .int .i64 0, .int .i64 0, .int .i64 0, .int .i64 0, .int .i64 0, .int .i64 0, .int .i64 0] 38 22 (by decide)
  have R0 := rangeAt_new ((w.alloc (.cells #[.int .i64 h.at_, .int .i64 h.then_, .int .i64 h.code, .int .i64 h.key, .int .i64 h.value, .int .i64 h.begin, .int .i64 h.reply, .int .i64 h.out, .int .i64 h.sum, .int .i64 h.held, .int .i64 h.x_, .int .i64 h.ver, .int .i64 h.cam, .int .i64 h.camAt, .int .i64 h.pred, .int .i64 h.predVer, .int .i64 h.curr, .int .i64 h.currVer, .int .i64 h.new_, .int .i64 h.least, .int .i64 h.index, .int .i64 h.round] 36)).alloc (.cells #[.int .i64 0, .int .i64 0, .int .i64 0, .int .i64 0, .int .i64 0, .int .i64 0, .int .i64 0, .int .i64 0, .int .i64 0, .int .i64 0, .int .i64 0, .int .i64 0, .int .i64 0, .int .i64 0, .int .i64 0, .int .i64 0, .int .i64 0, .int .i64 0, .int .i64 0, .int .i64 0, .int .i64 0, .int .i64 0] 38)) (hdC h) 38
  have K0 := (((Below.refl w.heap.size w).alloc (Nat.le_refl _) (.cells #[.int .i64 h.at_, .int .i64 h.then_, .int .i64 h.code, .int .i64 h.key, .int .i64 h.value, .int .i64 h.begin, .int .i64 h.reply, .int .i64 h.out, .int .i64 h.sum, .int .i64 h.held, .int .i64 h.x_, .int .i64 h.ver, .int .i64 h.cam, .int .i64 h.camAt, .int .i64 h.pred, .int .i64 h.predVer, .int .i64 h.curr, .int .i64 h.currVer, .int .i64 h.new_, .int .i64 h.least, .int .i64 h.index, .int .i64 h.round] 36)).alloc (by simp) (.cells #[.int .i64 0, .int .i64 0, .int .i64 0, .int .i64 0, .int .i64 0, .int .i64 0, .int .i64 0, .int .i64 0, .int .i64 0, .int .i64 0, .int .i64 0, .int .i64 0, .int .i64 0, .int .i64 0, .int .i64 0, .int .i64 0, .int .i64 0, .int .i64 0, .int .i64 0, .int .i64 0, .int .i64 0, .int .i64 0] 38)).alloc (by simp; omega) (.cells (hdC h).toArray 38)
  have F1 := World.there_alloc F0 (.cells (hdC h).toArray 38)
  simp only [World.size_alloc] at F1 R0
  go_wp2_with (first | (refine wpList_load_mid rfl 38 (.tmp 3) rfl _ _ rfl (hdC h) _ ?hc Try.underlying38 rfl (sizeHandL h) ?_) | (refine wpList_store_mid rfl 38 (.tmp 2) (.tmp 70) rfl (w.heap.size + 1) 0 _ rfl rfl ?ht ?hi ?h1 ?_))
  case hc => exact R0
  case ht => exact F1
  case hi => exact sizeHand h
  case h1 => exact oneHand h
  refine bodyPost_ret (v := .agg (hdC h).toArray) ?_ rfl ⟨rfl, ?_⟩
  · exact results_row Try.results16 _ _ (w.heap.size + 1) 0 rfl (hdC h) _ (World.rangeAt_setCells_same _ _ _ _ F1) Try.underlying38 rfl (sizeHandL h)
  · exact Below.setCells (by omega) _ _ _ K0

set_option maxRecDepth 100000 in
set_option maxHeartbeats 4000000 in
theorem eqHand_any (h : Hd) (w : World) :
    Calls Try.prog 20 #[.agg (hdC h).toArray, .agg (hdC h).toArray] w fun e w' => e = .returned (.bool true) ∧ Below w.heap.size w w' := by
  show Calls Try.prog 20 #[.agg #[.int .i64 h.at_, .int .i64 h.then_, .int .i64 h.code, .int .i64 h.key, .int .i64 h.value, .int .i64 h.begin, .int .i64 h.reply, .int .i64 h.out, .int .i64 h.sum, .int .i64 h.held, .int .i64 h.x_, .int .i64 h.ver, .int .i64 h.cam, .int .i64 h.camAt, .int .i64 h.pred, .int .i64 h.predVer, .int .i64 h.curr, .int .i64 h.currVer, .int .i64 h.new_, .int .i64 h.least, .int .i64 h.index, .int .i64 h.round], .agg #[.int .i64 h.at_, .int .i64 h.then_, .int .i64 h.code, .int .i64 h.key, .int .i64 h.value, .int .i64 h.begin, .int .i64 h.reply, .int .i64 h.out, .int .i64 h.sum, .int .i64 h.held, .int .i64 h.x_, .int .i64 h.ver, .int .i64 h.cam, .int .i64 h.camAt, .int .i64 h.pred, .int .i64 h.predVer, .int .i64 h.curr, .int .i64 h.currVer, .int .i64 h.new_, .int .i64 h.least, .int .i64 h.index, .int .i64 h.round]] w fun e w' => e = .returned (.bool true) ∧ Below w.heap.size w w'
  go_enter Try.func20, Try.ntmps20
  go_wp2
  go_ret
  exact ⟨rfl, ((Below.refl _ _).alloc (Nat.le_refl _) _).alloc (by simp) _⟩

/-- Are the nodes and versions of a hand within the plan's numbers? -/
def handNB (y z : Int) (h : Hd) : Bool := inB h.x_ 0 (y - 1) && inB h.pred 0 (y - 1) && inB h.curr (-1) (y - 1) && inB h.new_ (-1) (y - 1) && inB h.ver 0 (z - 1) && inB h.predVer 0 (z - 1) && inB h.currVer 0 (z - 1)
/-- Are the other fields of a hand right? -/
def handFB (h : Hd) : Bool := inB h.at_ 0 23 && inB h.then_ 0 7 && inB h.code 0 8 && inB h.reply 0 7 && inB h.key (-1) 63 && inB h.value 0 9999 && inB h.begin 0 20000 && inB h.camAt 0 20000 && inB h.round 0 20000 && inB h.out 0 1000000 && inB h.sum 0 1000000 && inB h.held (-1) 100 && inB h.cam 0 100 && inB h.least 0 100 && inB h.index 0 60
def handB (x y z u : Int) (h : Hd) : Bool := planB x y z u && handNB y z h && handFB h

theorem l5Clock_any (n : Int) (w : World) : Calls Try.prog 44 #[.int .i64 n] w fun e w' => e = .returned (.bool (inB n 0 20000)) ∧ w' = w := by
  go_enter Try.func44, Try.ntmps44
  go_wp2_with (go_at_call 43; refine (l1In_any _ _ _ _).mono ?_; rintro e w' ⟨rfl, hw⟩; obtain rfl := hw.symm)
  go_ret
  exact ⟨rfl, rfl⟩

set_option maxRecDepth 100000 in
set_option maxHeartbeats 4000000 in
theorem l5Nodes_any (x y z u : Int) (h : Hd) (w : World) (hy : 1 ≤ y ∧ y ≤ 60) (hz : 1 ≤ z ∧ z ≤ 400) :
    Calls Try.prog 42 #[.agg #[.int .i64 x, .int .i64 y, .int .i64 z, .int .i64 u], .agg (hdC h).toArray] w fun e w' => e = .returned (.bool (handNB y z h)) ∧ Below w.heap.size w w' := by
  show Calls Try.prog 42 #[.agg #[.int .i64 x, .int .i64 y, .int .i64 z, .int .i64 u], .agg #[.int .i64 h.at_, .int .i64 h.then_, .int .i64 h.code, .int .i64 h.key, .int .i64 h.value, .int .i64 h.begin, .int .i64 h.reply, .int .i64 h.out, .int .i64 h.sum, .int .i64 h.held, .int .i64 h.x_, .int .i64 h.ver, .int .i64 h.cam, .int .i64 h.camAt, .int .i64 h.pred, .int .i64 h.predVer, .int .i64 h.curr, .int .i64 h.currVer, .int .i64 h.new_, .int .i64 h.least, .int .i64 h.index, .int .i64 h.round]] w fun e w' => e = .returned (.bool (handNB y z h)) ∧ Below w.heap.size w w'
  have KK := ((Below.refl w.heap.size w).alloc (Nat.le_refl _) (.cells #[.int .i64 x, .int .i64 y, .int .i64 z, .int .i64 u] 30)).alloc (by simp) (.cells #[.int .i64 h.at_, .int .i64 h.then_, .int .i64 h.code, .int .i64 h.key, .int .i64 h.value, .int .i64 h.begin, .int .i64 h.reply, .int .i64 h.out, .int .i64 h.sum, .int .i64 h.held, .int .i64 h.x_, .int .i64 h.ver, .int .i64 h.cam, .int .i64 h.camAt, .int .i64 h.pred, .int .i64 h.predVer, .int .i64 h.curr, .int .i64 h.currVer, .int .i64 h.new_, .int .i64 h.least, .int .i64 h.index, .int .i64 h.round] 38)
  cases e0 : inB h.x_ 0 (y - 1)
  · have hv : handNB y z h = false := by simp only [handNB, e0, Bool.false_and]
    go_enter Try.func42, Try.ntmps42
    go_wp2_with (go_at_call 43; refine (l1In_any _ _ _ _).mono ?_; rintro e w' ⟨rfl, hw⟩; obtain rfl := hw.symm)
    go_ret
    exact ⟨by rw [hv]; rfl, KK⟩
  cases e1 : inB h.pred 0 (y - 1)
  · have hv : handNB y z h = false := by simp only [handNB, e1, Bool.false_and, Bool.and_false]
    go_enter Try.func42, Try.ntmps42
    go_wp2_with (go_at_call 43; refine (l1In_any _ _ _ _).mono ?_; rintro e w' ⟨rfl, hw⟩; obtain rfl := hw.symm)
    go_ret
    exact ⟨by rw [hv]; rfl, KK⟩
  cases e2 : inB h.curr (-1) (y - 1)
  · have hv : handNB y z h = false := by simp only [handNB, e2, Bool.false_and, Bool.and_false]
    go_enter Try.func42, Try.ntmps42
    go_wp2_with (go_at_call 43; refine (l1In_any _ _ _ _).mono ?_; rintro e w' ⟨rfl, hw⟩; obtain rfl := hw.symm)
    go_ret
    exact ⟨by rw [hv]; rfl, KK⟩
  cases e3 : inB h.new_ (-1) (y - 1)
  · have hv : handNB y z h = false := by simp only [handNB, e3, Bool.false_and, Bool.and_false]
    go_enter Try.func42, Try.ntmps42
    go_wp2_with (go_at_call 43; refine (l1In_any _ _ _ _).mono ?_; rintro e w' ⟨rfl, hw⟩; obtain rfl := hw.symm)
    go_ret
    exact ⟨by rw [hv]; rfl, KK⟩
  cases e4 : inB h.ver 0 (z - 1)
  · have hv : handNB y z h = false := by simp only [handNB, e4, Bool.false_and, Bool.and_false]
    go_enter Try.func42, Try.ntmps42
    go_wp2_with (go_at_call 43; refine (l1In_any _ _ _ _).mono ?_; rintro e w' ⟨rfl, hw⟩; obtain rfl := hw.symm)
    go_ret
    exact ⟨by rw [hv]; rfl, KK⟩
  cases e5 : inB h.predVer 0 (z - 1)
  · have hv : handNB y z h = false := by simp only [handNB, e5, Bool.false_and, Bool.and_false]
    go_enter Try.func42, Try.ntmps42
    go_wp2_with (go_at_call 43; refine (l1In_any _ _ _ _).mono ?_; rintro e w' ⟨rfl, hw⟩; obtain rfl := hw.symm)
    go_ret
    exact ⟨by rw [hv]; rfl, KK⟩
  have hv : handNB y z h = inB h.currVer 0 (z - 1) := by simp only [handNB, e0, e1, e2, e3, e4, e5, Bool.true_and]
  go_enter Try.func42, Try.ntmps42
  go_wp2_with (go_at_call 43; refine (l1In_any _ _ _ _).mono ?_; rintro e w' ⟨rfl, hw⟩; obtain rfl := hw.symm)
  go_ret
  exact ⟨by rw [hv]; rfl, KK⟩

theorem rowHand {w : World} {b : Nat} {h : Hd} (R : w.rangeAt b 0 (hdC h)) : w.cell? ⟨b, 0, none⟩ = some (.int .i64 h.at_) ∧ w.cell? ⟨b, 1, none⟩ = some (.int .i64 h.then_) ∧ w.cell? ⟨b, 2, none⟩ = some (.int .i64 h.code) ∧ w.cell? ⟨b, 3, none⟩ = some (.int .i64 h.key) ∧ w.cell? ⟨b, 4, none⟩ = some (.int .i64 h.value) ∧ w.cell? ⟨b, 5, none⟩ = some (.int .i64 h.begin) ∧ w.cell? ⟨b, 6, none⟩ = some (.int .i64 h.reply) ∧ w.cell? ⟨b, 7, none⟩ = some (.int .i64 h.out) ∧ w.cell? ⟨b, 8, none⟩ = some (.int .i64 h.sum) ∧ w.cell? ⟨b, 9, none⟩ = some (.int .i64 h.held) ∧ w.cell? ⟨b, 10, none⟩ = some (.int .i64 h.x_) ∧ w.cell? ⟨b, 11, none⟩ = some (.int .i64 h.ver) ∧ w.cell? ⟨b, 12, none⟩ = some (.int .i64 h.cam) ∧ w.cell? ⟨b, 13, none⟩ = some (.int .i64 h.camAt) ∧ w.cell? ⟨b, 14, none⟩ = some (.int .i64 h.pred) ∧ w.cell? ⟨b, 15, none⟩ = some (.int .i64 h.predVer) ∧ w.cell? ⟨b, 16, none⟩ = some (.int .i64 h.curr) ∧ w.cell? ⟨b, 17, none⟩ = some (.int .i64 h.currVer) ∧ w.cell? ⟨b, 18, none⟩ = some (.int .i64 h.new_) ∧ w.cell? ⟨b, 19, none⟩ = some (.int .i64 h.least) ∧ w.cell? ⟨b, 20, none⟩ = some (.int .i64 h.index) ∧ w.cell? ⟨b, 21, none⟩ = some (.int .i64 h.round) := by
  refine ⟨?_, ?_, ?_, ?_, ?_, ?_, ?_, ?_, ?_, ?_, ?_, ?_, ?_, ?_, ?_, ?_, ?_, ?_, ?_, ?_, ?_, ?_⟩
  · simpa using R 0 (.int .i64 h.at_) rfl
  · simpa using R 1 (.int .i64 h.then_) rfl
  · simpa using R 2 (.int .i64 h.code) rfl
  · simpa using R 3 (.int .i64 h.key) rfl
  · simpa using R 4 (.int .i64 h.value) rfl
  · simpa using R 5 (.int .i64 h.begin) rfl
  · simpa using R 6 (.int .i64 h.reply) rfl
  · simpa using R 7 (.int .i64 h.out) rfl
  · simpa using R 8 (.int .i64 h.sum) rfl
  · simpa using R 9 (.int .i64 h.held) rfl
  · simpa using R 10 (.int .i64 h.x_) rfl
  · simpa using R 11 (.int .i64 h.ver) rfl
  · simpa using R 12 (.int .i64 h.cam) rfl
  · simpa using R 13 (.int .i64 h.camAt) rfl
  · simpa using R 14 (.int .i64 h.pred) rfl
  · simpa using R 15 (.int .i64 h.predVer) rfl
  · simpa using R 16 (.int .i64 h.curr) rfl
  · simpa using R 17 (.int .i64 h.currVer) rfl
  · simpa using R 18 (.int .i64 h.new_) rfl
  · simpa using R 19 (.int .i64 h.least) rfl
  · simpa using R 20 (.int .i64 h.index) rfl
  · simpa using R 21 (.int .i64 h.round) rfl

set_option maxRecDepth 100000 in
set_option maxHeartbeats 4000000 in
theorem specHandOk_any (x y z u : Int) (h : Hd) (w : World) :
    Calls Try.prog 15 #[.agg #[.int .i64 x, .int .i64 y, .int .i64 z, .int .i64 u], .agg (hdC h).toArray] w fun e w' => e = .returned (.bool (handB x y z u h)) ∧ Below w.heap.size w w' := by
  show Calls Try.prog 15 #[.agg #[.int .i64 x, .int .i64 y, .int .i64 z, .int .i64 u], .agg #[.int .i64 h.at_, .int .i64 h.then_, .int .i64 h.code, .int .i64 h.key, .int .i64 h.value, .int .i64 h.begin, .int .i64 h.reply, .int .i64 h.out, .int .i64 h.sum, .int .i64 h.held, .int .i64 h.x_, .int .i64 h.ver, .int .i64 h.cam, .int .i64 h.camAt, .int .i64 h.pred, .int .i64 h.predVer, .int .i64 h.curr, .int .i64 h.currVer, .int .i64 h.new_, .int .i64 h.least, .int .i64 h.index, .int .i64 h.round]] w fun e w' => e = .returned (.bool (handB x y z u h)) ∧ Below w.heap.size w w'
  have P0 := (planAt_alloc w x y z u 30).below ((Below.refl _ _).alloc (Nat.le_refl _) (.cells (hdC h).toArray 38)) (by simp)
  have X0 := rangeAt_new (w.alloc (.cells #[.int .i64 x, .int .i64 y, .int .i64 z, .int .i64 u] 30)) (hdC h) 38
  have K0 := ((Below.refl w.heap.size w).alloc (Nat.le_refl _) (.cells #[.int .i64 x, .int .i64 y, .int .i64 z, .int .i64 u] 30)).alloc (by simp) (.cells (hdC h).toArray 38)
  have hz0 : w.heap.size + 1 < ((w.alloc (.cells #[.int .i64 x, .int .i64 y, .int .i64 z, .int .i64 u] 30)).alloc (.cells (hdC h).toArray 38)).heap.size := by simp
  simp only [World.size_alloc] at X0
  go_enter Try.func15, Try.ntmps15
  go_wp2_with fail
  change Calls Try.prog _ _ ((w.alloc (.cells #[.int .i64 x, .int .i64 y, .int .i64 z, .int .i64 u] 30)).alloc (.cells (hdC h).toArray 38)) _
  generalize hw0 : (w.alloc (.cells #[.int .i64 x, .int .i64 y, .int .i64 z, .int .i64 u] 30)).alloc (.cells (hdC h).toArray 38) = w0 at *
  clear hw0
  refine (specPlanOk_any _ _ _ _ _).mono ?_
  rintro e w1 ⟨rfl, b1⟩
  have P1 := P0.below b1 (by omega)
  have X1 := rangeAt_below X0 b1 hz0
  have K1 := K0.trans (b1.mono (by omega))
  have hz1 := Nat.lt_of_lt_of_le hz0 b1.size
  clear P0 X0 K0 b1 hz0
  cases h1 : planB x y z u
  · have hv : handB x y z u h = false := by simp only [handB, h1, Bool.false_and]
    go_wp2_with fail
    go_ret
    exact ⟨by rw [hv]; rfl, K1⟩
  have hpl := (planB_iff x y z u).1 h1
  obtain ⟨p0, p1, p2, p3⟩ := id P1
  go_wp2_with (refine wpList_load_wanted ?hw 38 (.tmp 3) rfl (w.heap.size + 1) 0 rfl (hdC h) _ ?hc Try.underlying38 rfl (sizeHandL h) ?_)
  try (case hw => rfl)
  case hc => exact X1
  refine (l5Nodes_any x y z u h _ hpl.2.1 hpl.2.2.1).mono ?_
  rintro e w2 ⟨rfl, b2⟩
  have X2 := rangeAt_below X1 b2 hz1
  have K2 := K1.trans (b2.mono (by omega))
  clear P1 X1 K1 b2 p0 p1 p2 p3
  obtain ⟨x0, x1, x2, x3, x4, x5, x6, x7, x8, x9, x10, x11, x12, x13, x14, x15, x16, x17, x18, x19, x20, x21⟩ := rowHand X2
  clear X2 hpl
  cases h2 : handNB y z h
  · have hv : handB x y z u h = false := by simp only [handB, h2, Bool.false_and, Bool.and_false]
    go_wp2_with fail
    go_ret
    exact ⟨by rw [hv]; rfl, K2⟩
  cases e0 : inB h.at_ 0 23
  · have hv : handB x y z u h = false := by simp only [handB, handFB, e0, Bool.false_and, Bool.and_false]
    go_wp2_with (first | (go_at_call 43; refine (l1In_any _ _ _ _).mono ?_; rintro e w' ⟨rfl, hw⟩; obtain rfl := hw.symm) | (go_at_call 45; refine (l1Stamp_any _ _).mono ?_; rintro e w' ⟨rfl, hw⟩; obtain rfl := hw.symm) | (go_at_call 44; refine (l5Clock_any _ _).mono ?_; rintro e w' ⟨rfl, hw⟩; obtain rfl := hw.symm))
    go_ret
    exact ⟨by rw [hv]; rfl, K2⟩
  cases e1 : inB h.then_ 0 7
  · have hv : handB x y z u h = false := by simp only [handB, handFB, e1, Bool.false_and, Bool.and_false]
    go_wp2_with (first | (go_at_call 43; refine (l1In_any _ _ _ _).mono ?_; rintro e w' ⟨rfl, hw⟩; obtain rfl := hw.symm) | (go_at_call 45; refine (l1Stamp_any _ _).mono ?_; rintro e w' ⟨rfl, hw⟩; obtain rfl := hw.symm) | (go_at_call 44; refine (l5Clock_any _ _).mono ?_; rintro e w' ⟨rfl, hw⟩; obtain rfl := hw.symm))
    go_ret
    exact ⟨by rw [hv]; rfl, K2⟩
  cases e2 : inB h.code 0 8
  · have hv : handB x y z u h = false := by simp only [handB, handFB, e2, Bool.false_and, Bool.and_false]
    go_wp2_with (first | (go_at_call 43; refine (l1In_any _ _ _ _).mono ?_; rintro e w' ⟨rfl, hw⟩; obtain rfl := hw.symm) | (go_at_call 45; refine (l1Stamp_any _ _).mono ?_; rintro e w' ⟨rfl, hw⟩; obtain rfl := hw.symm) | (go_at_call 44; refine (l5Clock_any _ _).mono ?_; rintro e w' ⟨rfl, hw⟩; obtain rfl := hw.symm))
    go_ret
    exact ⟨by rw [hv]; rfl, K2⟩
  cases e3 : inB h.reply 0 7
  · have hv : handB x y z u h = false := by simp only [handB, handFB, e3, Bool.false_and, Bool.and_false]
    go_wp2_with (first | (go_at_call 43; refine (l1In_any _ _ _ _).mono ?_; rintro e w' ⟨rfl, hw⟩; obtain rfl := hw.symm) | (go_at_call 45; refine (l1Stamp_any _ _).mono ?_; rintro e w' ⟨rfl, hw⟩; obtain rfl := hw.symm) | (go_at_call 44; refine (l5Clock_any _ _).mono ?_; rintro e w' ⟨rfl, hw⟩; obtain rfl := hw.symm))
    go_ret
    exact ⟨by rw [hv]; rfl, K2⟩
  cases e4 : inB h.key (-1) 63
  · have hv : handB x y z u h = false := by simp only [handB, handFB, e4, Bool.false_and, Bool.and_false]
    go_wp2_with (first | (go_at_call 43; refine (l1In_any _ _ _ _).mono ?_; rintro e w' ⟨rfl, hw⟩; obtain rfl := hw.symm) | (go_at_call 45; refine (l1Stamp_any _ _).mono ?_; rintro e w' ⟨rfl, hw⟩; obtain rfl := hw.symm) | (go_at_call 44; refine (l5Clock_any _ _).mono ?_; rintro e w' ⟨rfl, hw⟩; obtain rfl := hw.symm))
    go_ret
    exact ⟨by rw [hv]; rfl, K2⟩
  cases e5 : inB h.value 0 9999
  · have hv : handB x y z u h = false := by simp only [handB, handFB, e5, Bool.false_and, Bool.and_false]
    go_wp2_with (first | (go_at_call 43; refine (l1In_any _ _ _ _).mono ?_; rintro e w' ⟨rfl, hw⟩; obtain rfl := hw.symm) | (go_at_call 45; refine (l1Stamp_any _ _).mono ?_; rintro e w' ⟨rfl, hw⟩; obtain rfl := hw.symm) | (go_at_call 44; refine (l5Clock_any _ _).mono ?_; rintro e w' ⟨rfl, hw⟩; obtain rfl := hw.symm))
    go_ret
    exact ⟨by rw [hv]; rfl, K2⟩
  cases e6 : inB h.begin 0 20000
  · have hv : handB x y z u h = false := by simp only [handB, handFB, e6, Bool.false_and, Bool.and_false]
    go_wp2_with (first | (go_at_call 43; refine (l1In_any _ _ _ _).mono ?_; rintro e w' ⟨rfl, hw⟩; obtain rfl := hw.symm) | (go_at_call 45; refine (l1Stamp_any _ _).mono ?_; rintro e w' ⟨rfl, hw⟩; obtain rfl := hw.symm) | (go_at_call 44; refine (l5Clock_any _ _).mono ?_; rintro e w' ⟨rfl, hw⟩; obtain rfl := hw.symm))
    go_ret
    exact ⟨by rw [hv]; rfl, K2⟩
  cases e7 : inB h.camAt 0 20000
  · have hv : handB x y z u h = false := by simp only [handB, handFB, e7, Bool.false_and, Bool.and_false]
    go_wp2_with (first | (go_at_call 43; refine (l1In_any _ _ _ _).mono ?_; rintro e w' ⟨rfl, hw⟩; obtain rfl := hw.symm) | (go_at_call 45; refine (l1Stamp_any _ _).mono ?_; rintro e w' ⟨rfl, hw⟩; obtain rfl := hw.symm) | (go_at_call 44; refine (l5Clock_any _ _).mono ?_; rintro e w' ⟨rfl, hw⟩; obtain rfl := hw.symm))
    go_ret
    exact ⟨by rw [hv]; rfl, K2⟩
  cases e8 : inB h.round 0 20000
  · have hv : handB x y z u h = false := by simp only [handB, handFB, e8, Bool.false_and, Bool.and_false]
    go_wp2_with (first | (go_at_call 43; refine (l1In_any _ _ _ _).mono ?_; rintro e w' ⟨rfl, hw⟩; obtain rfl := hw.symm) | (go_at_call 45; refine (l1Stamp_any _ _).mono ?_; rintro e w' ⟨rfl, hw⟩; obtain rfl := hw.symm) | (go_at_call 44; refine (l5Clock_any _ _).mono ?_; rintro e w' ⟨rfl, hw⟩; obtain rfl := hw.symm))
    go_ret
    exact ⟨by rw [hv]; rfl, K2⟩
  cases e9 : inB h.out 0 1000000
  · have hv : handB x y z u h = false := by simp only [handB, handFB, e9, Bool.false_and, Bool.and_false]
    go_wp2_with (first | (go_at_call 43; refine (l1In_any _ _ _ _).mono ?_; rintro e w' ⟨rfl, hw⟩; obtain rfl := hw.symm) | (go_at_call 45; refine (l1Stamp_any _ _).mono ?_; rintro e w' ⟨rfl, hw⟩; obtain rfl := hw.symm) | (go_at_call 44; refine (l5Clock_any _ _).mono ?_; rintro e w' ⟨rfl, hw⟩; obtain rfl := hw.symm))
    go_ret
    exact ⟨by rw [hv]; rfl, K2⟩
  cases e10 : inB h.sum 0 1000000
  · have hv : handB x y z u h = false := by simp only [handB, handFB, e10, Bool.false_and, Bool.and_false]
    go_wp2_with (first | (go_at_call 43; refine (l1In_any _ _ _ _).mono ?_; rintro e w' ⟨rfl, hw⟩; obtain rfl := hw.symm) | (go_at_call 45; refine (l1Stamp_any _ _).mono ?_; rintro e w' ⟨rfl, hw⟩; obtain rfl := hw.symm) | (go_at_call 44; refine (l5Clock_any _ _).mono ?_; rintro e w' ⟨rfl, hw⟩; obtain rfl := hw.symm))
    go_ret
    exact ⟨by rw [hv]; rfl, K2⟩
  cases e11 : inB h.held (-1) 100
  · have hv : handB x y z u h = false := by simp only [handB, handFB, e11, Bool.false_and, Bool.and_false]
    go_wp2_with (first | (go_at_call 43; refine (l1In_any _ _ _ _).mono ?_; rintro e w' ⟨rfl, hw⟩; obtain rfl := hw.symm) | (go_at_call 45; refine (l1Stamp_any _ _).mono ?_; rintro e w' ⟨rfl, hw⟩; obtain rfl := hw.symm) | (go_at_call 44; refine (l5Clock_any _ _).mono ?_; rintro e w' ⟨rfl, hw⟩; obtain rfl := hw.symm))
    go_ret
    exact ⟨by rw [hv]; rfl, K2⟩
  cases e12 : inB h.cam 0 100
  · have hv : handB x y z u h = false := by simp only [handB, handFB, e12, Bool.false_and, Bool.and_false]
    go_wp2_with (first | (go_at_call 43; refine (l1In_any _ _ _ _).mono ?_; rintro e w' ⟨rfl, hw⟩; obtain rfl := hw.symm) | (go_at_call 45; refine (l1Stamp_any _ _).mono ?_; rintro e w' ⟨rfl, hw⟩; obtain rfl := hw.symm) | (go_at_call 44; refine (l5Clock_any _ _).mono ?_; rintro e w' ⟨rfl, hw⟩; obtain rfl := hw.symm))
    go_ret
    exact ⟨by rw [hv]; rfl, K2⟩
  cases e13 : inB h.least 0 100
  · have hv : handB x y z u h = false := by simp only [handB, handFB, e13, Bool.false_and, Bool.and_false]
    go_wp2_with (first | (go_at_call 43; refine (l1In_any _ _ _ _).mono ?_; rintro e w' ⟨rfl, hw⟩; obtain rfl := hw.symm) | (go_at_call 45; refine (l1Stamp_any _ _).mono ?_; rintro e w' ⟨rfl, hw⟩; obtain rfl := hw.symm) | (go_at_call 44; refine (l5Clock_any _ _).mono ?_; rintro e w' ⟨rfl, hw⟩; obtain rfl := hw.symm))
    go_ret
    exact ⟨by rw [hv]; rfl, K2⟩
  have hv : handB x y z u h = inB h.index 0 60 := by simp only [handB, handFB, h1, h2, e0, e1, e2, e3, e4, e5, e6, e7, e8, e9, e10, e11, e12, e13, Bool.true_and]
  go_wp2_with (first | (go_at_call 43; refine (l1In_any _ _ _ _).mono ?_; rintro e w' ⟨rfl, hw⟩; obtain rfl := hw.symm) | (go_at_call 45; refine (l1Stamp_any _ _).mono ?_; rintro e w' ⟨rfl, hw⟩; obtain rfl := hw.symm) | (go_at_call 44; refine (l5Clock_any _ _).mono ?_; rintro e w' ⟨rfl, hw⟩; obtain rfl := hw.symm))
  go_ret
  exact ⟨by rw [hv]; rfl, K2⟩

end Go.Proofs.Ytcgjkodpmloccaa
