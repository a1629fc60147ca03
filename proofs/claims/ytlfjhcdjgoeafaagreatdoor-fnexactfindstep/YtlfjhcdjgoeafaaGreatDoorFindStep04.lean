/-
  What the law's proof goes by, part 5.
-/
import Derived.Test.YtlfjhcdjgoeafaaGreatDoorFindStep00
import Derived.Test.YtlfjhcdjgoeafaaGreatDoorFindStep03
namespace Go.Proofs.YtlfjhcdjgoeafaaGreatDoor
open Go.ChangeShapes Go.WideShapes Go.ChangeAt Go.RowKit
set_option linter.unusedVariables false
set_option linter.unusedSimpArgs false
set_option linter.unnecessarySimpa false
set_option linter.unusedSectionVars false
section
attribute [local go_sem ↓] Go.wp_at_zero Go.wp_at_succ
structure Hd where
 at_ : Int
 then_ : Int
 code : Int
 key : Int
 value : Int
 begin : Int
 reply : Int
 out : Int
 sum : Int
 held : Int
 x_ : Int
 ver : Int
 cam : Int
 camAt : Int
 pred : Int
 predVer : Int
 curr : Int
 currVer : Int
 new_ : Int
 least : Int
 index : Int
 round : Int
def hdC (h : Hd) : List Value := [.int .i64 h.at_, .int .i64 h.then_, .int .i64 h.code, .int .i64 h.key, .int .i64 h.value, .int .i64 h.begin, .int .i64 h.reply, .int .i64 h.out, .int .i64 h.sum, .int .i64 h.held, .int .i64 h.x_, .int .i64 h.ver, .int .i64 h.cam, .int .i64 h.camAt, .int .i64 h.pred, .int .i64 h.predVer, .int .i64 h.curr, .int .i64 h.currVer, .int .i64 h.new_, .int .i64 h.least, .int .i64 h.index, .int .i64 h.round]
theorem wpList_load_wanted {P : Program} {ops : Array Oper} {rest : List Oper} {op : Oper} {a : Act} {w : World} {Q : Exit → Act → World → Prop} (hw : Region.wanted op (yielded ops a.tmps) = true) (ty : TypeId) (x : Operand) (ho : op.op = .load ty x)
  (b o : Nat) (hx : a.eval x = .pointer (some ⟨b, o, none⟩)) (cs : List Value) (d : TypeDesc) (hc : w.rangeAt b o cs)
  (hu : P.underlying ty = some d) (hd : d.isRow = true) (hi : (P.info? ty).map (·.size) = some cs.length)
  (h : wpList P ops Q rest (a.put op.dst (.agg cs.toArray)) w) : wpList P ops Q (op :: rest) a w :=
 wpList_step fun K hK => by rw [if_pos hw]; exact wp_load_mid ty x ho b o hx cs d hc hu hd hi (hK _ _ h)
theorem sizeHand (h : Hd) : (Tryz.prog.info? 36).map (fun i => i.size) = some (hdC h).toArray.size := by
 show _ = some 22
 kernel_rfl
theorem sizeHandL (h : Hd) : (Tryz.prog.info? 36).map (fun i => i.size) = some (hdC h).length := by
 show _ = some 22
 kernel_rfl
theorem oneHand (h : Hd) : (hdC h).toArray.all (·.oneCell') = true := by simp [hdC, Value.oneCell']
set_option maxRecDepth 100000 in
set_option maxHeartbeats 4000000 in
theorem toHand_any (h : Hd) (w : World) :
  Calls Tryz.prog 8 #[.agg (hdC h).toArray] w fun e w' => e = .returned (.agg (hdC h).toArray) ∧ Below w.heap.size w w' := by
 show Calls Tryz.prog 8 #[.agg #[.int .i64 h.at_, .int .i64 h.then_, .int .i64 h.code, .int .i64 h.key, .int .i64 h.value, .int .i64 h.begin, .int .i64 h.reply, .int .i64 h.out, .int .i64 h.sum, .int .i64 h.held, .int .i64 h.x_, .int .i64 h.ver, .int .i64 h.cam, .int .i64 h.camAt, .int .i64 h.pred, .int .i64 h.predVer, .int .i64 h.curr, .int .i64 h.currVer, .int .i64 h.new_, .int .i64 h.least, .int .i64 h.index, .int .i64 h.round]] w fun e w' => e = .returned (.agg (hdC h).toArray) ∧ Below w.heap.size w w'
 go_enter Tryz.func8, Tryz.ntmps8
 have F0 := there_new (w.alloc (.cells #[.int .i64 h.at_, .int .i64 h.then_, .int .i64 h.code, .int .i64 h.key, .int .i64 h.value, .int .i64 h.begin, .int .i64 h.reply, .int .i64 h.out, .int .i64 h.sum, .int .i64 h.held, .int .i64 h.x_, .int .i64 h.ver, .int .i64 h.cam, .int .i64 h.camAt, .int .i64 h.pred, .int .i64 h.predVer, .int .i64 h.curr, .int .i64 h.currVer, .int .i64 h.new_, .int .i64 h.least, .int .i64 h.index, .int .i64 h.round] 30)) #[.int .i64 0, .int .i64 0, .int .i64 0, .int .i64 0, .int .i64 0, .int .i64 0, .int .i64 0, .int .i64 0, .int .i64 0, .int .i64 0, .int .i64 0, .int .i64 0, .int .i64 0, .int .i64 0, .int .i64 0, .int .i64 0, .int .i64 0, .int .i64 0, .int .i64 0, .int .i64 0, .int .i64 0, .int .i64 0] 36 22 (by decide)
 have R0 := rangeAt_new ((w.alloc (.cells #[.int .i64 h.at_, .int .i64 h.then_, .int .i64 h.code, .int .i64 h.key, .int .i64 h.value, .int .i64 h.begin, .int .i64 h.reply, .int .i64 h.out, .int .i64 h.sum, .int .i64 h.held, .int .i64 h.x_, .int .i64 h.ver, .int .i64 h.cam, .int .i64 h.camAt, .int .i64 h.pred, .int .i64 h.predVer, .int .i64 h.curr, .int .i64 h.currVer, .int .i64 h.new_, .int .i64 h.least, .int .i64 h.index, .int .i64 h.round] 30)).alloc (.cells #[.int .i64 0, .int .i64 0, .int .i64 0, .int .i64 0, .int .i64 0, .int .i64 0, .int .i64 0, .int .i64 0, .int .i64 0, .int .i64 0, .int .i64 0, .int .i64 0, .int .i64 0, .int .i64 0, .int .i64 0, .int .i64 0, .int .i64 0, .int .i64 0, .int .i64 0, .int .i64 0, .int .i64 0, .int .i64 0] 36)) (hdC h) 36
 have K0 := (((Below.refl w.heap.size w).alloc (Nat.le_refl _) (.cells #[.int .i64 h.at_, .int .i64 h.then_, .int .i64 h.code, .int .i64 h.key, .int .i64 h.value, .int .i64 h.begin, .int .i64 h.reply, .int .i64 h.out, .int .i64 h.sum, .int .i64 h.held, .int .i64 h.x_, .int .i64 h.ver, .int .i64 h.cam, .int .i64 h.camAt, .int .i64 h.pred, .int .i64 h.predVer, .int .i64 h.curr, .int .i64 h.currVer, .int .i64 h.new_, .int .i64 h.least, .int .i64 h.index, .int .i64 h.round] 30)).alloc (by simp) (.cells #[.int .i64 0, .int .i64 0, .int .i64 0, .int .i64 0, .int .i64 0, .int .i64 0, .int .i64 0, .int .i64 0, .int .i64 0, .int .i64 0, .int .i64 0, .int .i64 0, .int .i64 0, .int .i64 0, .int .i64 0, .int .i64 0, .int .i64 0, .int .i64 0, .int .i64 0, .int .i64 0, .int .i64 0, .int .i64 0] 36)).alloc (by simp; omega) (.cells (hdC h).toArray 36)
 have F1 := World.there_alloc F0 (.cells (hdC h).toArray 36)
 simp only [World.size_alloc] at F1 R0
 go_wp2_with (first | (refine wpList_load_mid rfl 36 (.tmp 3) rfl _ _ rfl (hdC h) _ ?hc Tryz.underlying36 rfl (sizeHandL h) ?_) | (refine wpList_store_mid rfl 36 (.tmp 2) (.tmp 70) rfl (w.heap.size + 1) 0 _ rfl rfl ?ht ?hi ?h1 ?_))
 case hc => exact R0
 case ht => exact F1
 case hi => exact sizeHand h
 case h1 => exact oneHand h
 refine bodyPost_ret (v := .agg (hdC h).toArray) ?_ rfl ⟨rfl, ?_⟩
 ·exact results_row Tryz.results8 _ _ (w.heap.size + 1) 0 rfl (hdC h) _ (World.rangeAt_setCells_same _ _ _ _ F1) Tryz.underlying36 rfl (sizeHandL h)
 ·exact Below.setCells (by omega) _ _ _ K0
set_option maxRecDepth 100000 in
set_option maxHeartbeats 4000000 in
theorem eqHand_any (h : Hd) (w : World) :
  Calls Tryz.prog 29 #[.agg (hdC h).toArray, .agg (hdC h).toArray] w fun e w' => e = .returned (.bool true) ∧ Below w.heap.size w w' := by
 show Calls Tryz.prog 29 #[.agg #[.int .i64 h.at_, .int .i64 h.then_, .int .i64 h.code, .int .i64 h.key, .int .i64 h.value, .int .i64 h.begin, .int .i64 h.reply, .int .i64 h.out, .int .i64 h.sum, .int .i64 h.held, .int .i64 h.x_, .int .i64 h.ver, .int .i64 h.cam, .int .i64 h.camAt, .int .i64 h.pred, .int .i64 h.predVer, .int .i64 h.curr, .int .i64 h.currVer, .int .i64 h.new_, .int .i64 h.least, .int .i64 h.index, .int .i64 h.round], .agg #[.int .i64 h.at_, .int .i64 h.then_, .int .i64 h.code, .int .i64 h.key, .int .i64 h.value, .int .i64 h.begin, .int .i64 h.reply, .int .i64 h.out, .int .i64 h.sum, .int .i64 h.held, .int .i64 h.x_, .int .i64 h.ver, .int .i64 h.cam, .int .i64 h.camAt, .int .i64 h.pred, .int .i64 h.predVer, .int .i64 h.curr, .int .i64 h.currVer, .int .i64 h.new_, .int .i64 h.least, .int .i64 h.index, .int .i64 h.round]] w fun e w' => e = .returned (.bool true) ∧ Below w.heap.size w w'
 go_enter Tryz.func29, Tryz.ntmps29
 go_wp2
 go_ret
 exact ⟨rfl, ((Below.refl _ _).alloc (Nat.le_refl _) _).alloc (by simp) _⟩
def handNB (y z : Int) (h : Hd) : Bool := inB h.x_ 0 (y - 1) && inB h.pred 0 (y - 1) && inB h.curr (-1) (y - 1) && inB h.new_ (-1) (y - 1) && inB h.ver 0 (z - 1) && inB h.predVer 0 (z - 1) && inB h.currVer 0 (z - 1)
def handFB (h : Hd) : Bool := inB h.at_ 0 23 && inB h.then_ 0 7 && inB h.code 0 8 && inB h.reply 0 7 && inB h.key (-1) 63 && inB h.value 0 9999 && inB h.begin 0 20000 && inB h.camAt 0 20000 && inB h.round 0 20000 && inB h.out 0 1000000 && inB h.sum 0 1000000 && inB h.held (-1) 100 && inB h.cam 0 100 && inB h.least 0 100 && inB h.index 0 60
def handB (x y z u : Int) (h : Hd) : Bool := planB x y z u && handNB y z h && handFB h
theorem l5Clock_any (n : Int) (w : World) : Calls Tryz.prog 41 #[.int .i64 n] w fun e w' => e = .returned (.bool (inB n 0 20000)) ∧ w' = w := by
 go_enter Tryz.func41, Tryz.ntmps41
 go_wp2_with (go_at_call 40; refine (l1In_any _ _ _ _).mono ?_; rintro e w' ⟨rfl, hw⟩; obtain rfl := hw.symm)
 go_ret
 exact ⟨rfl, rfl⟩
set_option maxRecDepth 100000 in
set_option maxHeartbeats 4000000 in
theorem l5Nodes_any (x y z u : Int) (h : Hd) (w : World) (hy : 1 ≤ y ∧ y ≤ 60) (hz : 1 ≤ z ∧ z ≤ 400) :
  Calls Tryz.prog 75 #[.agg #[.int .i64 x, .int .i64 y, .int .i64 z, .int .i64 u], .agg (hdC h).toArray] w fun e w' => e = .returned (.bool (handNB y z h)) ∧ Below w.heap.size w w' := by
 show Calls Tryz.prog 75 #[.agg #[.int .i64 x, .int .i64 y, .int .i64 z, .int .i64 u], .agg #[.int .i64 h.at_, .int .i64 h.then_, .int .i64 h.code, .int .i64 h.key, .int .i64 h.value, .int .i64 h.begin, .int .i64 h.reply, .int .i64 h.out, .int .i64 h.sum, .int .i64 h.held, .int .i64 h.x_, .int .i64 h.ver, .int .i64 h.cam, .int .i64 h.camAt, .int .i64 h.pred, .int .i64 h.predVer, .int .i64 h.curr, .int .i64 h.currVer, .int .i64 h.new_, .int .i64 h.least, .int .i64 h.index, .int .i64 h.round]] w fun e w' => e = .returned (.bool (handNB y z h)) ∧ Below w.heap.size w w'
 have KK := ((Below.refl w.heap.size w).alloc (Nat.le_refl _) (.cells #[.int .i64 x, .int .i64 y, .int .i64 z, .int .i64 u] 43)).alloc (by simp) (.cells #[.int .i64 h.at_, .int .i64 h.then_, .int .i64 h.code, .int .i64 h.key, .int .i64 h.value, .int .i64 h.begin, .int .i64 h.reply, .int .i64 h.out, .int .i64 h.sum, .int .i64 h.held, .int .i64 h.x_, .int .i64 h.ver, .int .i64 h.cam, .int .i64 h.camAt, .int .i64 h.pred, .int .i64 h.predVer, .int .i64 h.curr, .int .i64 h.currVer, .int .i64 h.new_, .int .i64 h.least, .int .i64 h.index, .int .i64 h.round] 36)
 cases e0 : inB h.x_ 0 (y - 1)
 ·have hv : handNB y z h = false := by simp only [handNB, e0, Bool.false_and]
  go_enter Tryz.func75, Tryz.ntmps75
  go_wp2_with (go_at_call 40; refine (l1In_any _ _ _ _).mono ?_; rintro e w' ⟨rfl, hw⟩; obtain rfl := hw.symm)
  go_ret
  exact ⟨by rw [hv]; rfl, KK⟩
 cases e1 : inB h.pred 0 (y - 1)
 ·have hv : handNB y z h = false := by simp only [handNB, e1, Bool.false_and, Bool.and_false]
  go_enter Tryz.func75, Tryz.ntmps75
  go_wp2_with (go_at_call 40; refine (l1In_any _ _ _ _).mono ?_; rintro e w' ⟨rfl, hw⟩; obtain rfl := hw.symm)
  go_ret
  exact ⟨by rw [hv]; rfl, KK⟩
 cases e2 : inB h.curr (-1) (y - 1)
 ·have hv : handNB y z h = false := by simp only [handNB, e2, Bool.false_and, Bool.and_false]
  go_enter Tryz.func75, Tryz.ntmps75
  go_wp2_with (go_at_call 40; refine (l1In_any _ _ _ _).mono ?_; rintro e w' ⟨rfl, hw⟩; obtain rfl := hw.symm)
  go_ret
  exact ⟨by rw [hv]; rfl, KK⟩
 cases e3 : inB h.new_ (-1) (y - 1)
 ·have hv : handNB y z h = false := by simp only [handNB, e3, Bool.false_and, Bool.and_false]
  go_enter Tryz.func75, Tryz.ntmps75
  go_wp2_with (go_at_call 40; refine (l1In_any _ _ _ _).mono ?_; rintro e w' ⟨rfl, hw⟩; obtain rfl := hw.symm)
  go_ret
  exact ⟨by rw [hv]; rfl, KK⟩
 cases e4 : inB h.ver 0 (z - 1)
 ·have hv : handNB y z h = false := by simp only [handNB, e4, Bool.false_and, Bool.and_false]
  go_enter Tryz.func75, Tryz.ntmps75
  go_wp2_with (go_at_call 40; refine (l1In_any _ _ _ _).mono ?_; rintro e w' ⟨rfl, hw⟩; obtain rfl := hw.symm)
  go_ret
  exact ⟨by rw [hv]; rfl, KK⟩
 cases e5 : inB h.predVer 0 (z - 1)
 ·have hv : handNB y z h = false := by simp only [handNB, e5, Bool.false_and, Bool.and_false]
  go_enter Tryz.func75, Tryz.ntmps75
  go_wp2_with (go_at_call 40; refine (l1In_any _ _ _ _).mono ?_; rintro e w' ⟨rfl, hw⟩; obtain rfl := hw.symm)
  go_ret
  exact ⟨by rw [hv]; rfl, KK⟩
 have hv : handNB y z h = inB h.currVer 0 (z - 1) := by simp only [handNB, e0, e1, e2, e3, e4, e5, Bool.true_and]
 go_enter Tryz.func75, Tryz.ntmps75
 go_wp2_with (go_at_call 40; refine (l1In_any _ _ _ _).mono ?_; rintro e w' ⟨rfl, hw⟩; obtain rfl := hw.symm)
 go_ret
 exact ⟨by rw [hv]; rfl, KK⟩
theorem rowHand {w : World} {b : Nat} {h : Hd} (R : w.rangeAt b 0 (hdC h)) : w.cell? ⟨b, 0, none⟩ = some (.int .i64 h.at_) ∧ w.cell? ⟨b, 1, none⟩ = some (.int .i64 h.then_) ∧ w.cell? ⟨b, 2, none⟩ = some (.int .i64 h.code) ∧ w.cell? ⟨b, 3, none⟩ = some (.int .i64 h.key) ∧ w.cell? ⟨b, 4, none⟩ = some (.int .i64 h.value) ∧ w.cell? ⟨b, 5, none⟩ = some (.int .i64 h.begin) ∧ w.cell? ⟨b, 6, none⟩ = some (.int .i64 h.reply) ∧ w.cell? ⟨b, 7, none⟩ = some (.int .i64 h.out) ∧ w.cell? ⟨b, 8, none⟩ = some (.int .i64 h.sum) ∧ w.cell? ⟨b, 9, none⟩ = some (.int .i64 h.held) ∧ w.cell? ⟨b, 10, none⟩ = some (.int .i64 h.x_) ∧ w.cell? ⟨b, 11, none⟩ = some (.int .i64 h.ver) ∧ w.cell? ⟨b, 12, none⟩ = some (.int .i64 h.cam) ∧ w.cell? ⟨b, 13, none⟩ = some (.int .i64 h.camAt) ∧ w.cell? ⟨b, 14, none⟩ = some (.int .i64 h.pred) ∧ w.cell? ⟨b, 15, none⟩ = some (.int .i64 h.predVer) ∧ w.cell? ⟨b, 16, none⟩ = some (.int .i64 h.curr) ∧ w.cell? ⟨b, 17, none⟩ = some (.int .i64 h.currVer) ∧ w.cell? ⟨b, 18, none⟩ = some (.int .i64 h.new_) ∧ w.cell? ⟨b, 19, none⟩ = some (.int .i64 h.least) ∧ w.cell? ⟨b, 20, none⟩ = some (.int .i64 h.index) ∧ w.cell? ⟨b, 21, none⟩ = some (.int .i64 h.round) := by
 refine ⟨?_, ?_, ?_, ?_, ?_, ?_, ?_, ?_, ?_, ?_, ?_, ?_, ?_, ?_, ?_, ?_, ?_, ?_, ?_, ?_, ?_, ?_⟩
 ·simpa using R 0 (.int .i64 h.at_) rfl
 ·simpa using R 1 (.int .i64 h.then_) rfl
 ·simpa using R 2 (.int .i64 h.code) rfl
 ·simpa using R 3 (.int .i64 h.key) rfl
 ·simpa using R 4 (.int .i64 h.value) rfl
 ·simpa using R 5 (.int .i64 h.begin) rfl
 ·simpa using R 6 (.int .i64 h.reply) rfl
 ·simpa using R 7 (.int .i64 h.out) rfl
 ·simpa using R 8 (.int .i64 h.sum) rfl
 ·simpa using R 9 (.int .i64 h.held) rfl
 ·simpa using R 10 (.int .i64 h.x_) rfl
 ·simpa using R 11 (.int .i64 h.ver) rfl
 ·simpa using R 12 (.int .i64 h.cam) rfl
 ·simpa using R 13 (.int .i64 h.camAt) rfl
 ·simpa using R 14 (.int .i64 h.pred) rfl
 ·simpa using R 15 (.int .i64 h.predVer) rfl
 ·simpa using R 16 (.int .i64 h.curr) rfl
 ·simpa using R 17 (.int .i64 h.currVer) rfl
 ·simpa using R 18 (.int .i64 h.new_) rfl
 ·simpa using R 19 (.int .i64 h.least) rfl
 ·simpa using R 20 (.int .i64 h.index) rfl
 ·simpa using R 21 (.int .i64 h.round) rfl
set_option maxRecDepth 100000 in
set_option maxHeartbeats 4000000 in
theorem specHandOk_any (x y z u : Int) (h : Hd) (w : World) :
  Calls Tryz.prog 39 #[.agg #[.int .i64 x, .int .i64 y, .int .i64 z, .int .i64 u], .agg (hdC h).toArray] w fun e w' => e = .returned (.bool (handB x y z u h)) ∧ Below w.heap.size w w' := by
 show Calls Tryz.prog 39 #[.agg #[.int .i64 x, .int .i64 y, .int .i64 z, .int .i64 u], .agg #[.int .i64 h.at_, .int .i64 h.then_, .int .i64 h.code, .int .i64 h.key, .int .i64 h.value, .int .i64 h.begin, .int .i64 h.reply, .int .i64 h.out, .int .i64 h.sum, .int .i64 h.held, .int .i64 h.x_, .int .i64 h.ver, .int .i64 h.cam, .int .i64 h.camAt, .int .i64 h.pred, .int .i64 h.predVer, .int .i64 h.curr, .int .i64 h.currVer, .int .i64 h.new_, .int .i64 h.least, .int .i64 h.index, .int .i64 h.round]] w fun e w' => e = .returned (.bool (handB x y z u h)) ∧ Below w.heap.size w w'
 have P0 := (planAt_alloc w x y z u 43).below ((Below.refl _ _).alloc (Nat.le_refl _) (.cells (hdC h).toArray 36)) (by simp)
 have X0 := rangeAt_new (w.alloc (.cells #[.int .i64 x, .int .i64 y, .int .i64 z, .int .i64 u] 43)) (hdC h) 36
 have K0 := ((Below.refl w.heap.size w).alloc (Nat.le_refl _) (.cells #[.int .i64 x, .int .i64 y, .int .i64 z, .int .i64 u] 43)).alloc (by simp) (.cells (hdC h).toArray 36)
 have hz0 : w.heap.size + 1 < ((w.alloc (.cells #[.int .i64 x, .int .i64 y, .int .i64 z, .int .i64 u] 43)).alloc (.cells (hdC h).toArray 36)).heap.size := by simp
 simp only [World.size_alloc] at X0
 go_enter Tryz.func39, Tryz.ntmps39
 go_wp2_with fail
 change Calls Tryz.prog _ _ ((w.alloc (.cells #[.int .i64 x, .int .i64 y, .int .i64 z, .int .i64 u] 43)).alloc (.cells (hdC h).toArray 36)) _
 generalize hw0 : (w.alloc (.cells #[.int .i64 x, .int .i64 y, .int .i64 z, .int .i64 u] 43)).alloc (.cells (hdC h).toArray 36) = w0 at *
 clear hw0
 refine (specPlanOk_any _ _ _ _ _).mono ?_
 rintro e w1 ⟨rfl, b1⟩
 have P1 := P0.below b1 (by omega)
 have X1 := rangeAt_below X0 b1 hz0
 have K1 := K0.trans (b1.mono (by omega))
 have hz1 := Nat.lt_of_lt_of_le hz0 b1.size
 clear P0 X0 K0 b1 hz0
 cases h1 : planB x y z u
 ·have hv : handB x y z u h = false := by simp only [handB, h1, Bool.false_and]
  go_wp2_with fail
  go_ret
  exact ⟨by rw [hv]; rfl, K1⟩
 have hpl := (planB_iff x y z u).1 h1
 obtain ⟨p0, p1, p2, p3⟩ := id P1
 go_wp2_with (refine wpList_load_wanted ?hw 36 (.tmp 3) rfl (w.heap.size + 1) 0 rfl (hdC h) _ ?hc Tryz.underlying36 rfl (sizeHandL h) ?_)
 try (case hw => rfl)
 case hc => exact X1
 refine (l5Nodes_any x y z u h _ hpl.2.1 hpl.2.2.1).mono ?_
 rintro e w2 ⟨rfl, b2⟩
 have X2 := rangeAt_below X1 b2 hz1
 have K2 := K1.trans (b2.mono (by omega))
 clear P1 X1 K1 b2 p0 p1 p2 p3
 obtain ⟨x0, x1, x2, x3, x4, x5, x6, x7, x8, x9, x10, x11, x12, x13, x14, x15, x16, x17, x18, x19, x20, x21⟩ := rowHand X2
 clear X2 hpl
 cases h2 : handNB y z h
 ·have hv : handB x y z u h = false := by simp only [handB, h2, Bool.false_and, Bool.and_false]
  go_wp2_with fail
  go_ret
  exact ⟨by rw [hv]; rfl, K2⟩
 cases e0 : inB h.at_ 0 23
 ·have hv : handB x y z u h = false := by simp only [handB, handFB, e0, Bool.false_and, Bool.and_false]
  go_wp2_with (first | (go_at_call 40; refine (l1In_any _ _ _ _).mono ?_; rintro e w' ⟨rfl, hw⟩; obtain rfl := hw.symm) | (go_at_call 71; refine (l1Stamp_any _ _).mono ?_; rintro e w' ⟨rfl, hw⟩; obtain rfl := hw.symm) | (go_at_call 41; refine (l5Clock_any _ _).mono ?_; rintro e w' ⟨rfl, hw⟩; obtain rfl := hw.symm))
  go_ret
  exact ⟨by rw [hv]; rfl, K2⟩
 cases e1 : inB h.then_ 0 7
 ·have hv : handB x y z u h = false := by simp only [handB, handFB, e1, Bool.false_and, Bool.and_false]
  go_wp2_with (first | (go_at_call 40; refine (l1In_any _ _ _ _).mono ?_; rintro e w' ⟨rfl, hw⟩; obtain rfl := hw.symm) | (go_at_call 71; refine (l1Stamp_any _ _).mono ?_; rintro e w' ⟨rfl, hw⟩; obtain rfl := hw.symm) | (go_at_call 41; refine (l5Clock_any _ _).mono ?_; rintro e w' ⟨rfl, hw⟩; obtain rfl := hw.symm))
  go_ret
  exact ⟨by rw [hv]; rfl, K2⟩
 cases e2 : inB h.code 0 8
 ·have hv : handB x y z u h = false := by simp only [handB, handFB, e2, Bool.false_and, Bool.and_false]
  go_wp2_with (first | (go_at_call 40; refine (l1In_any _ _ _ _).mono ?_; rintro e w' ⟨rfl, hw⟩; obtain rfl := hw.symm) | (go_at_call 71; refine (l1Stamp_any _ _).mono ?_; rintro e w' ⟨rfl, hw⟩; obtain rfl := hw.symm) | (go_at_call 41; refine (l5Clock_any _ _).mono ?_; rintro e w' ⟨rfl, hw⟩; obtain rfl := hw.symm))
  go_ret
  exact ⟨by rw [hv]; rfl, K2⟩
 cases e3 : inB h.reply 0 7
 ·have hv : handB x y z u h = false := by simp only [handB, handFB, e3, Bool.false_and, Bool.and_false]
  go_wp2_with (first | (go_at_call 40; refine (l1In_any _ _ _ _).mono ?_; rintro e w' ⟨rfl, hw⟩; obtain rfl := hw.symm) | (go_at_call 71; refine (l1Stamp_any _ _).mono ?_; rintro e w' ⟨rfl, hw⟩; obtain rfl := hw.symm) | (go_at_call 41; refine (l5Clock_any _ _).mono ?_; rintro e w' ⟨rfl, hw⟩; obtain rfl := hw.symm))
  go_ret
  exact ⟨by rw [hv]; rfl, K2⟩
 cases e4 : inB h.key (-1) 63
 ·have hv : handB x y z u h = false := by simp only [handB, handFB, e4, Bool.false_and, Bool.and_false]
  go_wp2_with (first | (go_at_call 40; refine (l1In_any _ _ _ _).mono ?_; rintro e w' ⟨rfl, hw⟩; obtain rfl := hw.symm) | (go_at_call 71; refine (l1Stamp_any _ _).mono ?_; rintro e w' ⟨rfl, hw⟩; obtain rfl := hw.symm) | (go_at_call 41; refine (l5Clock_any _ _).mono ?_; rintro e w' ⟨rfl, hw⟩; obtain rfl := hw.symm))
  go_ret
  exact ⟨by rw [hv]; rfl, K2⟩
 cases e5 : inB h.value 0 9999
 ·have hv : handB x y z u h = false := by simp only [handB, handFB, e5, Bool.false_and, Bool.and_false]
  go_wp2_with (first | (go_at_call 40; refine (l1In_any _ _ _ _).mono ?_; rintro e w' ⟨rfl, hw⟩; obtain rfl := hw.symm) | (go_at_call 71; refine (l1Stamp_any _ _).mono ?_; rintro e w' ⟨rfl, hw⟩; obtain rfl := hw.symm) | (go_at_call 41; refine (l5Clock_any _ _).mono ?_; rintro e w' ⟨rfl, hw⟩; obtain rfl := hw.symm))
  go_ret
  exact ⟨by rw [hv]; rfl, K2⟩
 cases e6 : inB h.begin 0 20000
 ·have hv : handB x y z u h = false := by simp only [handB, handFB, e6, Bool.false_and, Bool.and_false]
  go_wp2_with (first | (go_at_call 40; refine (l1In_any _ _ _ _).mono ?_; rintro e w' ⟨rfl, hw⟩; obtain rfl := hw.symm) | (go_at_call 71; refine (l1Stamp_any _ _).mono ?_; rintro e w' ⟨rfl, hw⟩; obtain rfl := hw.symm) | (go_at_call 41; refine (l5Clock_any _ _).mono ?_; rintro e w' ⟨rfl, hw⟩; obtain rfl := hw.symm))
  go_ret
  exact ⟨by rw [hv]; rfl, K2⟩
 cases e7 : inB h.camAt 0 20000
 ·have hv : handB x y z u h = false := by simp only [handB, handFB, e7, Bool.false_and, Bool.and_false]
  go_wp2_with (first | (go_at_call 40; refine (l1In_any _ _ _ _).mono ?_; rintro e w' ⟨rfl, hw⟩; obtain rfl := hw.symm) | (go_at_call 71; refine (l1Stamp_any _ _).mono ?_; rintro e w' ⟨rfl, hw⟩; obtain rfl := hw.symm) | (go_at_call 41; refine (l5Clock_any _ _).mono ?_; rintro e w' ⟨rfl, hw⟩; obtain rfl := hw.symm))
  go_ret
  exact ⟨by rw [hv]; rfl, K2⟩
 cases e8 : inB h.round 0 20000
 ·have hv : handB x y z u h = false := by simp only [handB, handFB, e8, Bool.false_and, Bool.and_false]
  go_wp2_with (first | (go_at_call 40; refine (l1In_any _ _ _ _).mono ?_; rintro e w' ⟨rfl, hw⟩; obtain rfl := hw.symm) | (go_at_call 71; refine (l1Stamp_any _ _).mono ?_; rintro e w' ⟨rfl, hw⟩; obtain rfl := hw.symm) | (go_at_call 41; refine (l5Clock_any _ _).mono ?_; rintro e w' ⟨rfl, hw⟩; obtain rfl := hw.symm))
  go_ret
  exact ⟨by rw [hv]; rfl, K2⟩
 cases e9 : inB h.out 0 1000000
 ·have hv : handB x y z u h = false := by simp only [handB, handFB, e9, Bool.false_and, Bool.and_false]
  go_wp2_with (first | (go_at_call 40; refine (l1In_any _ _ _ _).mono ?_; rintro e w' ⟨rfl, hw⟩; obtain rfl := hw.symm) | (go_at_call 71; refine (l1Stamp_any _ _).mono ?_; rintro e w' ⟨rfl, hw⟩; obtain rfl := hw.symm) | (go_at_call 41; refine (l5Clock_any _ _).mono ?_; rintro e w' ⟨rfl, hw⟩; obtain rfl := hw.symm))
  go_ret
  exact ⟨by rw [hv]; rfl, K2⟩
 cases e10 : inB h.sum 0 1000000
 ·have hv : handB x y z u h = false := by simp only [handB, handFB, e10, Bool.false_and, Bool.and_false]
  go_wp2_with (first | (go_at_call 40; refine (l1In_any _ _ _ _).mono ?_; rintro e w' ⟨rfl, hw⟩; obtain rfl := hw.symm) | (go_at_call 71; refine (l1Stamp_any _ _).mono ?_; rintro e w' ⟨rfl, hw⟩; obtain rfl := hw.symm) | (go_at_call 41; refine (l5Clock_any _ _).mono ?_; rintro e w' ⟨rfl, hw⟩; obtain rfl := hw.symm))
  go_ret
  exact ⟨by rw [hv]; rfl, K2⟩
 cases e11 : inB h.held (-1) 100
 ·have hv : handB x y z u h = false := by simp only [handB, handFB, e11, Bool.false_and, Bool.and_false]
  go_wp2_with (first | (go_at_call 40; refine (l1In_any _ _ _ _).mono ?_; rintro e w' ⟨rfl, hw⟩; obtain rfl := hw.symm) | (go_at_call 71; refine (l1Stamp_any _ _).mono ?_; rintro e w' ⟨rfl, hw⟩; obtain rfl := hw.symm) | (go_at_call 41; refine (l5Clock_any _ _).mono ?_; rintro e w' ⟨rfl, hw⟩; obtain rfl := hw.symm))
  go_ret
  exact ⟨by rw [hv]; rfl, K2⟩
 cases e12 : inB h.cam 0 100
 ·have hv : handB x y z u h = false := by simp only [handB, handFB, e12, Bool.false_and, Bool.and_false]
  go_wp2_with (first | (go_at_call 40; refine (l1In_any _ _ _ _).mono ?_; rintro e w' ⟨rfl, hw⟩; obtain rfl := hw.symm) | (go_at_call 71; refine (l1Stamp_any _ _).mono ?_; rintro e w' ⟨rfl, hw⟩; obtain rfl := hw.symm) | (go_at_call 41; refine (l5Clock_any _ _).mono ?_; rintro e w' ⟨rfl, hw⟩; obtain rfl := hw.symm))
  go_ret
  exact ⟨by rw [hv]; rfl, K2⟩
 cases e13 : inB h.least 0 100
 ·have hv : handB x y z u h = false := by simp only [handB, handFB, e13, Bool.false_and, Bool.and_false]
  go_wp2_with (first | (go_at_call 40; refine (l1In_any _ _ _ _).mono ?_; rintro e w' ⟨rfl, hw⟩; obtain rfl := hw.symm) | (go_at_call 71; refine (l1Stamp_any _ _).mono ?_; rintro e w' ⟨rfl, hw⟩; obtain rfl := hw.symm) | (go_at_call 41; refine (l5Clock_any _ _).mono ?_; rintro e w' ⟨rfl, hw⟩; obtain rfl := hw.symm))
  go_ret
  exact ⟨by rw [hv]; rfl, K2⟩
 have hv : handB x y z u h = inB h.index 0 60 := by simp only [handB, handFB, h1, h2, e0, e1, e2, e3, e4, e5, e6, e7, e8, e9, e10, e11, e12, e13, Bool.true_and]
 go_wp2_with (first | (go_at_call 40; refine (l1In_any _ _ _ _).mono ?_; rintro e w' ⟨rfl, hw⟩; obtain rfl := hw.symm) | (go_at_call 71; refine (l1Stamp_any _ _).mono ?_; rintro e w' ⟨rfl, hw⟩; obtain rfl := hw.symm) | (go_at_call 41; refine (l5Clock_any _ _).mono ?_; rintro e w' ⟨rfl, hw⟩; obtain rfl := hw.symm))
 go_ret
 exact ⟨by rw [hv]; rfl, K2⟩
end
section
theorem list22 {α : Type} {l : List α} (h : l.length = 22) : ∃ c0 c1 c2 c3 c4 c5 c6 c7 c8 c9 c10 c11 c12 c13 c14 c15 c16 c17 c18 c19 c20 c21, l = [c0, c1, c2, c3, c4, c5, c6, c7, c8, c9, c10, c11, c12, c13, c14, c15, c16, c17, c18, c19, c20, c21] := by
 match l, h with
 | [c0, c1, c2, c3, c4, c5, c6, c7, c8, c9, c10, c11, c12, c13, c14, c15, c16, c17, c18, c19, c20, c21], _ => exact ⟨c0, c1, c2, c3, c4, c5, c6, c7, c8, c9, c10, c11, c12, c13, c14, c15, c16, c17, c18, c19, c20, c21, rfl⟩
set_option maxRecDepth 100000 in
set_option maxHeartbeats 1000000 in
theorem open_hand {H : Type} {enc : TypeId × Value → H} {W : World} {r : Reach} {b0 base : Nat} {spare : Nat → Bool} {held : Bool} {v : Value} {d : DataW H} {p : List MemPlace} (hv : Value.okWide Tryz.prog W r b0 30 v) (h : DataW.Trod enc Tryz.prog W base spare held 30 v d p) :
  ∃ h : Hd, v = .agg (hdC h).toArray := by
 obtain ⟨cs, rfl, hsz⟩ := okWide_struct Tryz.underlying30 hv
 obtain ⟨fuel, hf⟩ := h
 have hcs : (Value.agg cs).cells.toList = cs.toList := rfl
 rw [hcs] at hf
 obtain ⟨xs, m, _, _, hl, hlen, hg⟩ := DataW.trod_struct Tryz.underlying30 hf
 obtain ⟨c0, c1, c2, c3, c4, c5, c6, c7, c8, c9, c10, c11, c12, c13, c14, c15, c16, c17, c18, c19, c20, c21, hc⟩ := list22 (hl.trans (show Tryz.prog.cellsOf 30 = 22 by kernel_rfl))
 have hx : xs.length = 22 := hlen
 rw [hc] at hg
 have g0 := hg 0 _ rfl
 rw [List.getElem?_eq_getElem (by omega)] at g0
 have k0 : DataW.trod enc Tryz.prog W base spare held m 2 [c0] = some xs[0] := g0
 obtain ⟨v0, d0, _⟩ := DataW.trod_int Tryz.underlying2 k0
 obtain rfl : c0 = .int .i64 v0 := by simpa using d0
 clear g0 k0 d0
 have g1 := hg 1 _ rfl
 rw [List.getElem?_eq_getElem (by omega)] at g1
 have k1 : DataW.trod enc Tryz.prog W base spare held m 2 [c1] = some xs[1] := g1
 obtain ⟨v1, d1, _⟩ := DataW.trod_int Tryz.underlying2 k1
 obtain rfl : c1 = .int .i64 v1 := by simpa using d1
 clear g1 k1 d1
 have g2 := hg 2 _ rfl
 rw [List.getElem?_eq_getElem (by omega)] at g2
 have k2 : DataW.trod enc Tryz.prog W base spare held m 2 [c2] = some xs[2] := g2
 obtain ⟨v2, d2, _⟩ := DataW.trod_int Tryz.underlying2 k2
 obtain rfl : c2 = .int .i64 v2 := by simpa using d2
 clear g2 k2 d2
 have g3 := hg 3 _ rfl
 rw [List.getElem?_eq_getElem (by omega)] at g3
 have k3 : DataW.trod enc Tryz.prog W base spare held m 2 [c3] = some xs[3] := g3
 obtain ⟨v3, d3, _⟩ := DataW.trod_int Tryz.underlying2 k3
 obtain rfl : c3 = .int .i64 v3 := by simpa using d3
 clear g3 k3 d3
 have g4 := hg 4 _ rfl
 rw [List.getElem?_eq_getElem (by omega)] at g4
 have k4 : DataW.trod enc Tryz.prog W base spare held m 2 [c4] = some xs[4] := g4
 obtain ⟨v4, d4, _⟩ := DataW.trod_int Tryz.underlying2 k4
 obtain rfl : c4 = .int .i64 v4 := by simpa using d4
 clear g4 k4 d4
 have g5 := hg 5 _ rfl
 rw [List.getElem?_eq_getElem (by omega)] at g5
 have k5 : DataW.trod enc Tryz.prog W base spare held m 2 [c5] = some xs[5] := g5
 obtain ⟨v5, d5, _⟩ := DataW.trod_int Tryz.underlying2 k5
 obtain rfl : c5 = .int .i64 v5 := by simpa using d5
 clear g5 k5 d5
 have g6 := hg 6 _ rfl
 rw [List.getElem?_eq_getElem (by omega)] at g6
 have k6 : DataW.trod enc Tryz.prog W base spare held m 2 [c6] = some xs[6] := g6
 obtain ⟨v6, d6, _⟩ := DataW.trod_int Tryz.underlying2 k6
 obtain rfl : c6 = .int .i64 v6 := by simpa using d6
 clear g6 k6 d6
 have g7 := hg 7 _ rfl
 rw [List.getElem?_eq_getElem (by omega)] at g7
 have k7 : DataW.trod enc Tryz.prog W base spare held m 2 [c7] = some xs[7] := g7
 obtain ⟨v7, d7, _⟩ := DataW.trod_int Tryz.underlying2 k7
 obtain rfl : c7 = .int .i64 v7 := by simpa using d7
 clear g7 k7 d7
 have g8 := hg 8 _ rfl
 rw [List.getElem?_eq_getElem (by omega)] at g8
 have k8 : DataW.trod enc Tryz.prog W base spare held m 2 [c8] = some xs[8] := g8
 obtain ⟨v8, d8, _⟩ := DataW.trod_int Tryz.underlying2 k8
 obtain rfl : c8 = .int .i64 v8 := by simpa using d8
 clear g8 k8 d8
 have g9 := hg 9 _ rfl
 rw [List.getElem?_eq_getElem (by omega)] at g9
 have k9 : DataW.trod enc Tryz.prog W base spare held m 2 [c9] = some xs[9] := g9
 obtain ⟨v9, d9, _⟩ := DataW.trod_int Tryz.underlying2 k9
 obtain rfl : c9 = .int .i64 v9 := by simpa using d9
 clear g9 k9 d9
 have g10 := hg 10 _ rfl
 rw [List.getElem?_eq_getElem (by omega)] at g10
 have k10 : DataW.trod enc Tryz.prog W base spare held m 2 [c10] = some xs[10] := g10
 obtain ⟨v10, d10, _⟩ := DataW.trod_int Tryz.underlying2 k10
 obtain rfl : c10 = .int .i64 v10 := by simpa using d10
 clear g10 k10 d10
 have g11 := hg 11 _ rfl
 rw [List.getElem?_eq_getElem (by omega)] at g11
 have k11 : DataW.trod enc Tryz.prog W base spare held m 2 [c11] = some xs[11] := g11
 obtain ⟨v11, d11, _⟩ := DataW.trod_int Tryz.underlying2 k11
 obtain rfl : c11 = .int .i64 v11 := by simpa using d11
 clear g11 k11 d11
 have g12 := hg 12 _ rfl
 rw [List.getElem?_eq_getElem (by omega)] at g12
 have k12 : DataW.trod enc Tryz.prog W base spare held m 2 [c12] = some xs[12] := g12
 obtain ⟨v12, d12, _⟩ := DataW.trod_int Tryz.underlying2 k12
 obtain rfl : c12 = .int .i64 v12 := by simpa using d12
 clear g12 k12 d12
 have g13 := hg 13 _ rfl
 rw [List.getElem?_eq_getElem (by omega)] at g13
 have k13 : DataW.trod enc Tryz.prog W base spare held m 2 [c13] = some xs[13] := g13
 obtain ⟨v13, d13, _⟩ := DataW.trod_int Tryz.underlying2 k13
 obtain rfl : c13 = .int .i64 v13 := by simpa using d13
 clear g13 k13 d13
 have g14 := hg 14 _ rfl
 rw [List.getElem?_eq_getElem (by omega)] at g14
 have k14 : DataW.trod enc Tryz.prog W base spare held m 2 [c14] = some xs[14] := g14
 obtain ⟨v14, d14, _⟩ := DataW.trod_int Tryz.underlying2 k14
 obtain rfl : c14 = .int .i64 v14 := by simpa using d14
 clear g14 k14 d14
 have g15 := hg 15 _ rfl
 rw [List.getElem?_eq_getElem (by omega)] at g15
 have k15 : DataW.trod enc Tryz.prog W base spare held m 2 [c15] = some xs[15] := g15
 obtain ⟨v15, d15, _⟩ := DataW.trod_int Tryz.underlying2 k15
 obtain rfl : c15 = .int .i64 v15 := by simpa using d15
 clear g15 k15 d15
 have g16 := hg 16 _ rfl
 rw [List.getElem?_eq_getElem (by omega)] at g16
 have k16 : DataW.trod enc Tryz.prog W base spare held m 2 [c16] = some xs[16] := g16
 obtain ⟨v16, d16, _⟩ := DataW.trod_int Tryz.underlying2 k16
 obtain rfl : c16 = .int .i64 v16 := by simpa using d16
 clear g16 k16 d16
 have g17 := hg 17 _ rfl
 rw [List.getElem?_eq_getElem (by omega)] at g17
 have k17 : DataW.trod enc Tryz.prog W base spare held m 2 [c17] = some xs[17] := g17
 obtain ⟨v17, d17, _⟩ := DataW.trod_int Tryz.underlying2 k17
 obtain rfl : c17 = .int .i64 v17 := by simpa using d17
 clear g17 k17 d17
 have g18 := hg 18 _ rfl
 rw [List.getElem?_eq_getElem (by omega)] at g18
 have k18 : DataW.trod enc Tryz.prog W base spare held m 2 [c18] = some xs[18] := g18
 obtain ⟨v18, d18, _⟩ := DataW.trod_int Tryz.underlying2 k18
 obtain rfl : c18 = .int .i64 v18 := by simpa using d18
 clear g18 k18 d18
 have g19 := hg 19 _ rfl
 rw [List.getElem?_eq_getElem (by omega)] at g19
 have k19 : DataW.trod enc Tryz.prog W base spare held m 2 [c19] = some xs[19] := g19
 obtain ⟨v19, d19, _⟩ := DataW.trod_int Tryz.underlying2 k19
 obtain rfl : c19 = .int .i64 v19 := by simpa using d19
 clear g19 k19 d19
 have g20 := hg 20 _ rfl
 rw [List.getElem?_eq_getElem (by omega)] at g20
 have k20 : DataW.trod enc Tryz.prog W base spare held m 2 [c20] = some xs[20] := g20
 obtain ⟨v20, d20, _⟩ := DataW.trod_int Tryz.underlying2 k20
 obtain rfl : c20 = .int .i64 v20 := by simpa using d20
 clear g20 k20 d20
 have g21 := hg 21 _ rfl
 rw [List.getElem?_eq_getElem (by omega)] at g21
 have k21 : DataW.trod enc Tryz.prog W base spare held m 2 [c21] = some xs[21] := g21
 obtain ⟨v21, d21, _⟩ := DataW.trod_int Tryz.underlying2 k21
 obtain rfl : c21 = .int .i64 v21 := by simpa using d21
 clear g21 k21 d21
 refine ⟨⟨v0, v1, v2, v3, v4, v5, v6, v7, v8, v9, v10, v11, v12, v13, v14, v15, v16, v17, v18, v19, v20, v21⟩, ?_⟩
 congr 1
 apply Array.toList_inj.1
 rw [hc]
 rfl
end
section
theorem sizeLPlan : (Tryz.prog.info? 23).map (·.size) = some 4 := by kernel_rfl
theorem sizeLHand (h : Hd) : (Tryz.prog.info? 30).map (·.size) = some (hdC h).length := by
 show _ = some 22
 kernel_rfl
end
end Go.Proofs.YtlfjhcdjgoeafaaGreatDoor
