/-
  What the law's proof goes by, part 7.
-/
import Derived.Test.YthjkdnlmopafkaaGreatFnSealed00
import Derived.Test.YthjkdnlmopafkaaGreatFnSealed01
import Derived.Test.YthjkdnlmopafkaaGreatFnSealed04
namespace Go.Proofs.YthjkdnlmopafkaaGreat
open Go.ChangeShapes Go.WideShapes Go.ChangeAt Go.RowKit
set_option maxRecDepth 100000
set_option maxHeartbeats 16000000
set_option linter.unusedVariables false
set_option linter.unusedSimpArgs false
set_option linter.unnecessarySimpa false
set_option linter.unusedSectionVars false
section
attribute [local go_sem ↓] Go.wp_at_zero Go.wp_at_succ
structure Hd where
 at_ : Int
 then_ : Int
 code : Int
 key : Int
 value : Int
 begin : Int
 reply : Int
 out : Int
 sum : Int
 held : Int
 x_ : Int
 ver : Int
 cam : Int
 camAt : Int
 pred : Int
 predVer : Int
 curr : Int
 currVer : Int
 new_ : Int
 least : Int
 index : Int
 round : Int
def hdC (h : Hd) : List Value := [.int .i64 h.at_, .int .i64 h.then_, .int .i64 h.code, .int .i64 h.key, .int .i64 h.value, .int .i64 h.begin, .int .i64 h.reply, .int .i64 h.out, .int .i64 h.sum, .int .i64 h.held, .int .i64 h.x_, .int .i64 h.ver, .int .i64 h.cam, .int .i64 h.camAt, .int .i64 h.pred, .int .i64 h.predVer, .int .i64 h.curr, .int .i64 h.currVer, .int .i64 h.new_, .int .i64 h.least, .int .i64 h.index, .int .i64 h.round]
theorem qz11 {P : Program} {ops : Array Oper} {rest : List Oper} {op : Oper} {a : Act} {w : World} {Q : Exit -> Act -> World -> Prop} (hw : Region.wanted op (yielded ops a.tmps) = true) (ty : TypeId) (x : Operand) (ho : op.op = .load ty x)
  (b o : Nat) (hx : a.eval x = .pointer (some ⟨b, o, none⟩)) (cs : List Value) (d : TypeDesc) (hc : w.rangeAt b o cs)
  (hu : P.underlying ty = some d) (hd : d.isRow = true) (hi : (P.info? ty).map (·.size) = some cs.length)
  (h : wpList P ops Q rest (a.put op.dst (.agg cs.toArray)) w) : wpList P ops Q (op :: rest) a w :=
 wpList_step fun K hK => by rw [if_pos hw]; exact wp_load_mid ty x ho b o hx cs d hc hu hd hi (hK _ _ h)
theorem qz7 (h : Hd) : (Tryz.prog.info? 53).map (fun i => i.size) = some (hdC h).toArray.size := by
 show _ = some 22
 kernel_rfl
theorem qz1 (h : Hd) : (Tryz.prog.info? 53).map (fun i => i.size) = some (hdC h).length := by
 show _ = some 22
 kernel_rfl
theorem qzd (h : Hd) : (hdC h).toArray.all (·.oneCell') = true := by simp [hdC, Value.oneCell']
def qz4o (y z : Int) (h : Hd) : Bool := inB h.x_ 0 (y - 1) && inB h.pred 0 (y - 1) && inB h.curr (-1) (y - 1) && inB h.new_ (-1) (y - 1) && inB h.ver 0 (z - 1) && inB h.predVer 0 (z - 1) && inB h.currVer 0 (z - 1)
def qz4p (h : Hd) : Bool := inB h.at_ 0 23 && inB h.then_ 0 7 && inB h.code 0 8 && inB h.reply 0 7 && inB h.key (-1) 63 && inB h.value 0 9999 && inB h.begin 0 20000 && inB h.camAt 0 20000 && inB h.round 0 20000 && inB h.out 0 1000000 && inB h.sum 0 1000000 && inB h.held (-1) 100 && inB h.cam 0 100 && inB h.least 0 100 && inB h.index 0 60
def qz3m (x y z u : Int) (h : Hd) : Bool := qz42 x y z u && qz4o y z h && qz4p h
theorem qz14 (n : Int) (w : World) : Calls Tryz.prog 64 #[.int .i64 n] w fun e w' => e = .returned (.bool (inB n 0 20000)) /\ w' = w := by
 go_enter Tryz.func64, Tryz.ntmps64
 go_wp2_with (go_at_call 63; refine (qzg _ _ _ _).mono ?_; rintro e w' ⟨rfl, hw⟩; obtain rfl := hw.symm)
 go_ret
 exact ⟨rfl, rfl⟩
theorem qzcm (x y z u : Int) (h : Hd) (w : World) (hy : 1 <= y /\ y <= 60) (hz : 1 <= z /\ z <= 400) :
  Calls Tryz.prog 113 Q6r w fun e w' => e = .returned (.bool (qz4o y z h)) /\ Below Q7b w w' := by
 show Calls Tryz.prog 113 #[.agg Q06, .agg Q07] w fun e w' => e = .returned (.bool (qz4o y z h)) /\ Below Q7b w w'
 have KK := ((Q7g Q7b w).alloc (Q7l _) (.cells Q06 28)).alloc (by simp) (.cells Q07 53)
 cases e0 : inB h.x_ 0 (y - 1)
 ·have hv : qz4o y z h = false := by simp only [qz4o, e0, Bool.false_and]
  go_enter Tryz.func113, Tryz.ntmps113
  go_wp2_with (go_at_call 63; refine (qzg _ _ _ _).mono ?_; rintro e w' ⟨rfl, hw⟩; obtain rfl := hw.symm)
  go_ret
  exact ⟨by rw [hv]; rfl, KK⟩
 cases e1 : inB h.pred 0 (y - 1)
 ·have hv : qz4o y z h = false := by simp only [qz4o, e1, Bool.false_and, Bool.and_false]
  go_enter Tryz.func113, Tryz.ntmps113
  go_wp2_with (go_at_call 63; refine (qzg _ _ _ _).mono ?_; rintro e w' ⟨rfl, hw⟩; obtain rfl := hw.symm)
  go_ret
  exact ⟨by rw [hv]; rfl, KK⟩
 cases e2 : inB h.curr (-1) (y - 1)
 ·have hv : qz4o y z h = false := by simp only [qz4o, e2, Bool.false_and, Bool.and_false]
  go_enter Tryz.func113, Tryz.ntmps113
  go_wp2_with (go_at_call 63; refine (qzg _ _ _ _).mono ?_; rintro e w' ⟨rfl, hw⟩; obtain rfl := hw.symm)
  go_ret
  exact ⟨by rw [hv]; rfl, KK⟩
 cases e3 : inB h.new_ (-1) (y - 1)
 ·have hv : qz4o y z h = false := by simp only [qz4o, e3, Bool.false_and, Bool.and_false]
  go_enter Tryz.func113, Tryz.ntmps113
  go_wp2_with (go_at_call 63; refine (qzg _ _ _ _).mono ?_; rintro e w' ⟨rfl, hw⟩; obtain rfl := hw.symm)
  go_ret
  exact ⟨by rw [hv]; rfl, KK⟩
 cases e4 : inB h.ver 0 (z - 1)
 ·have hv : qz4o y z h = false := by simp only [qz4o, e4, Bool.false_and, Bool.and_false]
  go_enter Tryz.func113, Tryz.ntmps113
  go_wp2_with (go_at_call 63; refine (qzg _ _ _ _).mono ?_; rintro e w' ⟨rfl, hw⟩; obtain rfl := hw.symm)
  go_ret
  exact ⟨by rw [hv]; rfl, KK⟩
 cases e5 : inB h.predVer 0 (z - 1)
 ·have hv : qz4o y z h = false := by simp only [qz4o, e5, Bool.false_and, Bool.and_false]
  go_enter Tryz.func113, Tryz.ntmps113
  go_wp2_with (go_at_call 63; refine (qzg _ _ _ _).mono ?_; rintro e w' ⟨rfl, hw⟩; obtain rfl := hw.symm)
  go_ret
  exact ⟨by rw [hv]; rfl, KK⟩
 have hv : qz4o y z h = inB h.currVer 0 (z - 1) := by simp only [qz4o, e0, e1, e2, e3, e4, e5, Bool.true_and]
 go_enter Tryz.func113, Tryz.ntmps113
 go_wp2_with (go_at_call 63; refine (qzg _ _ _ _).mono ?_; rintro e w' ⟨rfl, hw⟩; obtain rfl := hw.symm)
 go_ret
 exact ⟨by rw [hv]; rfl, KK⟩
theorem qzgk {w : World} {b : Nat} {h : Hd} (R : w.rangeAt b 0 (hdC h)) : w.cell? ⟨b, 0, none⟩ = some (.int .i64 h.at_) /\ w.cell? ⟨b, 1, none⟩ = some (.int .i64 h.then_) /\ w.cell? ⟨b, 2, none⟩ = some (.int .i64 h.code) /\ w.cell? ⟨b, 3, none⟩ = some (.int .i64 h.key) /\ w.cell? ⟨b, 4, none⟩ = some (.int .i64 h.value) /\ w.cell? ⟨b, 5, none⟩ = some (.int .i64 h.begin) /\ w.cell? ⟨b, 6, none⟩ = some (.int .i64 h.reply) /\ w.cell? ⟨b, 7, none⟩ = some (.int .i64 h.out) /\ w.cell? ⟨b, 8, none⟩ = some (.int .i64 h.sum) /\ w.cell? ⟨b, 9, none⟩ = some (.int .i64 h.held) /\ w.cell? ⟨b, 10, none⟩ = some (.int .i64 h.x_) /\ w.cell? ⟨b, 11, none⟩ = some (.int .i64 h.ver) /\ w.cell? ⟨b, 12, none⟩ = some (.int .i64 h.cam) /\ w.cell? ⟨b, 13, none⟩ = some (.int .i64 h.camAt) /\ w.cell? ⟨b, 14, none⟩ = some (.int .i64 h.pred) /\ w.cell? ⟨b, 15, none⟩ = some (.int .i64 h.predVer) /\ w.cell? ⟨b, 16, none⟩ = some (.int .i64 h.curr) /\ w.cell? ⟨b, 17, none⟩ = some (.int .i64 h.currVer) /\ w.cell? ⟨b, 18, none⟩ = some (.int .i64 h.new_) /\ w.cell? ⟨b, 19, none⟩ = some (.int .i64 h.least) /\ w.cell? ⟨b, 20, none⟩ = some (.int .i64 h.index) /\ w.cell? ⟨b, 21, none⟩ = some (.int .i64 h.round) := by
 refine ⟨?_, ?_, ?_, ?_, ?_, ?_, ?_, ?_, ?_, ?_, ?_, ?_, ?_, ?_, ?_, ?_, ?_, ?_, ?_, ?_, ?_, ?_⟩
 ·simpa using R 0 (.int .i64 h.at_) rfl
 ·simpa using R 1 (.int .i64 h.then_) rfl
 ·simpa using R 2 (.int .i64 h.code) rfl
 ·simpa using R 3 (.int .i64 h.key) rfl
 ·simpa using R 4 (.int .i64 h.value) rfl
 ·simpa using R 5 (.int .i64 h.begin) rfl
 ·simpa using R 6 (.int .i64 h.reply) rfl
 ·simpa using R 7 (.int .i64 h.out) rfl
 ·simpa using R 8 (.int .i64 h.sum) rfl
 ·simpa using R 9 (.int .i64 h.held) rfl
 ·simpa using R 10 (.int .i64 h.x_) rfl
 ·simpa using R 11 (.int .i64 h.ver) rfl
 ·simpa using R 12 (.int .i64 h.cam) rfl
 ·simpa using R 13 (.int .i64 h.camAt) rfl
 ·simpa using R 14 (.int .i64 h.pred) rfl
 ·simpa using R 15 (.int .i64 h.predVer) rfl
 ·simpa using R 16 (.int .i64 h.curr) rfl
 ·simpa using R 17 (.int .i64 h.currVer) rfl
 ·simpa using R 18 (.int .i64 h.new_) rfl
 ·simpa using R 19 (.int .i64 h.least) rfl
 ·simpa using R 20 (.int .i64 h.index) rfl
 ·simpa using R 21 (.int .i64 h.round) rfl
theorem qz4z (x y z u : Int) (h : Hd) (w : World) :
  Calls Tryz.prog 62 Q6r w fun e w' => e = .returned (.bool (qz3m x y z u h)) /\ Below Q7b w w' := by
 show Calls Tryz.prog 62 #[.agg Q06, .agg Q07] w fun e w' => e = .returned (.bool (qz3m x y z u h)) /\ Below Q7b w w'
 have P0 := (qz1w w x y z u 28).below ((Q7g _ _).alloc (Q7l _) Q0d) (by simp)
 have X0 := qz6 Q4y (hdC h) 53
 have K0 := ((Q7g Q7b w).alloc (Q7l _) (.cells Q06 28)).alloc (by simp) Q0d
 have hz0 : Q7b + 1 < (Q4v).heap.size := by simp
 simp only [World.size_alloc] at X0
 go_enter Tryz.func62, Tryz.ntmps62
 go_wp2_with fail
 change Calls Tryz.prog _ _ Q4v _
 generalize hw0 : (Q4y).alloc Q0d = w0 at *
 clear hw0
 refine (qz22 _ _ _ _ _).mono ?_
 rintro e w1 ⟨rfl, b1⟩
 have P1 := P0.below b1 (by omega)
 have X1 := qz0 X0 b1 hz0
 have K1 := K0.trans (b1.mono (by omega))
 have hz1 := Q7o hz0 b1.size
 clear P0 X0 K0 b1 hz0
 cases h1 : qz42 x y z u
 ·have hv : qz3m x y z u h = false := by simp only [qz3m, h1, Bool.false_and]
  go_wp2_with fail
  go_ret
  exact ⟨by rw [hv]; rfl, K1⟩
 have hpl := (qz2h x y z u).1 h1
 obtain ⟨p0, p1, p2, p3⟩ := id P1
 go_wp2_with (refine qz11 ?hw 53 (.tmp 3) rfl (Q7b + 1) 0 rfl (hdC h) _ ?hc Q7d rfl (qz1 h) ?_)
 try (case hw => rfl)
 case hc => exact X1
 refine (qzcm x y z u h _ hpl.2.1 hpl.2.2.1).mono ?_
 rintro e w2 ⟨rfl, b2⟩
 have X2 := qz0 X1 b2 hz1
 have K2 := K1.trans (b2.mono (by omega))
 clear P1 X1 K1 b2 p0 p1 p2 p3
 obtain ⟨x0, x1, x2, x3, x4, x5, x6, x7, x8, x9, x10, x11, x12, x13, x14, x15, x16, x17, x18, x19, x20, x21⟩ := qzgk X2
 clear X2 hpl
 cases h2 : qz4o y z h
 ·have hv : qz3m x y z u h = false := by simp only [qz3m, h2, Bool.false_and, Bool.and_false]
  go_wp2_with fail
  go_ret
  exact ⟨by rw [hv]; rfl, K2⟩
 cases e0 : inB h.at_ 0 23
 ·have hv : qz3m x y z u h = false := by simp only [qz3m, qz4p, e0, Bool.false_and, Bool.and_false]
  go_wp2_with (first | (go_at_call 63; refine (qzg _ _ _ _).mono ?_; rintro e w' ⟨rfl, hw⟩; obtain rfl := hw.symm) | (go_at_call 79; refine (qz17 _ _).mono ?_; rintro e w' ⟨rfl, hw⟩; obtain rfl := hw.symm) | (go_at_call 64; refine (qz14 _ _).mono ?_; rintro e w' ⟨rfl, hw⟩; obtain rfl := hw.symm))
  go_ret
  exact ⟨by rw [hv]; rfl, K2⟩
 cases e1 : inB h.then_ 0 7
 ·have hv : qz3m x y z u h = false := by simp only [qz3m, qz4p, e1, Bool.false_and, Bool.and_false]
  go_wp2_with (first | (go_at_call 63; refine (qzg _ _ _ _).mono ?_; rintro e w' ⟨rfl, hw⟩; obtain rfl := hw.symm) | (go_at_call 79; refine (qz17 _ _).mono ?_; rintro e w' ⟨rfl, hw⟩; obtain rfl := hw.symm) | (go_at_call 64; refine (qz14 _ _).mono ?_; rintro e w' ⟨rfl, hw⟩; obtain rfl := hw.symm))
  go_ret
  exact ⟨by rw [hv]; rfl, K2⟩
 cases e2 : inB h.code 0 8
 ·have hv : qz3m x y z u h = false := by simp only [qz3m, qz4p, e2, Bool.false_and, Bool.and_false]
  go_wp2_with (first | (go_at_call 63; refine (qzg _ _ _ _).mono ?_; rintro e w' ⟨rfl, hw⟩; obtain rfl := hw.symm) | (go_at_call 79; refine (qz17 _ _).mono ?_; rintro e w' ⟨rfl, hw⟩; obtain rfl := hw.symm) | (go_at_call 64; refine (qz14 _ _).mono ?_; rintro e w' ⟨rfl, hw⟩; obtain rfl := hw.symm))
  go_ret
  exact ⟨by rw [hv]; rfl, K2⟩
 cases e3 : inB h.reply 0 7
 ·have hv : qz3m x y z u h = false := by simp only [qz3m, qz4p, e3, Bool.false_and, Bool.and_false]
  go_wp2_with (first | (go_at_call 63; refine (qzg _ _ _ _).mono ?_; rintro e w' ⟨rfl, hw⟩; obtain rfl := hw.symm) | (go_at_call 79; refine (qz17 _ _).mono ?_; rintro e w' ⟨rfl, hw⟩; obtain rfl := hw.symm) | (go_at_call 64; refine (qz14 _ _).mono ?_; rintro e w' ⟨rfl, hw⟩; obtain rfl := hw.symm))
  go_ret
  exact ⟨by rw [hv]; rfl, K2⟩
 cases e4 : inB h.key (-1) 63
 ·have hv : qz3m x y z u h = false := by simp only [qz3m, qz4p, e4, Bool.false_and, Bool.and_false]
  go_wp2_with (first | (go_at_call 63; refine (qzg _ _ _ _).mono ?_; rintro e w' ⟨rfl, hw⟩; obtain rfl := hw.symm) | (go_at_call 79; refine (qz17 _ _).mono ?_; rintro e w' ⟨rfl, hw⟩; obtain rfl := hw.symm) | (go_at_call 64; refine (qz14 _ _).mono ?_; rintro e w' ⟨rfl, hw⟩; obtain rfl := hw.symm))
  go_ret
  exact ⟨by rw [hv]; rfl, K2⟩
 cases e5 : inB h.value 0 9999
 ·have hv : qz3m x y z u h = false := by simp only [qz3m, qz4p, e5, Bool.false_and, Bool.and_false]
  go_wp2_with (first | (go_at_call 63; refine (qzg _ _ _ _).mono ?_; rintro e w' ⟨rfl, hw⟩; obtain rfl := hw.symm) | (go_at_call 79; refine (qz17 _ _).mono ?_; rintro e w' ⟨rfl, hw⟩; obtain rfl := hw.symm) | (go_at_call 64; refine (qz14 _ _).mono ?_; rintro e w' ⟨rfl, hw⟩; obtain rfl := hw.symm))
  go_ret
  exact ⟨by rw [hv]; rfl, K2⟩
 cases e6 : inB h.begin 0 20000
 ·have hv : qz3m x y z u h = false := by simp only [qz3m, qz4p, e6, Bool.false_and, Bool.and_false]
  go_wp2_with (first | (go_at_call 63; refine (qzg _ _ _ _).mono ?_; rintro e w' ⟨rfl, hw⟩; obtain rfl := hw.symm) | (go_at_call 79; refine (qz17 _ _).mono ?_; rintro e w' ⟨rfl, hw⟩; obtain rfl := hw.symm) | (go_at_call 64; refine (qz14 _ _).mono ?_; rintro e w' ⟨rfl, hw⟩; obtain rfl := hw.symm))
  go_ret
  exact ⟨by rw [hv]; rfl, K2⟩
 cases e7 : inB h.camAt 0 20000
 ·have hv : qz3m x y z u h = false := by simp only [qz3m, qz4p, e7, Bool.false_and, Bool.and_false]
  go_wp2_with (first | (go_at_call 63; refine (qzg _ _ _ _).mono ?_; rintro e w' ⟨rfl, hw⟩; obtain rfl := hw.symm) | (go_at_call 79; refine (qz17 _ _).mono ?_; rintro e w' ⟨rfl, hw⟩; obtain rfl := hw.symm) | (go_at_call 64; refine (qz14 _ _).mono ?_; rintro e w' ⟨rfl, hw⟩; obtain rfl := hw.symm))
  go_ret
  exact ⟨by rw [hv]; rfl, K2⟩
 cases e8 : inB h.round 0 20000
 ·have hv : qz3m x y z u h = false := by simp only [qz3m, qz4p, e8, Bool.false_and, Bool.and_false]
  go_wp2_with (first | (go_at_call 63; refine (qzg _ _ _ _).mono ?_; rintro e w' ⟨rfl, hw⟩; obtain rfl := hw.symm) | (go_at_call 79; refine (qz17 _ _).mono ?_; rintro e w' ⟨rfl, hw⟩; obtain rfl := hw.symm) | (go_at_call 64; refine (qz14 _ _).mono ?_; rintro e w' ⟨rfl, hw⟩; obtain rfl := hw.symm))
  go_ret
  exact ⟨by rw [hv]; rfl, K2⟩
 cases e9 : inB h.out 0 1000000
 ·have hv : qz3m x y z u h = false := by simp only [qz3m, qz4p, e9, Bool.false_and, Bool.and_false]
  go_wp2_with (first | (go_at_call 63; refine (qzg _ _ _ _).mono ?_; rintro e w' ⟨rfl, hw⟩; obtain rfl := hw.symm) | (go_at_call 79; refine (qz17 _ _).mono ?_; rintro e w' ⟨rfl, hw⟩; obtain rfl := hw.symm) | (go_at_call 64; refine (qz14 _ _).mono ?_; rintro e w' ⟨rfl, hw⟩; obtain rfl := hw.symm))
  go_ret
  exact ⟨by rw [hv]; rfl, K2⟩
 cases e10 : inB h.sum 0 1000000
 ·have hv : qz3m x y z u h = false := by simp only [qz3m, qz4p, e10, Bool.false_and, Bool.and_false]
  go_wp2_with (first | (go_at_call 63; refine (qzg _ _ _ _).mono ?_; rintro e w' ⟨rfl, hw⟩; obtain rfl := hw.symm) | (go_at_call 79; refine (qz17 _ _).mono ?_; rintro e w' ⟨rfl, hw⟩; obtain rfl := hw.symm) | (go_at_call 64; refine (qz14 _ _).mono ?_; rintro e w' ⟨rfl, hw⟩; obtain rfl := hw.symm))
  go_ret
  exact ⟨by rw [hv]; rfl, K2⟩
 cases e11 : inB h.held (-1) 100
 ·have hv : qz3m x y z u h = false := by simp only [qz3m, qz4p, e11, Bool.false_and, Bool.and_false]
  go_wp2_with (first | (go_at_call 63; refine (qzg _ _ _ _).mono ?_; rintro e w' ⟨rfl, hw⟩; obtain rfl := hw.symm) | (go_at_call 79; refine (qz17 _ _).mono ?_; rintro e w' ⟨rfl, hw⟩; obtain rfl := hw.symm) | (go_at_call 64; refine (qz14 _ _).mono ?_; rintro e w' ⟨rfl, hw⟩; obtain rfl := hw.symm))
  go_ret
  exact ⟨by rw [hv]; rfl, K2⟩
 cases e12 : inB h.cam 0 100
 ·have hv : qz3m x y z u h = false := by simp only [qz3m, qz4p, e12, Bool.false_and, Bool.and_false]
  go_wp2_with (first | (go_at_call 63; refine (qzg _ _ _ _).mono ?_; rintro e w' ⟨rfl, hw⟩; obtain rfl := hw.symm) | (go_at_call 79; refine (qz17 _ _).mono ?_; rintro e w' ⟨rfl, hw⟩; obtain rfl := hw.symm) | (go_at_call 64; refine (qz14 _ _).mono ?_; rintro e w' ⟨rfl, hw⟩; obtain rfl := hw.symm))
  go_ret
  exact ⟨by rw [hv]; rfl, K2⟩
 cases e13 : inB h.least 0 100
 ·have hv : qz3m x y z u h = false := by simp only [qz3m, qz4p, e13, Bool.false_and, Bool.and_false]
  go_wp2_with (first | (go_at_call 63; refine (qzg _ _ _ _).mono ?_; rintro e w' ⟨rfl, hw⟩; obtain rfl := hw.symm) | (go_at_call 79; refine (qz17 _ _).mono ?_; rintro e w' ⟨rfl, hw⟩; obtain rfl := hw.symm) | (go_at_call 64; refine (qz14 _ _).mono ?_; rintro e w' ⟨rfl, hw⟩; obtain rfl := hw.symm))
  go_ret
  exact ⟨by rw [hv]; rfl, K2⟩
 have hv : qz3m x y z u h = inB h.index 0 60 := by simp only [qz3m, qz4p, h1, h2, e0, e1, e2, e3, e4, e5, e6, e7, e8, e9, e10, e11, e12, e13, Bool.true_and]
 go_wp2_with (first | (go_at_call 63; refine (qzg _ _ _ _).mono ?_; rintro e w' ⟨rfl, hw⟩; obtain rfl := hw.symm) | (go_at_call 79; refine (qz17 _ _).mono ?_; rintro e w' ⟨rfl, hw⟩; obtain rfl := hw.symm) | (go_at_call 64; refine (qz14 _ _).mono ?_; rintro e w' ⟨rfl, hw⟩; obtain rfl := hw.symm))
 go_ret
 exact ⟨by rw [hv]; rfl, K2⟩
end
section
attribute [local go_sem ↓] Go.wp_at_zero Go.wp_at_succ
theorem qz10 (w : World) (T : TypeId) : ∀ (vs pre zs : List Value), zs.length = vs.length ->
  (w.alloc (.cells (pre ++ zs).toArray T)).setCells Q7b pre.length vs = w.alloc (.cells (pre ++ vs).toArray T)
 | [], pre, zs, h => by
  obtain rfl : zs = [] := List.eq_nil_of_length_eq_zero h
  rfl
 | v :: vs, pre, z :: zs, h => by
  simp only [World.setCells]
  have e : (w.alloc (.cells (pre ++ z :: zs).toArray T)).setCell ⟨Q7b, pre.length, none⟩ v = w.alloc (.cells ((pre ++ [v]) ++ zs).toArray T) := by
   rw [World.setCell_alloc_new]
   simp
  rw [e]
  have := qz10 w T vs (pre ++ [v]) zs (by simpa using h)
  simp only [List.length_append, List.length_cons, List.length_nil, Nat.zero_add] at this
  rw [this]
  simp
def newH : Hd := ⟨0, 0, 0, -1, 0, 0, 0, 0, 0, -1, 0, 0, 0, 0, 0, 0, -1, 0, -1, 0, 0, 0⟩
def qz9 (h : Hd) (rp ot sm : Int) : Hd := ⟨0, 0, 0, -1, 0, 0, rp, ot, sm, h.held, 0, 0, 0, 0, 0, 0, -1, 0, -1, 0, 0, 0⟩
theorem qz8y (w : World) : Calls Tryz.prog 116 #[] w fun e w' => e = .returned (.agg (hdC newH).toArray) /\ Below Q7b w w' := by
 have F0 := qza w Q00 53 22 (by decide)
 go_enter Tryz.func116, Tryz.ntmps116
 go_wp2_with (refine Q7e rfl 53 (.tmp 0) (.tmp 1) rfl Q7b 0 _ rfl rfl ?ht ?hi ?h1 ?_)
 case ht => exact F0
 case hi => exact qz7 newH
 case h1 => exact qzd newH
 refine bodyPost_ret (v := .agg (hdC newH).toArray) ?_ rfl ⟨rfl, ?_⟩
 ·exact qz3 Tryz.results116 _ _ Q7b 0 rfl (hdC newH) _ (Q7c _ _ _ _ F0) Q7d rfl (qz1 newH)
 ·exact Below.setCells (Q7l _) _ _ _ ((Q7g _ _).alloc (Q7l _) _)
theorem qz5i (h : Hd) (rp ot sm : Int) (w : World) :
  Calls Tryz.prog 147 Q6l w fun e w' => e = .returned (.agg (hdC (qz9 h rp ot sm)).toArray) /\ Below Q7b w w' := by
 show Calls Tryz.prog 147 #[.agg Q07, .int .i64 rp, .int .i64 ot, .int .i64 sm] w fun e w' => e = .returned (.agg (hdC (qz9 h rp ot sm)).toArray) /\ Below Q7b w w'
 have X0 := Q7n (qz6 w (hdC h) 53) (.cells Q00 53)
 have F0 := qza (w.alloc Q0d) Q00 53 22 (by decide)
 have K0 := ((Q7g Q7b w).alloc (Q7l _) Q0d).alloc (by simp) (.cells Q00 53)
 have hz0 : Q7b + 1 < (Q4g).heap.size := by simp
 simp only [World.size_alloc] at F0
 go_enter Tryz.func147, Tryz.ntmps147
 go_wp2_with fail
 change Calls Tryz.prog _ _ Q4g _
 generalize hw0 : (w.alloc Q0d).alloc (.cells Q00 53) = w0 at *
 clear hw0
 refine (qz8y _).mono ?_
 rintro e w1 ⟨rfl, b1⟩
 have q9 : w1.cell? ⟨Q7b, 9, none⟩ = some (.int .i64 h.held) := (b1.cell (p := ⟨Q7b, 9, none⟩) (by show Q7b < Q7r; omega)).trans (by have := X0 9 (.int .i64 h.held) rfl; simpa using this)
 have F1 := qz2 F0 b1 hz0
 have K1 := K0.trans (b1.mono (by omega))
 have hz1 := Q7o hz0 b1.size
 have qa : ∀ o : Obj, (w1.alloc o).cell? ⟨Q7b, 9, none⟩ = some (.int .i64 h.held) := fun o => (World.cell?_alloc_lt _ _ _ (by show Q7b < Q7k; omega)).trans q9
 clear X0 F0 K0 b1 hz0 q9
 have hset : (w1.alloc (.cells Q00 53)).setCells Q7k 0 (hdC newH).toArray.toList = w1.alloc Q3r := qz10 w1 53 (hdC newH) [] Q0l rfl
 have FA := qza w1 Q00 53 22 (by decide)
 have K2 := K1.alloc (by omega) Q6t
 have R2 := qz6 w1 (hdC (qz9 h rp ot sm)) 53
 have F2 := Q80 F1 Q6t
 go_wp2_with (first | (refine wpList_store_mid rfl 53 (.tmp 9) (.tmp 10) rfl w1.heap.size 0 _ rfl rfl FA (qz7 newH) (qzd newH) ?_; rw [hset]) | (refine wpList_load_mid rfl 53 (.tmp 9) rfl w1.heap.size 0 rfl (hdC (qz9 h rp ot sm)) _ ?hc Tryz.underlying53 rfl (qz1 _) ?_) | (refine wpList_store_mid rfl 53 (.tmp 8) _ rfl (w.heap.size + 1) 0 _ rfl rfl ?ht ?hi ?h1 ?_))
 case hc => exact R2
 case ht => exact F2
 case hi => exact qz7 _
 case h1 => exact qzd _
 refine bodyPost_ret (v := .agg (hdC (qz9 h rp ot sm)).toArray) ?_ rfl ⟨rfl, ?_⟩
 ·exact qz3 Tryz.results147 _ _ (Q7b + 1) 0 rfl (hdC (qz9 h rp ot sm)) _ (Q7c _ _ _ _ F2) Q7d rfl (qz1 _)
 ·exact Below.setCells (by omega) _ _ _ K2
end
end Go.Proofs.YthjkdnlmopafkaaGreat
