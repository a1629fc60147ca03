/-
  Who rests keeps nothing but its picture: at every list of bytes the law of resting returns true and leaves its argument as it was. No condition.
-/
import Derived.Test.YthjkdnlmopafkaaFnRest00
import Derived.Test.YthjkdnlmopafkaaFnRest02
import Derived.Test.YthjkdnlmopafkaaFnRest37
import Derived.Test.YthjkdnlmopafkaaFnRest38
namespace Go.Proofs.Ythjkdnlmopafkaa
open Go.ChangeShapes Go.WideShapes Go.ChangeAt Go.RowKit
set_option maxRecDepth 100000
set_option maxHeartbeats 16000000
set_option linter.unusedVariables false
set_option linter.unusedSimpArgs false
set_option linter.unnecessarySimpa false
set_option linter.unusedSectionVars false
section
open Go.ChangeShapes Go.WideShapes Go.ChangeAt Go.RowKit Go.Sort
attribute [local go_sem ↓] Go.wp_at_zero Go.wp_at_succ
theorem qzal {H : Type} {enc : TypeId × Value -> H} {W : World} {r : Reach} {b0 base : Nat} {spare : Nat -> Bool} {held : Bool} {v : Value} {d : DataW H} {p : List MemPlace} (hv : Value.okWide Try.prog W r b0 22 v) (h : DataW.Trod enc Try.prog W base spare held 22 v d p) :
  ∃ a len cap, v = .slice a len cap /\ qz1h W.heap.size W a len := by
 obtain ⟨a, len, cap, rfl⟩ := okWide_slice Try.underlying22 hv
 obtain ⟨fuel, hf⟩ := h
 refine ⟨a, len, cap, rfl, ?_⟩
 rcases open_ints Try.underlying22 Try.underlying5 (by kernel_rfl) hf with ⟨hcs, _⟩ | ⟨x, l, c, zs, hcs, _, hl, hm, hz, _, hcell, hwz⟩
 ·simp [Value.cells] at hcs
  obtain ⟨rfl, rfl, rfl⟩ := hcs
  intro j hj
  omega
 ·simp [Value.cells] at hcs
  obtain ⟨rfl, rfl, rfl⟩ := hcs
  intro j hj
  have hj2 : j < zs.length := by
   rw [hz]
   split <;> omega
  have hc := hcell j hj2
  obtain ⟨bb, off, spot⟩ := x
  have hspot : spot = none := by simpa [Addr.add] using World.cell?_spot (hcell 0 (by omega))
  subst hspot
  rw [Addr.add_mid] at hc
  have hw := hwz (zs.getD j 0) (by rw [List.getD_eq_getElem?_getD, List.getElem?_eq_getElem hj2]; exact List.getElem_mem hj2)
  have hb := bounds_u8 hw
  exact ⟨bb, off, zs.getD j 0, rfl, World.block_lt_of_cell? W _ hc, hc, hb.1, hb.2⟩
theorem qz5b {P : Program} {ops : Array Oper} {C : World -> Prop} {Q : Act -> Prop} {a : Act} {o : Oper} {rest : List Oper} (hgd : o.guard = none) (v : Value) (hv : ∀ w, C w -> (execOp a.eval o).run P w = .ok (.value v) w)
  (h : wpQuiet P ops C Q rest (a.put o.dst v)) : wpQuiet P ops C Q (o :: rest) a := by
 refine wpQuiet_step fun K hK => ?_
 rw [if_pos (by simp [Region.wanted, hgd])]
 refine ⟨v, fun w hw => ?_, hK _ h⟩
 unfold Oper.quietAt
 rw [hv w hw]
 exact ⟨rfl, rfl⟩
theorem qz6y (a : Option Addr) (len cap : Nat) (w : World) (C : qz1h w.heap.size w a len) :
  Calls Try.prog 5 #[.slice a len cap] w fun e w' => e = .returned (.bool true) /\ Below w.heap.size w w' := by
 by_cases hbig : (4096 : Int) < (len : Int)
 ·go_enter Try.func5, Try.ntmps5
  go_wp2_with (go_at_call 6; refine (qzc0 _ _ _ _).mono ?_; rintro e w' ⟨rfl, rfl⟩)
  go_ret
  exact ⟨rfl, Below.refl _ _⟩
 have hlen : len <= 4096 := by omega
 have hbf : decide ((4096 : Int) < (len : Int)) = false := by simpa using hbig
 go_enter Try.func5, Try.ntmps5
 go_wp2_with fail
 refine (qzc0 _ _ _ _).mono ?_
 rintro e w0 ⟨rfl, hw⟩
 obtain rfl := hw.symm
 rw [hbf]
 go_wp2_with fail
 refine (qz69 a len cap _ hlen C).mono ?_
 rintro e w1 ⟨g, rr, ro, rs, rfl, b1⟩
 have hs3 : (w1.alloc (.cells #[.int .i64 0, .int .i64 0, .int .i64 0, .int .i64 0, .int .i64 0, .int .i64 0, .int .i64 0, .int .i64 0, .int .i64 0, .int .i64 0, .int .i64 0, .int .i64 0, .int .i64 0, .int .i64 0, .int .i64 0, .int .i64 0, .int .i64 0, .int .i64 0, .int .i64 0, .int .i64 0, .int .i64 0, .int .i64 0] 56)).setCells w1.heap.size 0 (hdC g).toArray.toList = w1.alloc (.cells #[.int .i64 g.at_, .int .i64 g.then_, .int .i64 g.code, .int .i64 g.key, .int .i64 g.value, .int .i64 g.begin, .int .i64 g.reply, .int .i64 g.out, .int .i64 g.sum, .int .i64 g.held, .int .i64 g.x_, .int .i64 g.ver, .int .i64 g.cam, .int .i64 g.camAt, .int .i64 g.pred, .int .i64 g.predVer, .int .i64 g.curr, .int .i64 g.currVer, .int .i64 g.new_, .int .i64 g.least, .int .i64 g.index, .int .i64 g.round] 56) := qzv w1 56 (hdC g) [] [.int .i64 0, .int .i64 0, .int .i64 0, .int .i64 0, .int .i64 0, .int .i64 0, .int .i64 0, .int .i64 0, .int .i64 0, .int .i64 0, .int .i64 0, .int .i64 0, .int .i64 0, .int .i64 0, .int .i64 0, .int .i64 0, .int .i64 0, .int .i64 0, .int .i64 0, .int .i64 0, .int .i64 0, .int .i64 0] rfl
 have F3 := qzh w1 #[.int .i64 0, .int .i64 0, .int .i64 0, .int .i64 0, .int .i64 0, .int .i64 0, .int .i64 0, .int .i64 0, .int .i64 0, .int .i64 0, .int .i64 0, .int .i64 0, .int .i64 0, .int .i64 0, .int .i64 0, .int .i64 0, .int .i64 0, .int .i64 0, .int .i64 0, .int .i64 0, .int .i64 0, .int .i64 0] 56 22 (by decide)
 have K3 := b1.alloc b1.size (.cells #[.int .i64 g.at_, .int .i64 g.then_, .int .i64 g.code, .int .i64 g.key, .int .i64 g.value, .int .i64 g.begin, .int .i64 g.reply, .int .i64 g.out, .int .i64 g.sum, .int .i64 g.held, .int .i64 g.x_, .int .i64 g.ver, .int .i64 g.cam, .int .i64 g.camAt, .int .i64 g.pred, .int .i64 g.predVer, .int .i64 g.curr, .int .i64 g.currVer, .int .i64 g.new_, .int .i64 g.least, .int .i64 g.index, .int .i64 g.round] 56)
 have R3 : (w1.alloc (.cells #[.int .i64 g.at_, .int .i64 g.then_, .int .i64 g.code, .int .i64 g.key, .int .i64 g.value, .int .i64 g.begin, .int .i64 g.reply, .int .i64 g.out, .int .i64 g.sum, .int .i64 g.held, .int .i64 g.x_, .int .i64 g.ver, .int .i64 g.cam, .int .i64 g.camAt, .int .i64 g.pred, .int .i64 g.predVer, .int .i64 g.curr, .int .i64 g.currVer, .int .i64 g.new_, .int .i64 g.least, .int .i64 g.index, .int .i64 g.round] 56)).rangeAt w1.heap.size 0 (hdC g) := qzd w1 (hdC g) 56
 have z3 : w1.heap.size + 1 <= (w1.alloc (.cells #[.int .i64 g.at_, .int .i64 g.then_, .int .i64 g.code, .int .i64 g.key, .int .i64 g.value, .int .i64 g.begin, .int .i64 g.reply, .int .i64 g.out, .int .i64 g.sum, .int .i64 g.held, .int .i64 g.x_, .int .i64 g.ver, .int .i64 g.cam, .int .i64 g.camAt, .int .i64 g.pred, .int .i64 g.predVer, .int .i64 g.curr, .int .i64 g.currVer, .int .i64 g.new_, .int .i64 g.least, .int .i64 g.index, .int .i64 g.round] 56)).heap.size := by simp
 have zz1 := b1.size
 go_upto_region 4 with (refine wpList_store_mid rfl 56 (.tmp 3) (.tmp 16) rfl w1.heap.size 0 _ rfl rfl F3 (qzb g) (qzg g) ?_; rw [hs3])
 clear hs3 F3 b1
 generalize w1.alloc (.cells #[.int .i64 g.at_, .int .i64 g.then_, .int .i64 g.code, .int .i64 g.key, .int .i64 g.value, .int .i64 g.begin, .int .i64 g.reply, .int .i64 g.out, .int .i64 g.sum, .int .i64 g.held, .int .i64 g.x_, .int .i64 g.ver, .int .i64 g.cam, .int .i64 g.camAt, .int .i64 g.pred, .int .i64 g.predVer, .int .i64 g.curr, .int .i64 g.currVer, .int .i64 g.new_, .int .i64 g.least, .int .i64 g.index, .int .i64 g.round] 56) = w2 at *
 generalize w1.heap.size = b3 at *
 go_wp2_with (refine wpList_load_mid rfl 56 (.tmp 3) rfl b3 0 rfl (hdC g) _ ?l4 Try.underlying56 rfl (qz1 g) ?_)
 try (case l4 => exact R3)
 refine (qz9q g rr ro rs w2).mono ?_
 rintro e w3 ⟨rfl, b3'⟩
 have R4 := qz0 R3 b3' (by omega)
 have K4 := K3.trans (b3'.mono (by omega))
 have zz3 := b3'.size
 clear R3 K3 b3'
 have hs5 : (w3.alloc (.cells #[.int .i64 0, .int .i64 0, .int .i64 0, .int .i64 0, .int .i64 0, .int .i64 0, .int .i64 0, .int .i64 0, .int .i64 0, .int .i64 0, .int .i64 0, .int .i64 0, .int .i64 0, .int .i64 0, .int .i64 0, .int .i64 0, .int .i64 0, .int .i64 0, .int .i64 0, .int .i64 0, .int .i64 0, .int .i64 0] 56)).setCells w3.heap.size 0 (hdC (qzc g rr ro rs)).toArray.toList = w3.alloc (.cells #[.int .i64 0, .int .i64 0, .int .i64 0, .int .i64 (-1), .int .i64 0, .int .i64 0, .int .i64 rr, .int .i64 ro, .int .i64 rs, .int .i64 g.held, .int .i64 0, .int .i64 0, .int .i64 0, .int .i64 0, .int .i64 0, .int .i64 0, .int .i64 (-1), .int .i64 0, .int .i64 (-1), .int .i64 0, .int .i64 0, .int .i64 0] 56) := qzv w3 56 (hdC (qzc g rr ro rs)) [] [.int .i64 0, .int .i64 0, .int .i64 0, .int .i64 0, .int .i64 0, .int .i64 0, .int .i64 0, .int .i64 0, .int .i64 0, .int .i64 0, .int .i64 0, .int .i64 0, .int .i64 0, .int .i64 0, .int .i64 0, .int .i64 0, .int .i64 0, .int .i64 0, .int .i64 0, .int .i64 0, .int .i64 0, .int .i64 0] rfl
 have F5 := qzh w3 #[.int .i64 0, .int .i64 0, .int .i64 0, .int .i64 0, .int .i64 0, .int .i64 0, .int .i64 0, .int .i64 0, .int .i64 0, .int .i64 0, .int .i64 0, .int .i64 0, .int .i64 0, .int .i64 0, .int .i64 0, .int .i64 0, .int .i64 0, .int .i64 0, .int .i64 0, .int .i64 0, .int .i64 0, .int .i64 0] 56 22 (by decide)
 have al5 := (Below.refl w3.heap.size w3).alloc (Nat.le_refl _) (.cells #[.int .i64 0, .int .i64 0, .int .i64 0, .int .i64 (-1), .int .i64 0, .int .i64 0, .int .i64 rr, .int .i64 ro, .int .i64 rs, .int .i64 g.held, .int .i64 0, .int .i64 0, .int .i64 0, .int .i64 0, .int .i64 0, .int .i64 0, .int .i64 (-1), .int .i64 0, .int .i64 (-1), .int .i64 0, .int .i64 0, .int .i64 0] 56)
 have R5 := qz0 R4 al5 (by omega)
 have K5 := K4.trans (al5.mono (by omega))
 have X5 : (w3.alloc (.cells #[.int .i64 0, .int .i64 0, .int .i64 0, .int .i64 (-1), .int .i64 0, .int .i64 0, .int .i64 rr, .int .i64 ro, .int .i64 rs, .int .i64 g.held, .int .i64 0, .int .i64 0, .int .i64 0, .int .i64 0, .int .i64 0, .int .i64 0, .int .i64 (-1), .int .i64 0, .int .i64 (-1), .int .i64 0, .int .i64 0, .int .i64 0] 56)).rangeAt w3.heap.size 0 (hdC (qzc g rr ro rs)) := qzd w3 (hdC (qzc g rr ro rs)) 56
 have z5 : w3.heap.size + 1 <= (w3.alloc (.cells #[.int .i64 0, .int .i64 0, .int .i64 0, .int .i64 (-1), .int .i64 0, .int .i64 0, .int .i64 rr, .int .i64 ro, .int .i64 rs, .int .i64 g.held, .int .i64 0, .int .i64 0, .int .i64 0, .int .i64 0, .int .i64 0, .int .i64 0, .int .i64 (-1), .int .i64 0, .int .i64 (-1), .int .i64 0, .int .i64 0, .int .i64 0] 56)).heap.size := by simp
 go_upto_region 5 with (refine wpList_store_mid rfl 56 (.tmp 7) (.tmp 24) rfl w3.heap.size 0 _ rfl rfl F5 (qzb (qzc g rr ro rs)) (qzg _) ?_; rw [hs5])
 clear hs5 F5 al5 R4 K4
 generalize w3.alloc (.cells #[.int .i64 0, .int .i64 0, .int .i64 0, .int .i64 (-1), .int .i64 0, .int .i64 0, .int .i64 rr, .int .i64 ro, .int .i64 rs, .int .i64 g.held, .int .i64 0, .int .i64 0, .int .i64 0, .int .i64 0, .int .i64 0, .int .i64 0, .int .i64 (-1), .int .i64 0, .int .i64 (-1), .int .i64 0, .int .i64 0, .int .i64 0] 56) = w4 at *
 generalize hb7 : w3.heap.size = b7 at *
 clear hb7
 go_wp2_with fail
 refine (qz6r w4).mono ?_
 rintro e w5 ⟨rfl, b5'⟩
 have R6 := qz0 R5 b5' (by omega)
 have X6 := qz0 X5 b5' (by omega)
 have K6 := K5.trans (b5'.mono (by omega))
 have zz5 := b5'.size
 clear R5 X5 K5 b5'
 have hs7 : (w5.alloc (.cells #[.int .i64 0, .int .i64 0, .int .i64 0, .int .i64 0, .int .i64 0, .int .i64 0, .int .i64 0, .int .i64 0, .int .i64 0, .int .i64 0, .int .i64 0, .int .i64 0, .int .i64 0, .int .i64 0, .int .i64 0, .int .i64 0, .int .i64 0, .int .i64 0, .int .i64 0, .int .i64 0, .int .i64 0, .int .i64 0] 56)).setCells w5.heap.size 0 (hdC newH).toArray.toList = w5.alloc (.cells #[.int .i64 0, .int .i64 0, .int .i64 0, .int .i64 (-1), .int .i64 0, .int .i64 0, .int .i64 0, .int .i64 0, .int .i64 0, .int .i64 (-1), .int .i64 0, .int .i64 0, .int .i64 0, .int .i64 0, .int .i64 0, .int .i64 0, .int .i64 (-1), .int .i64 0, .int .i64 (-1), .int .i64 0, .int .i64 0, .int .i64 0] 56) := qzv w5 56 (hdC newH) [] [.int .i64 0, .int .i64 0, .int .i64 0, .int .i64 0, .int .i64 0, .int .i64 0, .int .i64 0, .int .i64 0, .int .i64 0, .int .i64 0, .int .i64 0, .int .i64 0, .int .i64 0, .int .i64 0, .int .i64 0, .int .i64 0, .int .i64 0, .int .i64 0, .int .i64 0, .int .i64 0, .int .i64 0, .int .i64 0] rfl
 have F7 := qzh w5 #[.int .i64 0, .int .i64 0, .int .i64 0, .int .i64 0, .int .i64 0, .int .i64 0, .int .i64 0, .int .i64 0, .int .i64 0, .int .i64 0, .int .i64 0, .int .i64 0, .int .i64 0, .int .i64 0, .int .i64 0, .int .i64 0, .int .i64 0, .int .i64 0, .int .i64 0, .int .i64 0, .int .i64 0, .int .i64 0] 56 22 (by decide)
 have al7 := (Below.refl w5.heap.size w5).alloc (Nat.le_refl _) (.cells #[.int .i64 0, .int .i64 0, .int .i64 0, .int .i64 (-1), .int .i64 0, .int .i64 0, .int .i64 0, .int .i64 0, .int .i64 0, .int .i64 (-1), .int .i64 0, .int .i64 0, .int .i64 0, .int .i64 0, .int .i64 0, .int .i64 0, .int .i64 (-1), .int .i64 0, .int .i64 (-1), .int .i64 0, .int .i64 0, .int .i64 0] 56)
 have R7 := qz0 R6 al7 (by omega)
 have X7 := qz0 X6 al7 (by omega)
 have K7 := K6.trans (al7.mono (by omega))
 have N7 : (w5.alloc (.cells #[.int .i64 0, .int .i64 0, .int .i64 0, .int .i64 (-1), .int .i64 0, .int .i64 0, .int .i64 0, .int .i64 0, .int .i64 0, .int .i64 (-1), .int .i64 0, .int .i64 0, .int .i64 0, .int .i64 0, .int .i64 0, .int .i64 0, .int .i64 (-1), .int .i64 0, .int .i64 (-1), .int .i64 0, .int .i64 0, .int .i64 0] 56)).rangeAt w5.heap.size 0 (hdC newH) := qzd w5 (hdC newH) 56
 have T7 := qzh w5 #[.int .i64 0, .int .i64 0, .int .i64 0, .int .i64 (-1), .int .i64 0, .int .i64 0, .int .i64 0, .int .i64 0, .int .i64 0, .int .i64 (-1), .int .i64 0, .int .i64 0, .int .i64 0, .int .i64 0, .int .i64 0, .int .i64 0, .int .i64 (-1), .int .i64 0, .int .i64 (-1), .int .i64 0, .int .i64 0, .int .i64 0] 56 22 (by decide)
 have z7 : w5.heap.size + 1 <= (w5.alloc (.cells #[.int .i64 0, .int .i64 0, .int .i64 0, .int .i64 (-1), .int .i64 0, .int .i64 0, .int .i64 0, .int .i64 0, .int .i64 0, .int .i64 (-1), .int .i64 0, .int .i64 0, .int .i64 0, .int .i64 0, .int .i64 0, .int .i64 0, .int .i64 (-1), .int .i64 0, .int .i64 (-1), .int .i64 0, .int .i64 0, .int .i64 0] 56)).heap.size := by simp
 go_upto_region 6 with (refine wpList_store_mid rfl 56 (.tmp 8) (.tmp 25) rfl w5.heap.size 0 _ rfl rfl F7 (qzb newH) (qzg _) ?_; rw [hs7])
 clear hs7 F7 al7 R6 X6 K6
 generalize w5.alloc (.cells #[.int .i64 0, .int .i64 0, .int .i64 0, .int .i64 (-1), .int .i64 0, .int .i64 0, .int .i64 0, .int .i64 0, .int .i64 0, .int .i64 (-1), .int .i64 0, .int .i64 0, .int .i64 0, .int .i64 0, .int .i64 0, .int .i64 0, .int .i64 (-1), .int .i64 0, .int .i64 (-1), .int .i64 0, .int .i64 0, .int .i64 0] 56) = w6 at *
 generalize hb8 : w5.heap.size = b8 at *
 clear hb8
 have q9 : w6.cell? ⟨b3, 9, none⟩ = some (.int .i64 g.held) := by simpa using R7 9 _ rfl
 have n9 : w6.cell? ⟨b8, 9, none⟩ = some (.int .i64 (-1)) := by simpa using N7 9 (.int .i64 (-1)) rfl
 have f9 : w6.frozen? ⟨b8, 9, none⟩ = false := by simpa using (T7 9 (by decide)).2
 have n6 : w6.cell? ⟨b8, 6, none⟩ = some (.int .i64 0) := by simpa using N7 6 (.int .i64 0) rfl
 have f6 : w6.frozen? ⟨b8, 6, none⟩ = false := by simpa using (T7 6 (by decide)).2
 have n7 : w6.cell? ⟨b8, 7, none⟩ = some (.int .i64 0) := by simpa using N7 7 (.int .i64 0) rfl
 have f7 : w6.frozen? ⟨b8, 7, none⟩ = false := by simpa using (T7 7 (by decide)).2
 have n8 : w6.cell? ⟨b8, 8, none⟩ = some (.int .i64 0) := by simpa using N7 8 (.int .i64 0) rfl
 have f8 : w6.frozen? ⟨b8, 8, none⟩ = false := by simpa using (T7 8 (by decide)).2
 go_upto_region 10 with fail
 have N8 : ((((w6.setCell ⟨b8, 9, none⟩ (.int .i64 g.held)).setCell ⟨b8, 6, none⟩ (.int .i64 rr)).setCell ⟨b8, 7, none⟩ (.int .i64 ro)).setCell ⟨b8, 8, none⟩ (.int .i64 rs)).rangeAt b8 0 (hdC (qzc g rr ro rs)) := qza (qza (qza (qza N7 9 (by simp [hdC]) (.int .i64 g.held)) 6 (by simp [hdC]) (.int .i64 rr)) 7 (by simp [hdC]) (.int .i64 ro)) 8 (by simp [hdC]) (.int .i64 rs)
 have hO8 : Only b8 w6 ((((w6.setCell ⟨b8, 9, none⟩ (.int .i64 g.held)).setCell ⟨b8, 6, none⟩ (.int .i64 rr)).setCell ⟨b8, 7, none⟩ (.int .i64 ro)).setCell ⟨b8, 8, none⟩ (.int .i64 rs)) := ((((Only.refl b8 w6).setCell (p := ⟨b8, 9, none⟩) (Or.inl rfl) _).setCell (p := ⟨b8, 6, none⟩) (Or.inl rfl) _).setCell (p := ⟨b8, 7, none⟩) (Or.inl rfl) _).setCell (p := ⟨b8, 8, none⟩) (Or.inl rfl) _
 have X8 := qz5 X7 hO8 (by omega) (by omega)
 have K8 := K7.trans (hO8.below (by omega) (by omega))
 have zz8 := hO8.size
 clear q9 n9 f9 n6 f6 n7 f7 n8 f8 N7 T7 X7 R7 K7 hO8
 generalize (((w6.setCell ⟨b8, 9, none⟩ (.int .i64 g.held)).setCell ⟨b8, 6, none⟩ (.int .i64 rr)).setCell ⟨b8, 7, none⟩ (.int .i64 ro)).setCell ⟨b8, 8, none⟩ (.int .i64 rs) = w7 at *
 go_wp2_with fail
 refine (qz71 a len cap w7 hlen ((C.below K8).weaken (by omega))).mono ?_
 rintro e w8 ⟨x, y, z, u, q, rfl, b9'⟩
 have N9 := qz0 N8 b9' (by omega)
 have X9 := qz0 X8 b9' (by omega)
 have K9 := K8.trans (b9'.mono (by omega))
 have zz9 := b9'.size
 clear N8 X8 K8 b9'
 have TP := World.there_alloc (qzh w8 #[.int .i64 0, .int .i64 0, .int .i64 0, .int .i64 0] 25 4 (by decide)) (.cells #[.int .i64 0, .int .i64 0, .int .i64 0, .int .i64 0, .int .i64 0, .int .i64 0, .int .i64 0, .int .i64 0, .int .i64 0, .int .i64 0, .int .i64 0, .int .i64 0, .int .i64 0, .int .i64 0, .int .i64 0, .int .i64 0, .int .i64 0, .int .i64 0, .int .i64 0, .int .i64 0, .int .i64 0, .int .i64 0] 56)
 have TH := World.there_setCells (qzh (w8.alloc (.cells #[.int .i64 0, .int .i64 0, .int .i64 0, .int .i64 0] 25)) #[.int .i64 0, .int .i64 0, .int .i64 0, .int .i64 0, .int .i64 0, .int .i64 0, .int .i64 0, .int .i64 0, .int .i64 0, .int .i64 0, .int .i64 0, .int .i64 0, .int .i64 0, .int .i64 0, .int .i64 0, .int .i64 0, .int .i64 0, .int .i64 0, .int .i64 0, .int .i64 0, .int .i64 0, .int .i64 0] 56 22 (by decide)) w8.heap.size 0 [.int .i64 x, .int .i64 y, .int .i64 z, .int .i64 u]
 simp only [World.size_alloc] at TH
 have KA : Below w8.heap.size w8 ((((w8.alloc (.cells #[.int .i64 0, .int .i64 0, .int .i64 0, .int .i64 0] 25)).alloc (.cells #[.int .i64 0, .int .i64 0, .int .i64 0, .int .i64 0, .int .i64 0, .int .i64 0, .int .i64 0, .int .i64 0, .int .i64 0, .int .i64 0, .int .i64 0, .int .i64 0, .int .i64 0, .int .i64 0, .int .i64 0, .int .i64 0, .int .i64 0, .int .i64 0, .int .i64 0, .int .i64 0, .int .i64 0, .int .i64 0] 56)).setCells w8.heap.size 0 [.int .i64 x, .int .i64 y, .int .i64 z, .int .i64 u]).setCells (w8.heap.size + 1) 0 (hdC q)) := Below.setCells (by omega) _ _ _ (Below.setCells (Nat.le_refl _) _ _ _ (((Below.refl _ _).alloc (Nat.le_refl _) _).alloc (by simp) _))
 have QA : ((((w8.alloc (.cells #[.int .i64 0, .int .i64 0, .int .i64 0, .int .i64 0] 25)).alloc (.cells #[.int .i64 0, .int .i64 0, .int .i64 0, .int .i64 0, .int .i64 0, .int .i64 0, .int .i64 0, .int .i64 0, .int .i64 0, .int .i64 0, .int .i64 0, .int .i64 0, .int .i64 0, .int .i64 0, .int .i64 0, .int .i64 0, .int .i64 0, .int .i64 0, .int .i64 0, .int .i64 0, .int .i64 0, .int .i64 0] 56)).setCells w8.heap.size 0 [.int .i64 x, .int .i64 y, .int .i64 z, .int .i64 u]).setCells (w8.heap.size + 1) 0 (hdC q)).rangeAt (w8.heap.size + 1) 0 (hdC q) := World.rangeAt_setCells_same _ _ _ _ TH
 have PA : ((((w8.alloc (.cells #[.int .i64 0, .int .i64 0, .int .i64 0, .int .i64 0] 25)).alloc (.cells #[.int .i64 0, .int .i64 0, .int .i64 0, .int .i64 0, .int .i64 0, .int .i64 0, .int .i64 0, .int .i64 0, .int .i64 0, .int .i64 0, .int .i64 0, .int .i64 0, .int .i64 0, .int .i64 0, .int .i64 0, .int .i64 0, .int .i64 0, .int .i64 0, .int .i64 0, .int .i64 0, .int .i64 0, .int .i64 0] 56)).setCells w8.heap.size 0 [.int .i64 x, .int .i64 y, .int .i64 z, .int .i64 u]).setCells (w8.heap.size + 1) 0 (hdC q)).rangeAt w8.heap.size 0 [.int .i64 x, .int .i64 y, .int .i64 z, .int .i64 u] := qz5 (World.rangeAt_setCells_same _ _ _ _ TP) (qz9 (w8.heap.size + 1) (hdC q) 0 _) (by rw [qzy]; simp; omega) (by omega)
 have zA : w8.heap.size + 2 <= ((((w8.alloc (.cells #[.int .i64 0, .int .i64 0, .int .i64 0, .int .i64 0] 25)).alloc (.cells #[.int .i64 0, .int .i64 0, .int .i64 0, .int .i64 0, .int .i64 0, .int .i64 0, .int .i64 0, .int .i64 0, .int .i64 0, .int .i64 0, .int .i64 0, .int .i64 0, .int .i64 0, .int .i64 0, .int .i64 0, .int .i64 0, .int .i64 0, .int .i64 0, .int .i64 0, .int .i64 0, .int .i64 0, .int .i64 0] 56)).setCells w8.heap.size 0 [.int .i64 x, .int .i64 y, .int .i64 z, .int .i64 u]).setCells (w8.heap.size + 1) 0 (hdC q)).heap.size := by rw [qzy, qzy]; simp
 go_upto_region 11 with (first | (refine wpList_store_mid rfl 25 (.tmp 9) (.tmp 38) rfl w8.heap.size 0 #[.int .i64 x, .int .i64 y, .int .i64 z, .int .i64 u] ?sx1 ?sy1 ?st1 qzt (by simp [Value.oneCell']) ?_) | (refine wpList_store_mid rfl 56 (.tmp 10) (.tmp 39) rfl (w8.heap.size + 1) 0 (hdC q).toArray ?sx2 ?sy2 ?st2 (qzb q) (qzg q) ?_))
 try (case sx1 => rfl)
 try (case sy1 => rfl)
 try (case st1 => exact TP)
 try (case sx2 => rfl)
 try (case sy2 => rfl)
 try (case st2 => exact TH)
 clear TP TH
 generalize (((w8.alloc (.cells #[.int .i64 0, .int .i64 0, .int .i64 0, .int .i64 0] 25)).alloc (.cells #[.int .i64 0, .int .i64 0, .int .i64 0, .int .i64 0, .int .i64 0, .int .i64 0, .int .i64 0, .int .i64 0, .int .i64 0, .int .i64 0, .int .i64 0, .int .i64 0, .int .i64 0, .int .i64 0, .int .i64 0, .int .i64 0, .int .i64 0, .int .i64 0, .int .i64 0, .int .i64 0, .int .i64 0, .int .i64 0] 56)).setCells w8.heap.size 0 [.int .i64 x, .int .i64 y, .int .i64 z, .int .i64 u]).setCells (w8.heap.size + 1) 0 (hdC q) = wa at *
 have NA := qz0 N9 KA (by omega)
 have XA := qz0 X9 KA (by omega)
 have KF := K9.trans (KA.mono (by omega))
 clear N9 X9 K9 KA
 generalize hb10 : w8.heap.size + 1 = b10 at *
 generalize hb9 : w8.heap.size = b9 at *
 have yx0 : ∀ (dq : Nat) (os : Array Obj), (grow (redrawn wa dq) os).cell? ⟨b7, 0, none⟩ = some (.int .i64 0) := fun dq os => cell_regrown (by simpa using XA 0 (.int .i64 0) rfl) dq os
 have yx16 : ∀ (dq : Nat) (os : Array Obj), (grow (redrawn wa dq) os).cell? ⟨b7, 16, none⟩ = some (.int .i64 (-1)) := fun dq os => cell_regrown (by simpa using XA 16 (.int .i64 (-1)) rfl) dq os
 have yx18 : ∀ (dq : Nat) (os : Array Obj), (grow (redrawn wa dq) os).cell? ⟨b7, 18, none⟩ = some (.int .i64 (-1)) := fun dq os => cell_regrown (by simpa using XA 18 (.int .i64 (-1)) rfl) dq os
 have yx3 : ∀ (dq : Nat) (os : Array Obj), (grow (redrawn wa dq) os).cell? ⟨b7, 3, none⟩ = some (.int .i64 (-1)) := fun dq os => cell_regrown (by simpa using XA 3 (.int .i64 (-1)) rfl) dq os
 have yp0 : ∀ (dq : Nat) (os : Array Obj), (grow (redrawn wa dq) os).cell? ⟨b9, 0, none⟩ = some (.int .i64 x) := fun dq os => cell_regrown (by simpa using PA 0 (.int .i64 x) rfl) dq os
 have yp1 : ∀ (dq : Nat) (os : Array Obj), (grow (redrawn wa dq) os).cell? ⟨b9, 1, none⟩ = some (.int .i64 y) := fun dq os => cell_regrown (by simpa using PA 1 (.int .i64 y) rfl) dq os
 have yp2 : ∀ (dq : Nat) (os : Array Obj), (grow (redrawn wa dq) os).cell? ⟨b9, 2, none⟩ = some (.int .i64 z) := fun dq os => cell_regrown (by simpa using PA 2 (.int .i64 z) rfl) dq os
 have yp3 : ∀ (dq : Nat) (os : Array Obj), (grow (redrawn wa dq) os).cell? ⟨b9, 3, none⟩ = some (.int .i64 u) := fun dq os => cell_regrown (by simpa using PA 3 (.int .i64 u) rfl) dq os
 cases hB : qz3b x y z u q
 ·have cI : ∀ (dq : Nat) (os : Array Obj), Calls Try.prog 28 #[.agg #[.int .i64 x, .int .i64 y, .int .i64 z, .int .i64 u], .agg (hdC q).toArray] (grow (redrawn wa dq) os) fun e w'' => e = .returned (.bool false) /\ ∃ p : Regrown, w'' = grow (redrawn wa p.d) p.os := fun dq os => by
   have hcl := qz7v x y z u q (grow (redrawn wa dq) os)
   rw [hB] at hcl
   exact Calls.regrown_of hcl
  have cS : ∀ (dq : Nat) (os : Array Obj), Calls Try.prog 29 #[.agg #[.int .i64 x, .int .i64 y, .int .i64 z, .int .i64 u], .agg (hdC q).toArray] (grow (redrawn wa dq) os) fun e w'' => e = .returned (.bool false) /\ ∃ p : Regrown, w'' = grow (redrawn wa p.d) p.os := fun dq os => by
   have hcl := qz3f x y z u q (grow (redrawn wa dq) os)
   rw [hB] at hcl
   exact Calls.regrown_of hcl
  clear hB
  refine wp_region_quiet_below (by kernel_rfl) (by kernel_rfl) ?_
  refine qz13 rfl 56 (.tmp 7) rfl b7 0 rfl (hdC (qzc g rr ro rs)) _ (fun w' hw' => by obtain ⟨⟨dq, os⟩, rfl⟩ := hw'; exact qz0 XA (below_regrown wa dq os) (by omega)) Try.underlying56 rfl (qz1 _) ?_
  refine qz13 rfl 56 (.tmp 8) rfl b8 0 rfl (hdC (qzc g rr ro rs)) _ (fun w' hw' => by obtain ⟨⟨dq, os⟩, rfl⟩ := hw'; exact qz0 NA (below_regrown wa dq os) (by omega)) Try.underlying56 rfl (qz1 _) ?_
  refine qz5b rfl (.bool true) (fun w' _ => qz6e _ _ (.tmp 40) (.tmp 41) _ rfl (qzc g rr ro rs) rfl rfl w') ?_
  simp only [Act.put, List.setIfInBounds_toArray, List.set_cons_succ, List.set_cons_zero]
  repeat (first | (refine qz2j rfl 56 (.tmp 10) rfl b10 0 rfl (hdC q) _ (fun w' hw' => by obtain ⟨⟨dq, os⟩, rfl⟩ := hw'; exact qz0 QA (below_regrown wa dq os) (by omega)) Try.underlying56 rfl (qz1 _) ?_; simp only [Act.put, List.setIfInBounds_toArray, List.set_cons_succ, List.set_cons_zero]) | go_big_quiet_step (first | exact cI _ _ | exact cS _ _))
  refine wpQuiet_nil ?_
  intro _ hw'
  obtain ⟨⟨dq, osq⟩, hw''⟩ := hw'
  subst hw''
  have bq := below_regrown wa dq osq
  have KG := KF.trans (bq.mono (by omega))
  go_wp2
  go_ret
  exact ⟨rfl, KG⟩
 ·have cI : ∀ (dq : Nat) (os : Array Obj), Calls Try.prog 28 #[.agg #[.int .i64 x, .int .i64 y, .int .i64 z, .int .i64 u], .agg (hdC q).toArray] (grow (redrawn wa dq) os) fun e w'' => e = .returned (.bool true) /\ ∃ p : Regrown, w'' = grow (redrawn wa p.d) p.os := fun dq os => by
   have hcl := qz7v x y z u q (grow (redrawn wa dq) os)
   rw [hB] at hcl
   exact Calls.regrown_of hcl
  have cS : ∀ (dq : Nat) (os : Array Obj), Calls Try.prog 29 #[.agg #[.int .i64 x, .int .i64 y, .int .i64 z, .int .i64 u], .agg (hdC q).toArray] (grow (redrawn wa dq) os) fun e w'' => e = .returned (.bool true) /\ ∃ p : Regrown, w'' = grow (redrawn wa p.d) p.os := fun dq os => by
   have hcl := qz3f x y z u q (grow (redrawn wa dq) os)
   rw [hB] at hcl
   exact Calls.regrown_of hcl
  clear hB
  refine wp_region_quiet_below (by kernel_rfl) (by kernel_rfl) ?_
  refine qz13 rfl 56 (.tmp 7) rfl b7 0 rfl (hdC (qzc g rr ro rs)) _ (fun w' hw' => by obtain ⟨⟨dq, os⟩, rfl⟩ := hw'; exact qz0 XA (below_regrown wa dq os) (by omega)) Try.underlying56 rfl (qz1 _) ?_
  refine qz13 rfl 56 (.tmp 8) rfl b8 0 rfl (hdC (qzc g rr ro rs)) _ (fun w' hw' => by obtain ⟨⟨dq, os⟩, rfl⟩ := hw'; exact qz0 NA (below_regrown wa dq os) (by omega)) Try.underlying56 rfl (qz1 _) ?_
  refine qz5b rfl (.bool true) (fun w' _ => qz6e _ _ (.tmp 40) (.tmp 41) _ rfl (qzc g rr ro rs) rfl rfl w') ?_
  simp only [Act.put, List.setIfInBounds_toArray, List.set_cons_succ, List.set_cons_zero]
  repeat (first | (refine qz2j rfl 56 (.tmp 10) rfl b10 0 rfl (hdC q) _ (fun w' hw' => by obtain ⟨⟨dq, os⟩, rfl⟩ := hw'; exact qz0 QA (below_regrown wa dq os) (by omega)) Try.underlying56 rfl (qz1 _) ?_; simp only [Act.put, List.setIfInBounds_toArray, List.set_cons_succ, List.set_cons_zero]) | go_big_quiet_step (first | exact cI _ _ | exact cS _ _))
  refine wpQuiet_nil ?_
  intro _ hw'
  obtain ⟨⟨dq, osq⟩, hw''⟩ := hw'
  subst hw''
  have bq := below_regrown wa dq osq
  have KG := KF.trans (bq.mono (by omega))
  go_wp2
  go_ret
  exact ⟨rfl, KG⟩
theorem qz60 (os : Os) (started : os.Started) (H : Type) (enc : TypeId × Value -> H) :
  ReturnsInHanded {} Try.checked os 5 .any (Rows.fnRestingSpec.pre6 enc Try.prog Try.f5 Rows.fnRestingRow.domain false) (Rows.fnRestingSpec.post enc Try.prog Try.f5 false true false false) := by
 refine returnsInHanded_of_change (C := Try.checked) own started (by kernel_rfl) Try.func5
  (ChangeSpec.witness6 (enc := enc) (C := Try.checked) false ⟨#[], #[.slice none 0 0], []⟩ 8 (by kernel_rfl) (by kernel_rfl) (by kernel_rfl) (by kernel_rfl)) ?_
 intro W base args ds gs before hval0 hW hcnd _
 have hval : ∀ (j : Nat) t v, Try.f5.params[j]? = some t -> args[j]? = some v -> Value.okWide Try.prog W .any base t v := hval0
 have hW' := hW
 obtain ⟨p, q, hA0, hV, rfl, hfz, hnd⟩ := hW
 have hA : DataW.TrodAll enc Try.prog W 0 (fun _ => true) true Try.f5.params.toList args.toList ds p := hA0
 rw [Try.params5] at hA hval
 obtain ⟨v0, vs0, d0, ds0, p0, q0, hargs, rfl, rfl, h0, r0⟩ := trodAll_cons hA
 obtain ⟨rfl, rfl, rfl⟩ := trodAll_nil r0
 obtain rfl : args = #[v0] := by cases args; simp_all
 obtain ⟨rfl, rfl⟩ := trodVars_none hV
 have k0 := h0
 have lt0 : ∀ x ∈ p0, x.block < W.heap.size := by obtain ⟨m, hm⟩ := k0; exact DataW.trod_lt m _ _ _ hm
 obtain ⟨a0, len0, cap0, hv0, w0⟩ := qzal (hval 0 22 v0 rfl rfl) h0
 subst hv0
 clear hA0 hval0
 refine (qz6y a0 len0 cap0 W w0).mono fun e W' ⟨he, bel⟩ => ?_
 subst he
 exact ⟨_, rfl, _, _, _, [], _, [], hW', trodAll_mk1 (shut_bool Try.underlying4 _), (trodAll_cons_mk (Below.trod qzcn (by kernel_rfl) (of_decide_eq_true (by kernel_rfl)) k0 bel lt0) trodAll_mk0), rfl, bel.frame _, fun h => by cases h⟩
theorem fnResting_holds : Rows.FnRestingSaid :=
 OpenClaim.holds_of_wide 5 Try.f5 rfl rfl rfl rfl rfl rfl rfl ⟨rfl, rfl, rfl, rfl, rfl⟩ rfl rfl rfl rfl rfl (by kernel_rfl) Try.func5 (by kernel_rfl)
  (of_decide_eq_true (by kernel_rfl)) (by unfold Func.isWrapper; first | (rw [if_pos (by decide +kernel)]; kernel_rfl) | (rw [if_neg (by decide +kernel)]; exact ⟨rfl, rfl⟩))
  (fun os started H enc _ => qz60 os started H enc)
#print axioms fnResting_holds
end
end Go.Proofs.Ythjkdnlmopafkaa
