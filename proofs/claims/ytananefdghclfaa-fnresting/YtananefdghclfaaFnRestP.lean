/-
  Who rests keeps nothing but its picture: at every list of bytes the law of resting returns true and leaves its argument as it was. No condition.
-/
import Derived.Laws.StructEq
import Derived.Test.YtananefdghclfaaFnRestO
namespace Go.Proofs.Ytananefdghclfaa
open Go.ChangeShapes Go.WideShapes Go.ChangeAt Go.RowKit
set_option linter.unusedVariables false
set_option linter.unusedSimpArgs false
set_option linter.unnecessarySimpa false
set_option linter.unusedSectionVars false
section
attribute [local go_sem ↓] Go.wp_at_zero Go.wp_at_succ
set_option maxRecDepth 100000 in
set_option maxHeartbeats 4000000 in
theorem drawHandOk_any (a : Option Addr) (len cap : Nat) (w : World) (hlen : len ≤ 4096) (C : BytesAt w.heap.size w a len) :
  Calls Try.prog 30 #[.slice a len cap] w fun e w' => ∃ x y z u g, e = .returned (.tuple #[.agg #[.int .i64 x, .int .i64 y, .int .i64 z, .int .i64 u], .agg (hdC g).toArray]) ∧ Below w.heap.size w w' := by
 have T0 := World.there_alloc (there_new w #[.int .i64 0, .int .i64 0, .int .i64 0, .int .i64 0] 25 4 (by decide)) (.cells #[.int .i64 0, .int .i64 0, .int .i64 0, .int .i64 0, .int .i64 0, .int .i64 0, .int .i64 0, .int .i64 0, .int .i64 0, .int .i64 0, .int .i64 0, .int .i64 0, .int .i64 0, .int .i64 0, .int .i64 0, .int .i64 0, .int .i64 0, .int .i64 0, .int .i64 0, .int .i64 0, .int .i64 0, .int .i64 0] 56)
 have U0 := there_new (w.alloc (.cells #[.int .i64 0, .int .i64 0, .int .i64 0, .int .i64 0] 25)) #[.int .i64 0, .int .i64 0, .int .i64 0, .int .i64 0, .int .i64 0, .int .i64 0, .int .i64 0, .int .i64 0, .int .i64 0, .int .i64 0, .int .i64 0, .int .i64 0, .int .i64 0, .int .i64 0, .int .i64 0, .int .i64 0, .int .i64 0, .int .i64 0, .int .i64 0, .int .i64 0, .int .i64 0, .int .i64 0] 56 22 (by decide)
 have K0 := ((Below.refl w.heap.size w).alloc (Nat.le_refl _) (.cells #[.int .i64 0, .int .i64 0, .int .i64 0, .int .i64 0] 25)).alloc (by simp) (.cells #[.int .i64 0, .int .i64 0, .int .i64 0, .int .i64 0, .int .i64 0, .int .i64 0, .int .i64 0, .int .i64 0, .int .i64 0, .int .i64 0, .int .i64 0, .int .i64 0, .int .i64 0, .int .i64 0, .int .i64 0, .int .i64 0, .int .i64 0, .int .i64 0, .int .i64 0, .int .i64 0, .int .i64 0, .int .i64 0] 56)
 have C0 := (C.alloc (Nat.le_refl _) (.cells #[.int .i64 0, .int .i64 0, .int .i64 0, .int .i64 0] 25)).alloc (by simp) (.cells #[.int .i64 0, .int .i64 0, .int .i64 0, .int .i64 0, .int .i64 0, .int .i64 0, .int .i64 0, .int .i64 0, .int .i64 0, .int .i64 0, .int .i64 0, .int .i64 0, .int .i64 0, .int .i64 0, .int .i64 0, .int .i64 0, .int .i64 0, .int .i64 0, .int .i64 0, .int .i64 0, .int .i64 0, .int .i64 0] 56)
 have hz0 : ((w.alloc (.cells #[.int .i64 0, .int .i64 0, .int .i64 0, .int .i64 0] 25)).alloc (.cells #[.int .i64 0, .int .i64 0, .int .i64 0, .int .i64 0, .int .i64 0, .int .i64 0, .int .i64 0, .int .i64 0, .int .i64 0, .int .i64 0, .int .i64 0, .int .i64 0, .int .i64 0, .int .i64 0, .int .i64 0, .int .i64 0, .int .i64 0, .int .i64 0, .int .i64 0, .int .i64 0, .int .i64 0, .int .i64 0] 56)).heap.size = w.heap.size + 2 := by simp
 simp only [World.size_alloc] at U0
 go_enter Try.func30, Try.ntmps30
 go_wp2_with fail
 generalize hw0 : (w.alloc (.cells #[.int .i64 0, .int .i64 0, .int .i64 0, .int .i64 0] 25)).alloc (.cells #[.int .i64 0, .int .i64 0, .int .i64 0, .int .i64 0, .int .i64 0, .int .i64 0, .int .i64 0, .int .i64 0, .int .i64 0, .int .i64 0, .int .i64 0, .int .i64 0, .int .i64 0, .int .i64 0, .int .i64 0, .int .i64 0, .int .i64 0, .int .i64 0, .int .i64 0, .int .i64 0, .int .i64 0, .int .i64 0] 56) = w0 at *
 clear hw0
 refine (l1New_any a len cap w0 hlen (C0.weaken (by omega))).mono ?_
 rintro e w1 ⟨rfl, ⟨h1, D1⟩, b1⟩
 have T1 := there_below T0 b1 (by omega)
 have U1 := there_below U0 b1 (by omega)
 have C1 := C0.below (b1.mono (by omega))
 have K1 := K0.trans (b1.mono (by omega))
 have hz1 := b1.size
 have hzl : w.heap.size + 2 ≤ w0.heap.size := by omega
 clear T0 U0 C0 K0 b1 C hz0
 go_wp2_with fail
 refine (l5DrawAny_any w.heap.size w0.heap.size a len cap 0 h1 w1 (by omega) hlen D1 C1).mono ?_
 rintro e w2 ⟨x, y, z, u, g, rfl, _, _, O2⟩
 have T2 := there_only' T1 O2 (by have := D1.blk; omega) (by omega)
 have U2 := there_only' U1 O2 (by have := D1.blk; omega) (by omega)
 have K2 := K1.trans (O2.below (by omega) (by omega))
 have hz2 := O2.size
 have hbb := D1.blk
 clear T1 U1 C1 K1 O2 D1
 have hO1 := only_setCells w.heap.size [.int .i64 x, .int .i64 y, .int .i64 z, .int .i64 u] 0 w2
 have hO2 := only_setCells (w.heap.size + 1) (hdC g) 0 (w2.setCells w.heap.size 0 [.int .i64 x, .int .i64 y, .int .i64 z, .int .i64 u])
 have TB := World.there_setCells U2 w.heap.size 0 [.int .i64 x, .int .i64 y, .int .i64 z, .int .i64 u]
 have F1 := rangeAt_only' (World.rangeAt_setCells_same w2 w.heap.size 0 [.int .i64 x, .int .i64 y, .int .i64 z, .int .i64 u] T2) hO2 (by rw [setCells_size]; omega) (by omega)
 have F2 := World.rangeAt_setCells_same (w2.setCells w.heap.size 0 [.int .i64 x, .int .i64 y, .int .i64 z, .int .i64 u]) (w.heap.size + 1) 0 (hdC g) TB
 have KB := (K2.trans (hO1.below (B := w.heap.size) (by omega) (by omega))).trans (hO2.below (B := w.heap.size) (by omega) (by rw [setCells_size]; omega))
 go_wp2_with (first | (refine wpList_store_mid rfl 25 (.tmp 2) (.tmp 9) rfl w.heap.size 0 #[.int .i64 x, .int .i64 y, .int .i64 z, .int .i64 u] ?sx1 ?sy1 ?st1 sizePlanW (by simp [Value.oneCell']) ?_) | (refine wpList_store_mid rfl 56 (.tmp 3) (.tmp 10) rfl (w.heap.size + 1) 0 (hdC g).toArray ?sx2 ?sy2 ?st2 (sizeHand g) (oneHand g) ?_))
 try (case sx1 => rfl)
 try (case sy1 => rfl)
 try (case st1 => exact T2)
 try (case sx2 => rfl)
 try (case sy2 => rfl)
 try (case st2 => exact TB)
 refine bodyPost_ret (v := .tuple #[.agg #[.int .i64 x, .int .i64 y, .int .i64 z, .int .i64 u], .agg (hdC g).toArray]) ?_ rfl ⟨x, y, z, u, g, rfl, KB⟩
 exact results_row_row Try.results30 _ _ w.heap.size 0 (w.heap.size + 1) 0 rfl rfl [.int .i64 x, .int .i64 y, .int .i64 z, .int .i64 u] (hdC g) _ _ F1 Try.underlying25 rfl sizePlanW F2 Try.underlying56 rfl (sizeHandL g)
theorem results_row_tmp3 {P : Program} {fn : Func} {p q1 q2 q3 : Tmp} {ty : TypeId} (h : fn.results = #[.cell p ty, .tmp q1, .tmp q2, .tmp q3]) (tmps : Array Value) (w : World) (b o : Nat) (hp : tmps.getD p undef = .pointer (some ⟨b, o, none⟩))
  (cs : List Value) (d : TypeDesc) (hc : w.rangeAt b o cs) (hu : P.underlying ty = some d) (hd : d.isRow = true) (hi : (P.info? ty).map (·.size) = some cs.length) : (results fn tmps).run P w = .ok (.tuple #[.agg cs.toArray, tmps.getD q1 undef, tmps.getD q2 undef, tmps.getD q3 undef]) w := by
 have hl := run_loadVar_mid (P := P) w b o ty cs d hc hu hd hi
 rw [Array.getD_eq_getD_getElem?] at hp
 simp [results, h, hp, asAddr, Result.andThen, hl]
def restG (b b2 : Nat) (g : Hd) (rr : Int) (L : Nat → Bool) : Nat → Value → World → Prop
 | 0, v, _ => v = .agg (hdC g).toArray
 | 1, v, _ => v = .int .i64 rr
 | 2, v, _ => v = .pointer (some ⟨b, 0, none⟩)
 | 3, v, _ => ∃ m : Int, v = .int .i64 m
 | 4, v, _ => v = .pointer (some ⟨b, 0, none⟩)
 | 5, v, _ => ∃ m : Int, v = .int .i64 m
 | 6, v, w => b2 < w.heap.size ∧ w.rangeAt b2 0 (hdC g)
 | _, _, _ => True
theorem restG_kept {b b2 : Nat} {g : Hd} {rr : Int} {L L' : Nat → Bool} (hne : b2 ≠ b) (j : Nat) (v : Value) (w w' : World) (h : restG b b2 g rr L j v w) (hO : Only b w w') : restG b b2 g rr L' j v w' := by
 match j, h with
 | 0, h | 1, h | 2, h | 3, h | 4, h | 5, h => exact h
 | 6, h => exact ⟨Nat.lt_of_lt_of_le h.1 hO.size, rangeAt_only' h.2 hO h.1 hne⟩
 | n + 7, h => exact trivial
theorem restG_store {b b2 : Nat} {g : Hd} {rr : Int} {L L' : Nat → Bool} (j : Nat) (v : Value) (w w' : World) (hj : j ≠ 6) (h : restG b b2 g rr L j v w) : restG b b2 g rr L' j v w' := by
 match j, h with
 | 0, h | 1, h | 2, h | 3, h | 4, h | 5, h => exact h
 | 6, h => exact absurd rfl hj
 | n + 7, h => exact trivial
set_option maxRecDepth 100000 in
set_option maxHeartbeats 8000000 in
theorem drawResting_any (a : Option Addr) (len cap : Nat) (w : World) (hlen : len ≤ 4096) (C : BytesAt w.heap.size w a len) :
  Calls Try.prog 27 #[.slice a len cap] w fun e w' => ∃ g rr ro rs, e = .returned (.tuple #[.agg (hdC g).toArray, .int .i64 rr, .int .i64 ro, .int .i64 rs]) ∧ Below w.heap.size w w' := by
 have U0 := there_new w #[.int .i64 0, .int .i64 0, .int .i64 0, .int .i64 0, .int .i64 0, .int .i64 0, .int .i64 0, .int .i64 0, .int .i64 0, .int .i64 0, .int .i64 0, .int .i64 0, .int .i64 0, .int .i64 0, .int .i64 0, .int .i64 0, .int .i64 0, .int .i64 0, .int .i64 0, .int .i64 0, .int .i64 0, .int .i64 0] 56 22 (by decide)
 have K0 := (Below.refl w.heap.size w).alloc (Nat.le_refl _) (.cells #[.int .i64 0, .int .i64 0, .int .i64 0, .int .i64 0, .int .i64 0, .int .i64 0, .int .i64 0, .int .i64 0, .int .i64 0, .int .i64 0, .int .i64 0, .int .i64 0, .int .i64 0, .int .i64 0, .int .i64 0, .int .i64 0, .int .i64 0, .int .i64 0, .int .i64 0, .int .i64 0, .int .i64 0, .int .i64 0] 56)
 have C0 := C.alloc (Nat.le_refl _) (.cells #[.int .i64 0, .int .i64 0, .int .i64 0, .int .i64 0, .int .i64 0, .int .i64 0, .int .i64 0, .int .i64 0, .int .i64 0, .int .i64 0, .int .i64 0, .int .i64 0, .int .i64 0, .int .i64 0, .int .i64 0, .int .i64 0, .int .i64 0, .int .i64 0, .int .i64 0, .int .i64 0, .int .i64 0, .int .i64 0] 56)
 have hz0 : (w.alloc (.cells #[.int .i64 0, .int .i64 0, .int .i64 0, .int .i64 0, .int .i64 0, .int .i64 0, .int .i64 0, .int .i64 0, .int .i64 0, .int .i64 0, .int .i64 0, .int .i64 0, .int .i64 0, .int .i64 0, .int .i64 0, .int .i64 0, .int .i64 0, .int .i64 0, .int .i64 0, .int .i64 0, .int .i64 0, .int .i64 0] 56)).heap.size = w.heap.size + 1 := by simp
 go_enter Try.func27, Try.ntmps27
 go_wp2_with fail
 generalize hw0 : w.alloc (.cells #[.int .i64 0, .int .i64 0, .int .i64 0, .int .i64 0, .int .i64 0, .int .i64 0, .int .i64 0, .int .i64 0, .int .i64 0, .int .i64 0, .int .i64 0, .int .i64 0, .int .i64 0, .int .i64 0, .int .i64 0, .int .i64 0, .int .i64 0, .int .i64 0, .int .i64 0, .int .i64 0, .int .i64 0, .int .i64 0] 56) = w0 at *
 clear hw0
 refine (l1New_any a len cap w0 hlen (C0.weaken (by omega))).mono ?_
 rintro e w1 ⟨rfl, ⟨h1, D1⟩, b1⟩
 have U1 := there_below U0 b1 (by omega)
 have C1 := C0.below (b1.mono (by omega))
 have K1 := K0.trans (b1.mono (by omega))
 have hz1 := b1.size
 have hzl : w.heap.size + 1 ≤ w0.heap.size := by omega
 clear U0 C0 K0 b1 C hz0
 generalize hb : w0.heap.size = b at *
 clear hb
 go_wp2_with fail
 refine (l5DrawAny_any w.heap.size b a len cap 0 h1 w1 (by omega) hlen D1 C1).mono ?_
 rintro e w2 ⟨x, y, z, u, g, rfl, ⟨i2, h2, D2⟩, C2, O2⟩
 have hb1 := D1.blk
 have hb2 := D2.blk
 have U2 := there_only' U1 O2 (by omega) (by omega)
 have K2 := K1.trans (O2.below (by omega) (by omega))
 have hz2 := O2.size
 clear U1 C1 K1 O2 D1
 have hs1 : (w2.alloc (.cells #[.int .i64 0, .int .i64 0, .int .i64 0, .int .i64 0] 25)).alloc (.cells #[.int .i64 0, .int .i64 0, .int .i64 0, .int .i64 0, .int .i64 0, .int .i64 0, .int .i64 0, .int .i64 0, .int .i64 0, .int .i64 0, .int .i64 0, .int .i64 0, .int .i64 0, .int .i64 0, .int .i64 0, .int .i64 0, .int .i64 0, .int .i64 0, .int .i64 0, .int .i64 0, .int .i64 0, .int .i64 0] 56) = (w2.alloc (.cells #[.int .i64 0, .int .i64 0, .int .i64 0, .int .i64 0] 25)).alloc (.cells #[.int .i64 0, .int .i64 0, .int .i64 0, .int .i64 0, .int .i64 0, .int .i64 0, .int .i64 0, .int .i64 0, .int .i64 0, .int .i64 0, .int .i64 0, .int .i64 0, .int .i64 0, .int .i64 0, .int .i64 0, .int .i64 0, .int .i64 0, .int .i64 0, .int .i64 0, .int .i64 0, .int .i64 0, .int .i64 0] 56) := rfl
 have TP := World.there_alloc (there_new w2 #[.int .i64 0, .int .i64 0, .int .i64 0, .int .i64 0] 25 4 (by decide)) (.cells #[.int .i64 0, .int .i64 0, .int .i64 0, .int .i64 0, .int .i64 0, .int .i64 0, .int .i64 0, .int .i64 0, .int .i64 0, .int .i64 0, .int .i64 0, .int .i64 0, .int .i64 0, .int .i64 0, .int .i64 0, .int .i64 0, .int .i64 0, .int .i64 0, .int .i64 0, .int .i64 0, .int .i64 0, .int .i64 0] 56)
 have TH := World.there_setCells (there_new (w2.alloc (.cells #[.int .i64 0, .int .i64 0, .int .i64 0, .int .i64 0] 25)) #[.int .i64 0, .int .i64 0, .int .i64 0, .int .i64 0, .int .i64 0, .int .i64 0, .int .i64 0, .int .i64 0, .int .i64 0, .int .i64 0, .int .i64 0, .int .i64 0, .int .i64 0, .int .i64 0, .int .i64 0, .int .i64 0, .int .i64 0, .int .i64 0, .int .i64 0, .int .i64 0, .int .i64 0, .int .i64 0] 56 22 (by decide)) w2.heap.size 0 [.int .i64 x, .int .i64 y, .int .i64 z, .int .i64 u]
 simp only [World.size_alloc] at TH
 have KA : Below w2.heap.size w2 ((((w2.alloc (.cells #[.int .i64 0, .int .i64 0, .int .i64 0, .int .i64 0] 25)).alloc (.cells #[.int .i64 0, .int .i64 0, .int .i64 0, .int .i64 0, .int .i64 0, .int .i64 0, .int .i64 0, .int .i64 0, .int .i64 0, .int .i64 0, .int .i64 0, .int .i64 0, .int .i64 0, .int .i64 0, .int .i64 0, .int .i64 0, .int .i64 0, .int .i64 0, .int .i64 0, .int .i64 0, .int .i64 0, .int .i64 0] 56)).setCells w2.heap.size 0 [.int .i64 x, .int .i64 y, .int .i64 z, .int .i64 u]).setCells (w2.heap.size + 1) 0 (hdC g)) := Below.setCells (by omega) _ _ _ (Below.setCells (Nat.le_refl _) _ _ _ (((Below.refl _ _).alloc (Nat.le_refl _) _).alloc (by simp) _))
 have RA : ((((w2.alloc (.cells #[.int .i64 0, .int .i64 0, .int .i64 0, .int .i64 0] 25)).alloc (.cells #[.int .i64 0, .int .i64 0, .int .i64 0, .int .i64 0, .int .i64 0, .int .i64 0, .int .i64 0, .int .i64 0, .int .i64 0, .int .i64 0, .int .i64 0, .int .i64 0, .int .i64 0, .int .i64 0, .int .i64 0, .int .i64 0, .int .i64 0, .int .i64 0, .int .i64 0, .int .i64 0, .int .i64 0, .int .i64 0] 56)).setCells w2.heap.size 0 [.int .i64 x, .int .i64 y, .int .i64 z, .int .i64 u]).setCells (w2.heap.size + 1) 0 (hdC g)).rangeAt (w2.heap.size + 1) 0 (hdC g) := World.rangeAt_setCells_same _ _ _ _ TH
 have zA : ((((w2.alloc (.cells #[.int .i64 0, .int .i64 0, .int .i64 0, .int .i64 0] 25)).alloc (.cells #[.int .i64 0, .int .i64 0, .int .i64 0, .int .i64 0, .int .i64 0, .int .i64 0, .int .i64 0, .int .i64 0, .int .i64 0, .int .i64 0, .int .i64 0, .int .i64 0, .int .i64 0, .int .i64 0, .int .i64 0, .int .i64 0, .int .i64 0, .int .i64 0, .int .i64 0, .int .i64 0, .int .i64 0, .int .i64 0] 56)).setCells w2.heap.size 0 [.int .i64 x, .int .i64 y, .int .i64 z, .int .i64 u]).setCells (w2.heap.size + 1) 0 (hdC g)).heap.size = w2.heap.size + 2 := by rw [setCells_size, setCells_size]; simp
 clear hs1
 go_upto_region 3 with (first | (refine wpList_store_mid rfl 25 (.tmp 7) (.tmp 15) rfl w2.heap.size 0 #[.int .i64 x, .int .i64 y, .int .i64 z, .int .i64 u] ?sx1 ?sy1 ?st1 sizePlanW (by simp [Value.oneCell']) ?_) | (refine wpList_store_mid rfl 56 (.tmp 8) (.tmp 16) rfl (w2.heap.size + 1) 0 (hdC g).toArray ?sx2 ?sy2 ?st2 (sizeHand g) (oneHand g) ?_))
 try (case sx1 => rfl)
 try (case sy1 => rfl)
 try (case st1 => exact TP)
 try (case sx2 => rfl)
 try (case sy2 => rfl)
 try (case st2 => exact TH)
 clear TP TH
 generalize hwa : (((w2.alloc (.cells #[.int .i64 0, .int .i64 0, .int .i64 0, .int .i64 0] 25)).alloc (.cells #[.int .i64 0, .int .i64 0, .int .i64 0, .int .i64 0, .int .i64 0, .int .i64 0, .int .i64 0, .int .i64 0, .int .i64 0, .int .i64 0, .int .i64 0, .int .i64 0, .int .i64 0, .int .i64 0, .int .i64 0, .int .i64 0, .int .i64 0, .int .i64 0, .int .i64 0, .int .i64 0, .int .i64 0, .int .i64 0] 56)).setCells w2.heap.size 0 [.int .i64 x, .int .i64 y, .int .i64 z, .int .i64 u]).setCells (w2.heap.size + 1) 0 (hdC g) = wa at *
 clear hwa
 have zA' : w2.heap.size + 2 ≤ wa.heap.size := by omega
 clear zA
 have D3 := D2.below KA
 have C3 := C2.below (KA.mono (by omega))
 have U3 := there_below U2 KA (by omega)
 have K3 := K2.trans (KA.mono (by omega))
 clear D2 C2 U2 K2 KA
 go_wp2_with fail
 refine (l1From_any w.heap.size b a len cap i2 h2 0 7 wa (by omega) hlen D3 C3 (by omega) (by omega) (by omega)).mono ?_
 rintro e wb ⟨rr, i4, h4, rfl, _, _, D4, C4, O4⟩
 have U4 := there_only' U3 O4 (by omega) (by omega)
 have R4 := rangeAt_only' RA O4 (by omega) (by omega)
 have K4 := K3.trans (O4.below (by omega) (by omega))
 have hz4 := O4.size
 clear D3 C3 U3 K3 O4 RA
 generalize hbh : w2.heap.size + 1 = bh at *
 go_upto_region 4 with fail
 refine any_order_j 7 (by kernel_rfl) (fun V => (∃ i h, DiceAt .i64 V b a len cap i h) ∧ BytesAt w.heap.size V a len ∧ V.there w.heap.size 0 22 ∧ V.rangeAt bh 0 (hdC g) ∧ Below w.heap.size w V ∧ wb.heap.size ≤ V.heap.size) ?j0 (restG b w.heap.size g rr) (by kernel_rfl) (by kernel_rfl) (by kernel_rfl) (by kernel_rfl) (by rfl) ?step ?final
 case j0 =>
  have bd : Below wb.heap.size wb { wb with drawn := wb.drawn + 1 } := ⟨rfl, rfl, rfl, Nat.le_refl _, fun _ _ => rfl⟩
  exact ⟨⟨_, _, D4.below bd⟩, C4.below (bd.mono (by omega)), there_below U4 bd (by omega), rangeAt_below R4 bd (by omega), K4.trans (bd.mono (by omega)), Nat.le_refl _⟩
 case step =>
  intro i o hik ho' L aa V hLi hLk P hnn hd K hK
  obtain ⟨⟨ii, hh, DV⟩, CV, UV, RV, KV, hsV⟩ := id P
  match i, ho' with
  | 0, ho' =>
   obtain rfl := Option.some.inj ho'
   exact step_load 56 (.tmp 8) rfl bh 0 (hnn 8 rfl) (hdC g) _ RV Try.underlying56 rfl (sizeHandL g) (hK _ _ rfl P (fun j v' _ _ q => restG_kept (by omega) j v' V V q (Only.refl b V)))
  | 1, ho' =>
   obtain rfl := Option.some.inj ho'
   have e9 : aa.eval (.tmp 9) = .int .i64 rr := hnn 9 rfl
   refine step_value (v := .int .i64 rr) (w' := V) ?_ (hK _ _ rfl P (fun j v' _ _ q => restG_kept (by omega) j v' V V q (Only.refl b V)))
   generalize aa.eval = ev at *
   go_simp
  | 2, ho' =>
   obtain rfl := Option.some.inj ho'
   have e6 : aa.eval (.tmp 6) = .pointer (some ⟨b, 0, none⟩) := hnn 6 rfl
   refine step_value (v := .pointer (some ⟨b, 0, none⟩)) (w' := V) ?_ (hK _ _ rfl P (fun j v' _ _ q => restG_kept (by omega) j v' V V q (Only.refl b V)))
   generalize aa.eval = ev at *
   go_simp
  | 3, ho' =>
   obtain rfl := Option.some.inj ho'
   have e1 : aa.eval (.tmp 21) = .pointer (some ⟨b, 0, none⟩) := (hd ⟨2, .data⟩ (by simp) rfl 21 rfl).2
   have ec : aa.eval (.const (.int .i64 9)) = .int .i64 9 := rfl
   have ef : aa.eval (.func 69) = .func (.func 69) #[] #[] := rfl
   refine step_call (f := 69) (args := #[.pointer (some ⟨b, 0, none⟩), .int .i64 9]) (R := fun v w' => ∃ m i' h', v = .int .i64 m ∧ DiceAt .i64 w' b a len cap i' h' ∧ BytesAt w.heap.size w' a len ∧ Only b V w') ?_ ((l1Below_any w.heap.size b a len cap ii hh 9 V (by omega) hlen DV CV (by omega) (by omega)).mono (fun e w' h => by obtain ⟨m, i', h', e, _, _, r⟩ := h; exact ⟨_, e, m, i', h', rfl, r⟩)) (fun v w' h => by obtain ⟨m, i', h', e, D', C', O'⟩ := h; exact hK v w' ⟨m, e⟩ ⟨⟨i', h', D'⟩, C', there_only' UV O' (by omega) (by omega), rangeAt_only' RV O' (by omega) (by omega), KV.trans (O'.below (by omega) (by have := KV.size; omega)), Nat.le_trans hsV O'.size⟩ (fun j v' _ _ q => restG_kept (by omega) j v' V w' q O'))
   generalize aa.eval = ev at *
   go_simp
  | 4, ho' =>
   obtain rfl := Option.some.inj ho'
   have e6 : aa.eval (.tmp 6) = .pointer (some ⟨b, 0, none⟩) := hnn 6 rfl
   refine step_value (v := .pointer (some ⟨b, 0, none⟩)) (w' := V) ?_ (hK _ _ rfl P (fun j v' _ _ q => restG_kept (by omega) j v' V V q (Only.refl b V)))
   generalize aa.eval = ev at *
   go_simp
  | 5, ho' =>
   obtain rfl := Option.some.inj ho'
   have e1 : aa.eval (.tmp 23) = .pointer (some ⟨b, 0, none⟩) := (hd ⟨4, .data⟩ (by simp) rfl 23 rfl).2
   have ec : aa.eval (.const (.int .i64 9)) = .int .i64 9 := rfl
   have ef : aa.eval (.func 69) = .func (.func 69) #[] #[] := rfl
   refine step_call (f := 69) (args := #[.pointer (some ⟨b, 0, none⟩), .int .i64 9]) (R := fun v w' => ∃ m i' h', v = .int .i64 m ∧ DiceAt .i64 w' b a len cap i' h' ∧ BytesAt w.heap.size w' a len ∧ Only b V w') ?_ ((l1Below_any w.heap.size b a len cap ii hh 9 V (by omega) hlen DV CV (by omega) (by omega)).mono (fun e w' h => by obtain ⟨m, i', h', e, _, _, r⟩ := h; exact ⟨_, e, m, i', h', rfl, r⟩)) (fun v w' h => by obtain ⟨m, i', h', e, D', C', O'⟩ := h; exact hK v w' ⟨m, e⟩ ⟨⟨i', h', D'⟩, C', there_only' UV O' (by omega) (by omega), rangeAt_only' RV O' (by omega) (by omega), KV.trans (O'.below (by omega) (by have := KV.size; omega)), Nat.le_trans hsV O'.size⟩ (fun j v' _ _ q => restG_kept (by omega) j v' V w' q O'))
   generalize aa.eval = ev at *
   go_simp
  | 6, ho' =>
   obtain rfl := Option.some.inj ho'
   have hOs := only_setCells w.heap.size (hdC g) 0 V
   exact wp_store_mid 56 (.tmp 2) (.tmp 19) rfl w.heap.size 0 (hdC g).toArray (hnn 2 rfl) (hd ⟨0, .data⟩ (by simp) rfl 19 rfl).2 UV (sizeHand g) (oneHand g) (hK undef _ ⟨by rw [List.toList_toArray, setCells_size]; omega, World.rangeAt_setCells_same V w.heap.size 0 (hdC g) UV⟩ ⟨⟨ii, hh, DV.only hOs (by omega)⟩, CV.below (hOs.below (Nat.le_refl _) (by omega)), World.there_setCells UV _ _ _, rangeAt_only' RV hOs (by omega) (by omega), KV.trans (hOs.below (Nat.le_refl _) (by omega)), by rw [List.toList_toArray, setCells_size]; exact hsV⟩ (fun j v' hj _ q => restG_store j v' V _ hj q))
  | n + 7, ho' => omega
 intro L vs V hLall P5 hG
 obtain ⟨_, _, _, _, K5, _⟩ := P5
 have g1 : vs 1 = .int .i64 rr := hG 1 (by decide)
 obtain ⟨ro, g3⟩ := (show ∃ m : Int, vs 3 = .int .i64 m from hG 3 (by decide))
 obtain ⟨rs, g5⟩ := (show ∃ m : Int, vs 5 = .int .i64 m from hG 5 (by decide))
 have g6 : _ ∧ V.rangeAt w.heap.size 0 (hdC g) := hG 6 (by decide)
 generalize hl : laid _ vs _ _ _ = A'
 have hA' : A' = { tmps := #[.slice a len cap, undef, .pointer (some ⟨w.heap.size, 0, none⟩), .int .i64 0, .int .i64 0, .int .i64 0, .pointer (some ⟨b, 0, none⟩), .pointer (some ⟨w2.heap.size, 0, none⟩), .pointer (some ⟨bh, 0, none⟩), .int .i64 rr, .slice a len cap, .pointer (some ⟨b, 0, none⟩), .tuple #[.agg #[.int .i64 x, .int .i64 y, .int .i64 z, .int .i64 u], .agg (hdC g).toArray], .pointer (some ⟨b, 0, none⟩), .tuple #[.agg #[.int .i64 x, .int .i64 y, .int .i64 z, .int .i64 u], .agg (hdC g).toArray], .agg #[.int .i64 x, .int .i64 y, .int .i64 z, .int .i64 u], .agg (hdC g).toArray, .pointer (some ⟨b, 0, none⟩), .int .i64 rr, vs 0, vs 1, vs 2, vs 3, vs 4, vs 5], defers := [] } := by
  rw [← hl]
  kernel_rfl
 subst hA'
 rw [g1, g3, g5]
 clear hl hG
 simp only [List.drop_succ_cons, List.drop_zero]
 go_wp2
 refine bodyPost_ret (v := .tuple #[.agg (hdC g).toArray, .int .i64 rr, .int .i64 ro, .int .i64 rs]) ?_ rfl ⟨g, rr, ro, rs, rfl, K5⟩
 exact results_row_tmp3 Try.results27 _ _ w.heap.size 0 rfl (hdC g) _ g6.2 Try.underlying56 rfl (sizeHandL g)
end
section
attribute [local go_sem ↓] Go.wp_at_zero Go.wp_at_succ
def grC (h : Hd) : List Value := [.int .i64 h.x_, .int .i64 h.ver, .int .i64 h.cam, .int .i64 h.camAt, .int .i64 h.pred, .int .i64 h.predVer, .int .i64 h.curr, .int .i64 h.currVer, .int .i64 h.new_, .int .i64 h.least, .int .i64 h.index, .int .i64 h.round, .int .i64 h.at_, .int .i64 h.then_, .int .i64 h.code, .int .i64 h.key, .int .i64 h.value, .int .i64 h.begin, .int .i64 h.reply, .int .i64 h.out, .int .i64 h.sum, .int .i64 h.held]
def rgC (h : Hd) : List Value := [.int .i64 h.x_, .int .i64 h.ver, .int .i64 h.cam, .int .i64 h.camAt, .int .i64 h.pred, .int .i64 h.predVer, .int .i64 h.curr, .int .i64 h.currVer, .int .i64 h.new_, .int .i64 h.least, .int .i64 h.index, .int .i64 h.round]
theorem sizeGrip (h : Hd) : (Try.prog.info? 111).map (fun i => i.size) = some (grC h).toArray.size := by
 show _ = some 22
 kernel_rfl
theorem sizeGripL (h : Hd) : (Try.prog.info? 111).map (fun i => i.size) = some (grC h).length := by
 show _ = some 22
 kernel_rfl
theorem oneGrip (h : Hd) : (grC h).toArray.all (·.oneCell') = true := by simp [grC, Value.oneCell']
theorem sizeRegsL (h : Hd) : (Try.prog.info? 109).map (fun i => i.size) = some (rgC h).length := by
 show _ = some 12
 kernel_rfl
theorem grip_regs {w : World} {b : Nat} {h : Hd} (X : w.rangeAt b 0 (grC h)) : w.rangeAt b 0 (rgC h) := by
 intro j v hv
 refine X j v ?_
 have hj : j < (rgC h).length := (List.getElem?_eq_some_iff.1 hv).1
 have e : grC h = rgC h ++ [.int .i64 h.at_, .int .i64 h.then_, .int .i64 h.code, .int .i64 h.key, .int .i64 h.value, .int .i64 h.begin, .int .i64 h.reply, .int .i64 h.out, .int .i64 h.sum, .int .i64 h.held] := rfl
 rw [e, List.getElem?_append_left hj]
 exact hv
theorem isClock_any (n : Int) (w : World) : Calls Try.prog 104 #[.int .i64 n] w fun e w' => e = .returned (.bool (inB n 0 20000)) ∧ w' = w := by
 go_enter Try.func104, Try.ntmps104
 go_wp2_with (go_at_call 47; refine (within_any _ _ _ _).mono ?_; rintro e w' ⟨rfl, rfl⟩)
 go_ret
 exact ⟨rfl, rfl⟩
theorem isStamp_any (n : Int) (w : World) : Calls Try.prog 105 #[.int .i64 n] w fun e w' => e = .returned (.bool (inB n 0 100)) ∧ w' = w := by
 go_enter Try.func105, Try.ntmps105
 go_wp2_with (go_at_call 47; refine (within_any _ _ _ _).mono ?_; rintro e w' ⟨rfl, rfl⟩)
 go_ret
 exact ⟨rfl, rfl⟩
theorem hasNode_any (x y z u n : Int) (w : World) (hv : 1 ≤ y ∧ y ≤ 400) : Calls Try.prog 106 #[.agg #[.int .i64 x, .int .i64 y, .int .i64 z, .int .i64 u], .int .i64 n] w fun e w' => e = .returned (.bool (inB n 0 (y - 1))) ∧ Below w.heap.size w w' := by
 go_enter Try.func106, Try.ntmps106
 go_wp2_with (go_at_call 47; refine (within_any _ _ _ _).mono ?_; rintro e w' ⟨rfl, hw⟩; obtain rfl := hw.symm)
 go_ret
 exact ⟨rfl, (Below.refl _ _).alloc (Nat.le_refl _) _⟩
theorem hasVer_any (x y z u n : Int) (w : World) (hv : 1 ≤ z ∧ z ≤ 400) : Calls Try.prog 107 #[.agg #[.int .i64 x, .int .i64 y, .int .i64 z, .int .i64 u], .int .i64 n] w fun e w' => e = .returned (.bool (inB n 0 (z - 1))) ∧ Below w.heap.size w w' := by
 go_enter Try.func107, Try.ntmps107
 go_wp2_with (go_at_call 47; refine (within_any _ _ _ _).mono ?_; rintro e w' ⟨rfl, hw⟩; obtain rfl := hw.symm)
 go_ret
 exact ⟨rfl, (Below.refl _ _).alloc (Nat.le_refl _) _⟩
def statesB (h : Hd) : Bool := inB h.at_ 0 23 && inB h.then_ 0 7 && inB h.code 0 8 && inB h.reply 0 7
set_option maxRecDepth 100000 in
set_option maxHeartbeats 4000000 in
theorem states_any (h : Hd) (w : World) : Calls Try.prog 71 #[.agg (grC h).toArray] w fun e w' => e = .returned (.bool (statesB h)) ∧ Below w.heap.size w w' := by
 show Calls Try.prog 71 #[.agg #[.int .i64 h.x_, .int .i64 h.ver, .int .i64 h.cam, .int .i64 h.camAt, .int .i64 h.pred, .int .i64 h.predVer, .int .i64 h.curr, .int .i64 h.currVer, .int .i64 h.new_, .int .i64 h.least, .int .i64 h.index, .int .i64 h.round, .int .i64 h.at_, .int .i64 h.then_, .int .i64 h.code, .int .i64 h.key, .int .i64 h.value, .int .i64 h.begin, .int .i64 h.reply, .int .i64 h.out, .int .i64 h.sum, .int .i64 h.held]] w fun e w' => e = .returned (.bool (statesB h)) ∧ Below w.heap.size w w'
 have KK := (Below.refl w.heap.size w).alloc (Nat.le_refl _) (.cells #[.int .i64 h.x_, .int .i64 h.ver, .int .i64 h.cam, .int .i64 h.camAt, .int .i64 h.pred, .int .i64 h.predVer, .int .i64 h.curr, .int .i64 h.currVer, .int .i64 h.new_, .int .i64 h.least, .int .i64 h.index, .int .i64 h.round, .int .i64 h.at_, .int .i64 h.then_, .int .i64 h.code, .int .i64 h.key, .int .i64 h.value, .int .i64 h.begin, .int .i64 h.reply, .int .i64 h.out, .int .i64 h.sum, .int .i64 h.held] 111)
 cases e0 : inB h.at_ 0 23
 ·have hv : statesB h = false := by simp only [statesB, e0, Bool.true_and, Bool.and_true, Bool.false_and, Bool.and_false, Bool.true_or, Bool.or_true, Bool.or_false, Bool.false_or]
  go_enter Try.func71, Try.ntmps71
  go_wp2_with (go_at_call 47; refine (within_any _ _ _ _).mono ?_; rintro e w' ⟨rfl, hw⟩; obtain rfl := hw.symm)
  go_ret
  exact ⟨by rw [hv]; rfl, KK⟩
 cases e1 : inB h.then_ 0 7
 ·have hv : statesB h = false := by simp only [statesB, e0, e1, Bool.true_and, Bool.and_true, Bool.false_and, Bool.and_false, Bool.true_or, Bool.or_true, Bool.or_false, Bool.false_or]
  go_enter Try.func71, Try.ntmps71
  go_wp2_with (go_at_call 47; refine (within_any _ _ _ _).mono ?_; rintro e w' ⟨rfl, hw⟩; obtain rfl := hw.symm)
  go_ret
  exact ⟨by rw [hv]; rfl, KK⟩
 cases e2 : inB h.code 0 8
 ·have hv : statesB h = false := by simp only [statesB, e0, e1, e2, Bool.true_and, Bool.and_true, Bool.false_and, Bool.and_false, Bool.true_or, Bool.or_true, Bool.or_false, Bool.false_or]
  go_enter Try.func71, Try.ntmps71
  go_wp2_with (go_at_call 47; refine (within_any _ _ _ _).mono ?_; rintro e w' ⟨rfl, hw⟩; obtain rfl := hw.symm)
  go_ret
  exact ⟨by rw [hv]; rfl, KK⟩
 have hv : statesB h = inB h.reply 0 7 := by simp only [statesB, e0, e1, e2, Bool.true_and, Bool.and_true, Bool.false_and, Bool.and_false, Bool.true_or, Bool.or_true, Bool.or_false, Bool.false_or]
 go_enter Try.func71, Try.ntmps71
 go_wp2_with (go_at_call 47; refine (within_any _ _ _ _).mono ?_; rintro e w' ⟨rfl, hw⟩; obtain rfl := hw.symm)
 go_ret
 exact ⟨by rw [hv]; rfl, KK⟩
def amountsB (h : Hd) : Bool := (inB h.key 0 63 || h.key == -1) && inB h.value 0 9999 && inB h.out 0 1000000 && inB h.sum 0 1000000 && inB h.index 0 60
set_option maxRecDepth 100000 in
set_option maxHeartbeats 4000000 in
theorem amounts_any (h : Hd) (w : World) : Calls Try.prog 72 #[.agg (grC h).toArray] w fun e w' => e = .returned (.bool (amountsB h)) ∧ Below w.heap.size w w' := by
 show Calls Try.prog 72 #[.agg #[.int .i64 h.x_, .int .i64 h.ver, .int .i64 h.cam, .int .i64 h.camAt, .int .i64 h.pred, .int .i64 h.predVer, .int .i64 h.curr, .int .i64 h.currVer, .int .i64 h.new_, .int .i64 h.least, .int .i64 h.index, .int .i64 h.round, .int .i64 h.at_, .int .i64 h.then_, .int .i64 h.code, .int .i64 h.key, .int .i64 h.value, .int .i64 h.begin, .int .i64 h.reply, .int .i64 h.out, .int .i64 h.sum, .int .i64 h.held]] w fun e w' => e = .returned (.bool (amountsB h)) ∧ Below w.heap.size w w'
 have KK := (Below.refl w.heap.size w).alloc (Nat.le_refl _) (.cells #[.int .i64 h.x_, .int .i64 h.ver, .int .i64 h.cam, .int .i64 h.camAt, .int .i64 h.pred, .int .i64 h.predVer, .int .i64 h.curr, .int .i64 h.currVer, .int .i64 h.new_, .int .i64 h.least, .int .i64 h.index, .int .i64 h.round, .int .i64 h.at_, .int .i64 h.then_, .int .i64 h.code, .int .i64 h.key, .int .i64 h.value, .int .i64 h.begin, .int .i64 h.reply, .int .i64 h.out, .int .i64 h.sum, .int .i64 h.held] 111)
 cases e0 : inB h.key 0 63
 ·by_cases k0 : h.key = -1
  ·have b0 : (h.key == -1) = true := by rw [k0]; rfl
   cases e1 : inB h.value 0 9999
   ·have hv : amountsB h = false := by simp only [amountsB, e0, b0, e1, Bool.true_and, Bool.and_true, Bool.false_and, Bool.and_false, Bool.true_or, Bool.or_true, Bool.or_false, Bool.false_or]
    go_enter Try.func72, Try.ntmps72
    go_wp2_with (first | (go_at_call 47; refine (within_any _ _ _ _).mono ?_; rintro e w' ⟨rfl, hw⟩; obtain rfl := hw.symm) | (go_at_call 84; refine (keyOk_any _ _).mono ?_; rintro e w' ⟨rfl, hw⟩; obtain rfl := hw.symm))
    go_ret
    exact ⟨by rw [hv]; rfl, by rw [k0] at KK; exact KK⟩
   cases e2 : inB h.out 0 1000000
   ·have hv : amountsB h = false := by simp only [amountsB, e0, b0, e1, e2, Bool.true_and, Bool.and_true, Bool.false_and, Bool.and_false, Bool.true_or, Bool.or_true, Bool.or_false, Bool.false_or]
    go_enter Try.func72, Try.ntmps72
    go_wp2_with (first | (go_at_call 47; refine (within_any _ _ _ _).mono ?_; rintro e w' ⟨rfl, hw⟩; obtain rfl := hw.symm) | (go_at_call 84; refine (keyOk_any _ _).mono ?_; rintro e w' ⟨rfl, hw⟩; obtain rfl := hw.symm))
    go_ret
    exact ⟨by rw [hv]; rfl, by rw [k0] at KK; exact KK⟩
   cases e3 : inB h.sum 0 1000000
   ·have hv : amountsB h = false := by simp only [amountsB, e0, b0, e1, e2, e3, Bool.true_and, Bool.and_true, Bool.false_and, Bool.and_false, Bool.true_or, Bool.or_true, Bool.or_false, Bool.false_or]
    go_enter Try.func72, Try.ntmps72
    go_wp2_with (first | (go_at_call 47; refine (within_any _ _ _ _).mono ?_; rintro e w' ⟨rfl, hw⟩; obtain rfl := hw.symm) | (go_at_call 84; refine (keyOk_any _ _).mono ?_; rintro e w' ⟨rfl, hw⟩; obtain rfl := hw.symm))
    go_ret
    exact ⟨by rw [hv]; rfl, by rw [k0] at KK; exact KK⟩
   have hv : amountsB h = inB h.index 0 60 := by simp only [amountsB, e0, b0, e1, e2, e3, Bool.true_and, Bool.and_true, Bool.false_and, Bool.and_false, Bool.true_or, Bool.or_true, Bool.or_false, Bool.false_or]
   go_enter Try.func72, Try.ntmps72
   go_wp2_with (first | (go_at_call 47; refine (within_any _ _ _ _).mono ?_; rintro e w' ⟨rfl, hw⟩; obtain rfl := hw.symm) | (go_at_call 84; refine (keyOk_any _ _).mono ?_; rintro e w' ⟨rfl, hw⟩; obtain rfl := hw.symm))
   go_ret
   exact ⟨by rw [hv]; rfl, by rw [k0] at KK; exact KK⟩
  ·have b0 : (h.key == -1) = false := by simpa using k0
   have hv : amountsB h = false := by simp only [amountsB, e0, b0, Bool.true_and, Bool.and_true, Bool.false_and, Bool.and_false, Bool.true_or, Bool.or_true, Bool.or_false, Bool.false_or]
   go_enter Try.func72, Try.ntmps72
   go_wp2_with (first | (go_at_call 47; refine (within_any _ _ _ _).mono ?_; rintro e w' ⟨rfl, hw⟩; obtain rfl := hw.symm) | (go_at_call 84; refine (keyOk_any _ _).mono ?_; rintro e w' ⟨rfl, hw⟩; obtain rfl := hw.symm))
   go_ret
   exact ⟨by rw [hv]; rfl, KK⟩
 cases e1 : inB h.value 0 9999
 ·have hv : amountsB h = false := by simp only [amountsB, e0, e1, Bool.true_and, Bool.and_true, Bool.false_and, Bool.and_false, Bool.true_or, Bool.or_true, Bool.or_false, Bool.false_or]
  go_enter Try.func72, Try.ntmps72
  go_wp2_with (first | (go_at_call 47; refine (within_any _ _ _ _).mono ?_; rintro e w' ⟨rfl, hw⟩; obtain rfl := hw.symm) | (go_at_call 84; refine (keyOk_any _ _).mono ?_; rintro e w' ⟨rfl, hw⟩; obtain rfl := hw.symm))
  go_ret
  exact ⟨by rw [hv]; rfl, KK⟩
 cases e2 : inB h.out 0 1000000
 ·have hv : amountsB h = false := by simp only [amountsB, e0, e1, e2, Bool.true_and, Bool.and_true, Bool.false_and, Bool.and_false, Bool.true_or, Bool.or_true, Bool.or_false, Bool.false_or]
  go_enter Try.func72, Try.ntmps72
  go_wp2_with (first | (go_at_call 47; refine (within_any _ _ _ _).mono ?_; rintro e w' ⟨rfl, hw⟩; obtain rfl := hw.symm) | (go_at_call 84; refine (keyOk_any _ _).mono ?_; rintro e w' ⟨rfl, hw⟩; obtain rfl := hw.symm))
  go_ret
  exact ⟨by rw [hv]; rfl, KK⟩
 cases e3 : inB h.sum 0 1000000
 ·have hv : amountsB h = false := by simp only [amountsB, e0, e1, e2, e3, Bool.true_and, Bool.and_true, Bool.false_and, Bool.and_false, Bool.true_or, Bool.or_true, Bool.or_false, Bool.false_or]
  go_enter Try.func72, Try.ntmps72
  go_wp2_with (first | (go_at_call 47; refine (within_any _ _ _ _).mono ?_; rintro e w' ⟨rfl, hw⟩; obtain rfl := hw.symm) | (go_at_call 84; refine (keyOk_any _ _).mono ?_; rintro e w' ⟨rfl, hw⟩; obtain rfl := hw.symm))
  go_ret
  exact ⟨by rw [hv]; rfl, KK⟩
 have hv : amountsB h = inB h.index 0 60 := by simp only [amountsB, e0, e1, e2, e3, Bool.true_and, Bool.and_true, Bool.false_and, Bool.and_false, Bool.true_or, Bool.or_true, Bool.or_false, Bool.false_or]
 go_enter Try.func72, Try.ntmps72
 go_wp2_with (first | (go_at_call 47; refine (within_any _ _ _ _).mono ?_; rintro e w' ⟨rfl, hw⟩; obtain rfl := hw.symm) | (go_at_call 84; refine (keyOk_any _ _).mono ?_; rintro e w' ⟨rfl, hw⟩; obtain rfl := hw.symm))
 go_ret
 exact ⟨by rw [hv]; rfl, KK⟩
def timesB (h : Hd) : Bool := inB h.begin 0 20000 && inB h.camAt 0 20000 && inB h.round 0 20000 && (inB h.held 0 100 || h.held == -1) && inB h.cam 0 100 && inB h.least 0 100
set_option maxRecDepth 100000 in
set_option maxHeartbeats 4000000 in
theorem times_any (h : Hd) (w : World) : Calls Try.prog 73 #[.agg (grC h).toArray] w fun e w' => e = .returned (.bool (timesB h)) ∧ Below w.heap.size w w' := by
 show Calls Try.prog 73 #[.agg #[.int .i64 h.x_, .int .i64 h.ver, .int .i64 h.cam, .int .i64 h.camAt, .int .i64 h.pred, .int .i64 h.predVer, .int .i64 h.curr, .int .i64 h.currVer, .int .i64 h.new_, .int .i64 h.least, .int .i64 h.index, .int .i64 h.round, .int .i64 h.at_, .int .i64 h.then_, .int .i64 h.code, .int .i64 h.key, .int .i64 h.value, .int .i64 h.begin, .int .i64 h.reply, .int .i64 h.out, .int .i64 h.sum, .int .i64 h.held]] w fun e w' => e = .returned (.bool (timesB h)) ∧ Below w.heap.size w w'
 have KK := (Below.refl w.heap.size w).alloc (Nat.le_refl _) (.cells #[.int .i64 h.x_, .int .i64 h.ver, .int .i64 h.cam, .int .i64 h.camAt, .int .i64 h.pred, .int .i64 h.predVer, .int .i64 h.curr, .int .i64 h.currVer, .int .i64 h.new_, .int .i64 h.least, .int .i64 h.index, .int .i64 h.round, .int .i64 h.at_, .int .i64 h.then_, .int .i64 h.code, .int .i64 h.key, .int .i64 h.value, .int .i64 h.begin, .int .i64 h.reply, .int .i64 h.out, .int .i64 h.sum, .int .i64 h.held] 111)
 cases e0 : inB h.begin 0 20000
 ·have hv : timesB h = false := by simp only [timesB, e0, Bool.true_and, Bool.and_true, Bool.false_and, Bool.and_false, Bool.true_or, Bool.or_true, Bool.or_false, Bool.false_or]
  go_enter Try.func73, Try.ntmps73
  go_wp2_with (first | (go_at_call 104; refine (isClock_any _ _).mono ?_; rintro e w' ⟨rfl, hw⟩; obtain rfl := hw.symm) | (go_at_call 105; refine (isStamp_any _ _).mono ?_; rintro e w' ⟨rfl, hw⟩; obtain rfl := hw.symm))
  go_ret
  exact ⟨by rw [hv]; rfl, KK⟩
 cases e1 : inB h.camAt 0 20000
 ·have hv : timesB h = false := by simp only [timesB, e0, e1, Bool.true_and, Bool.and_true, Bool.false_and, Bool.and_false, Bool.true_or, Bool.or_true, Bool.or_false, Bool.false_or]
  go_enter Try.func73, Try.ntmps73
  go_wp2_with (first | (go_at_call 104; refine (isClock_any _ _).mono ?_; rintro e w' ⟨rfl, hw⟩; obtain rfl := hw.symm) | (go_at_call 105; refine (isStamp_any _ _).mono ?_; rintro e w' ⟨rfl, hw⟩; obtain rfl := hw.symm))
  go_ret
  exact ⟨by rw [hv]; rfl, KK⟩
 cases e2 : inB h.round 0 20000
 ·have hv : timesB h = false := by simp only [timesB, e0, e1, e2, Bool.true_and, Bool.and_true, Bool.false_and, Bool.and_false, Bool.true_or, Bool.or_true, Bool.or_false, Bool.false_or]
  go_enter Try.func73, Try.ntmps73
  go_wp2_with (first | (go_at_call 104; refine (isClock_any _ _).mono ?_; rintro e w' ⟨rfl, hw⟩; obtain rfl := hw.symm) | (go_at_call 105; refine (isStamp_any _ _).mono ?_; rintro e w' ⟨rfl, hw⟩; obtain rfl := hw.symm))
  go_ret
  exact ⟨by rw [hv]; rfl, KK⟩
 cases e3 : inB h.held 0 100
 ·by_cases k3 : h.held = -1
  ·have b3 : (h.held == -1) = true := by rw [k3]; rfl
   cases e4 : inB h.cam 0 100
   ·have hv : timesB h = false := by simp only [timesB, e0, e1, e2, e3, b3, e4, Bool.true_and, Bool.and_true, Bool.false_and, Bool.and_false, Bool.true_or, Bool.or_true, Bool.or_false, Bool.false_or]
    go_enter Try.func73, Try.ntmps73
    go_wp2_with (first | (go_at_call 104; refine (isClock_any _ _).mono ?_; rintro e w' ⟨rfl, hw⟩; obtain rfl := hw.symm) | (go_at_call 105; refine (isStamp_any _ _).mono ?_; rintro e w' ⟨rfl, hw⟩; obtain rfl := hw.symm))
    go_ret
    exact ⟨by rw [hv]; rfl, by rw [k3] at KK; exact KK⟩
   have hv : timesB h = inB h.least 0 100 := by simp only [timesB, e0, e1, e2, e3, b3, e4, Bool.true_and, Bool.and_true, Bool.false_and, Bool.and_false, Bool.true_or, Bool.or_true, Bool.or_false, Bool.false_or]
   go_enter Try.func73, Try.ntmps73
   go_wp2_with (first | (go_at_call 104; refine (isClock_any _ _).mono ?_; rintro e w' ⟨rfl, hw⟩; obtain rfl := hw.symm) | (go_at_call 105; refine (isStamp_any _ _).mono ?_; rintro e w' ⟨rfl, hw⟩; obtain rfl := hw.symm))
   go_ret
   exact ⟨by rw [hv]; rfl, by rw [k3] at KK; exact KK⟩
  ·have b3 : (h.held == -1) = false := by simpa using k3
   have hv : timesB h = false := by simp only [timesB, e0, e1, e2, e3, b3, Bool.true_and, Bool.and_true, Bool.false_and, Bool.and_false, Bool.true_or, Bool.or_true, Bool.or_false, Bool.false_or]
   go_enter Try.func73, Try.ntmps73
   go_wp2_with (first | (go_at_call 104; refine (isClock_any _ _).mono ?_; rintro e w' ⟨rfl, hw⟩; obtain rfl := hw.symm) | (go_at_call 105; refine (isStamp_any _ _).mono ?_; rintro e w' ⟨rfl, hw⟩; obtain rfl := hw.symm))
   go_ret
   exact ⟨by rw [hv]; rfl, KK⟩
 cases e4 : inB h.cam 0 100
 ·have hv : timesB h = false := by simp only [timesB, e0, e1, e2, e3, e4, Bool.true_and, Bool.and_true, Bool.false_and, Bool.and_false, Bool.true_or, Bool.or_true, Bool.or_false, Bool.false_or]
  go_enter Try.func73, Try.ntmps73
  go_wp2_with (first | (go_at_call 104; refine (isClock_any _ _).mono ?_; rintro e w' ⟨rfl, hw⟩; obtain rfl := hw.symm) | (go_at_call 105; refine (isStamp_any _ _).mono ?_; rintro e w' ⟨rfl, hw⟩; obtain rfl := hw.symm))
  go_ret
  exact ⟨by rw [hv]; rfl, KK⟩
 have hv : timesB h = inB h.least 0 100 := by simp only [timesB, e0, e1, e2, e3, e4, Bool.true_and, Bool.and_true, Bool.false_and, Bool.and_false, Bool.true_or, Bool.or_true, Bool.or_false, Bool.false_or]
 go_enter Try.func73, Try.ntmps73
 go_wp2_with (first | (go_at_call 104; refine (isClock_any _ _).mono ?_; rintro e w' ⟨rfl, hw⟩; obtain rfl := hw.symm) | (go_at_call 105; refine (isStamp_any _ _).mono ?_; rintro e w' ⟨rfl, hw⟩; obtain rfl := hw.symm))
 go_ret
 exact ⟨by rw [hv]; rfl, KK⟩
def placesB (y z : Int) (h : Hd) : Bool := inB h.x_ 0 (y - 1) && inB h.pred 0 (y - 1) && (inB h.curr 0 (y - 1) || h.curr == -1) && (inB h.new_ 0 (y - 1) || h.new_ == -1) && inB h.ver 0 (z - 1) && inB h.predVer 0 (z - 1) && inB h.currVer 0 (z - 1)
theorem rowRegs {w : World} {b : Nat} {h : Hd} (R : w.rangeAt b 0 (rgC h)) : w.cell? ⟨b, 0, none⟩ = some (.int .i64 h.x_) ∧ w.cell? ⟨b, 1, none⟩ = some (.int .i64 h.ver) ∧ w.cell? ⟨b, 2, none⟩ = some (.int .i64 h.cam) ∧ w.cell? ⟨b, 3, none⟩ = some (.int .i64 h.camAt) ∧ w.cell? ⟨b, 4, none⟩ = some (.int .i64 h.pred) ∧ w.cell? ⟨b, 5, none⟩ = some (.int .i64 h.predVer) ∧ w.cell? ⟨b, 6, none⟩ = some (.int .i64 h.curr) ∧ w.cell? ⟨b, 7, none⟩ = some (.int .i64 h.currVer) ∧ w.cell? ⟨b, 8, none⟩ = some (.int .i64 h.new_) ∧ w.cell? ⟨b, 9, none⟩ = some (.int .i64 h.least) ∧ w.cell? ⟨b, 10, none⟩ = some (.int .i64 h.index) ∧ w.cell? ⟨b, 11, none⟩ = some (.int .i64 h.round) := by
 refine ⟨?_, ?_, ?_, ?_, ?_, ?_, ?_, ?_, ?_, ?_, ?_, ?_⟩
 ·simpa using R 0 (.int .i64 h.x_) rfl
 ·simpa using R 1 (.int .i64 h.ver) rfl
 ·simpa using R 2 (.int .i64 h.cam) rfl
 ·simpa using R 3 (.int .i64 h.camAt) rfl
 ·simpa using R 4 (.int .i64 h.pred) rfl
 ·simpa using R 5 (.int .i64 h.predVer) rfl
 ·simpa using R 6 (.int .i64 h.curr) rfl
 ·simpa using R 7 (.int .i64 h.currVer) rfl
 ·simpa using R 8 (.int .i64 h.new_) rfl
 ·simpa using R 9 (.int .i64 h.least) rfl
 ·simpa using R 10 (.int .i64 h.index) rfl
 ·simpa using R 11 (.int .i64 h.round) rfl
set_option maxRecDepth 100000 in
set_option maxHeartbeats 4000000 in
theorem places_any (x y z u : Int) (h : Hd) (w : World) (hy : 1 ≤ y ∧ y ≤ 400) (hz : 1 ≤ z ∧ z ≤ 400) :
  Calls Try.prog 74 #[.agg (rgC h).toArray, .agg #[.int .i64 x, .int .i64 y, .int .i64 z, .int .i64 u]] w fun e w' => e = .returned (.bool (placesB y z h)) ∧ Below w.heap.size w w' := by
 have X0 := rangeAt_below (rangeAt_new w (rgC h) 109) ((Below.refl _ _).alloc (Nat.le_refl _) (.cells #[.int .i64 x, .int .i64 y, .int .i64 z, .int .i64 u] 25)) (by simp)
 have P0 := planAt_alloc (w.alloc (.cells (rgC h).toArray 109)) x y z u 25
 have K0 := ((Below.refl w.heap.size w).alloc (Nat.le_refl _) (.cells (rgC h).toArray 109)).alloc (by simp) (.cells #[.int .i64 x, .int .i64 y, .int .i64 z, .int .i64 u] 25)
 have z0 : w.heap.size + 1 < ((w.alloc (.cells (rgC h).toArray 109)).alloc (.cells #[.int .i64 x, .int .i64 y, .int .i64 z, .int .i64 u] 25)).heap.size := by simp
 simp only [World.size_alloc] at P0
 obtain ⟨p0, p1, p2, p3⟩ := id P0
 obtain ⟨x0, x1, x2, x3, x4, x5, x6, x7, x8, x9, x10, x11⟩ := rowRegs X0
 go_enter Try.func74, Try.ntmps74
 go_wp2_with fail
 change Calls Try.prog _ _ ((w.alloc (.cells (rgC h).toArray 109)).alloc (.cells #[.int .i64 x, .int .i64 y, .int .i64 z, .int .i64 u] 25)) _
 generalize hw0 : (w.alloc (.cells (rgC h).toArray 109)).alloc (.cells #[.int .i64 x, .int .i64 y, .int .i64 z, .int .i64 u] 25) = w0 at *
 clear hw0
 refine (hasNode_any x y z u _ _ hy).mono ?_
 rintro e w1 ⟨rfl, b0⟩
 have P1 := P0.below b0 (by omega)
 have X1 := rangeAt_below X0 b0 (by omega)
 have K1 := K0.trans (b0.mono (by omega))
 have z1 := Nat.lt_of_lt_of_le z0 b0.size
 clear P0 X0 K0 z0 b0 p0 p1 p2 p3 x0 x1 x2 x3 x4 x5 x6 x7 x8 x9 x10 x11
 obtain ⟨p0, p1, p2, p3⟩ := id P1
 obtain ⟨x0, x1, x2, x3, x4, x5, x6, x7, x8, x9, x10, x11⟩ := rowRegs X1
 cases e0 : inB h.x_ 0 (y - 1)
 ·have hv : placesB y z h = false := by simp only [placesB, e0, Bool.true_and, Bool.and_true, Bool.false_and, Bool.and_false, Bool.true_or, Bool.or_true, Bool.or_false, Bool.false_or]
  go_wp2_with fail
  go_ret
  exact ⟨by rw [hv]; rfl, K1⟩
 go_wp2_with fail
 refine (hasNode_any x y z u _ _ hy).mono ?_
 rintro e w2 ⟨rfl, b1⟩
 have P2 := P1.below b1 (by omega)
 have X2 := rangeAt_below X1 b1 (by omega)
 have K2 := K1.trans (b1.mono (by omega))
 have z2 := Nat.lt_of_lt_of_le z1 b1.size
 clear P1 X1 K1 z1 b1 p0 p1 p2 p3 x0 x1 x2 x3 x4 x5 x6 x7 x8 x9 x10 x11
 obtain ⟨p0, p1, p2, p3⟩ := id P2
 obtain ⟨x0, x1, x2, x3, x4, x5, x6, x7, x8, x9, x10, x11⟩ := rowRegs X2
 cases e1 : inB h.pred 0 (y - 1)
 ·have hv : placesB y z h = false := by simp only [placesB, e0, e1, Bool.true_and, Bool.and_true, Bool.false_and, Bool.and_false, Bool.true_or, Bool.or_true, Bool.or_false, Bool.false_or]
  go_wp2_with fail
  go_ret
  exact ⟨by rw [hv]; rfl, K2⟩
 go_wp2_with fail
 refine (hasNode_any x y z u _ _ hy).mono ?_
 rintro e w3 ⟨rfl, b2⟩
 have P3 := P2.below b2 (by omega)
 have X3 := rangeAt_below X2 b2 (by omega)
 have K3 := K2.trans (b2.mono (by omega))
 have z3 := Nat.lt_of_lt_of_le z2 b2.size
 clear P2 X2 K2 z2 b2 p0 p1 p2 p3 x0 x1 x2 x3 x4 x5 x6 x7 x8 x9 x10 x11
 obtain ⟨p0, p1, p2, p3⟩ := id P3
 obtain ⟨x0, x1, x2, x3, x4, x5, x6, x7, x8, x9, x10, x11⟩ := rowRegs X3
 cases e2 : inB h.curr 0 (y - 1)
 ·by_cases k2 : h.curr = -1
  ·have c2 : (h.curr == -1) = true := by rw [k2]; rfl
   go_wp2_with fail
   refine (hasNode_any x y z u _ _ hy).mono ?_
   rintro e w4 ⟨rfl, b3⟩
   have P4 := P3.below b3 (by omega)
   have X4 := rangeAt_below X3 b3 (by omega)
   have K4 := K3.trans (b3.mono (by omega))
   have z4 := Nat.lt_of_lt_of_le z3 b3.size
   clear P3 X3 K3 z3 b3 p0 p1 p2 p3 x0 x1 x2 x3 x4 x5 x6 x7 x8 x9 x10 x11
   obtain ⟨p0, p1, p2, p3⟩ := id P4
   obtain ⟨x0, x1, x2, x3, x4, x5, x6, x7, x8, x9, x10, x11⟩ := rowRegs X4
   cases e3 : inB h.new_ 0 (y - 1)
   ·by_cases k3 : h.new_ = -1
    ·have c3 : (h.new_ == -1) = true := by rw [k3]; rfl
     go_wp2_with fail
     refine (hasVer_any x y z u _ _ hz).mono ?_
     rintro e w5 ⟨rfl, b4⟩
     have P5 := P4.below b4 (by omega)
     have X5 := rangeAt_below X4 b4 (by omega)
     have K5 := K4.trans (b4.mono (by omega))
     have z5 := Nat.lt_of_lt_of_le z4 b4.size
     clear P4 X4 K4 z4 b4 p0 p1 p2 p3 x0 x1 x2 x3 x4 x5 x6 x7 x8 x9 x10 x11
     obtain ⟨p0, p1, p2, p3⟩ := id P5
     obtain ⟨x0, x1, x2, x3, x4, x5, x6, x7, x8, x9, x10, x11⟩ := rowRegs X5
     cases e4 : inB h.ver 0 (z - 1)
     ·have hv : placesB y z h = false := by simp only [placesB, e0, e1, e2, c2, e3, c3, e4, Bool.true_and, Bool.and_true, Bool.false_and, Bool.and_false, Bool.true_or, Bool.or_true, Bool.or_false, Bool.false_or]
      go_wp2_with fail
      go_ret
      exact ⟨by rw [hv]; rfl, K5⟩
     go_wp2_with fail
     refine (hasVer_any x y z u _ _ hz).mono ?_
     rintro e w6 ⟨rfl, b5⟩
     have P6 := P5.below b5 (by omega)
     have X6 := rangeAt_below X5 b5 (by omega)
     have K6 := K5.trans (b5.mono (by omega))
     have z6 := Nat.lt_of_lt_of_le z5 b5.size
     clear P5 X5 K5 z5 b5 p0 p1 p2 p3 x0 x1 x2 x3 x4 x5 x6 x7 x8 x9 x10 x11
     obtain ⟨p0, p1, p2, p3⟩ := id P6
     obtain ⟨x0, x1, x2, x3, x4, x5, x6, x7, x8, x9, x10, x11⟩ := rowRegs X6
     cases e5 : inB h.predVer 0 (z - 1)
     ·have hv : placesB y z h = false := by simp only [placesB, e0, e1, e2, c2, e3, c3, e4, e5, Bool.true_and, Bool.and_true, Bool.false_and, Bool.and_false, Bool.true_or, Bool.or_true, Bool.or_false, Bool.false_or]
      go_wp2_with fail
      go_ret
      exact ⟨by rw [hv]; rfl, K6⟩
     go_wp2_with fail
     refine (hasVer_any x y z u _ _ hz).mono ?_
     rintro e w7 ⟨rfl, b6⟩
     have P7 := P6.below b6 (by omega)
     have X7 := rangeAt_below X6 b6 (by omega)
     have K7 := K6.trans (b6.mono (by omega))
     have z7 := Nat.lt_of_lt_of_le z6 b6.size
     clear P6 X6 K6 z6 b6 p0 p1 p2 p3 x0 x1 x2 x3 x4 x5 x6 x7 x8 x9 x10 x11
     obtain ⟨p0, p1, p2, p3⟩ := id P7
     obtain ⟨x0, x1, x2, x3, x4, x5, x6, x7, x8, x9, x10, x11⟩ := rowRegs X7
     have hv : placesB y z h = inB h.currVer 0 (z - 1) := by simp only [placesB, e0, e1, e2, c2, e3, c3, e4, e5, Bool.true_and, Bool.and_true, Bool.false_and, Bool.and_false, Bool.true_or, Bool.or_true, Bool.or_false, Bool.false_or]
     go_wp2_with fail
     go_ret
     exact ⟨by rw [hv]; rfl, K7⟩
    ·have c3 : (h.new_ == -1) = false := by simpa using k3
     have hv : placesB y z h = false := by simp only [placesB, e0, e1, e2, c2, e3, c3, Bool.true_and, Bool.and_true, Bool.false_and, Bool.and_false, Bool.true_or, Bool.or_true, Bool.or_false, Bool.false_or]
     go_wp2_with fail
     go_ret
     exact ⟨by rw [hv]; rfl, K4⟩
   go_wp2_with fail
   refine (hasVer_any x y z u _ _ hz).mono ?_
   rintro e w5 ⟨rfl, b4⟩
   have P5 := P4.below b4 (by omega)
   have X5 := rangeAt_below X4 b4 (by omega)
   have K5 := K4.trans (b4.mono (by omega))
   have z5 := Nat.lt_of_lt_of_le z4 b4.size
   clear P4 X4 K4 z4 b4 p0 p1 p2 p3 x0 x1 x2 x3 x4 x5 x6 x7 x8 x9 x10 x11
   obtain ⟨p0, p1, p2, p3⟩ := id P5
   obtain ⟨x0, x1, x2, x3, x4, x5, x6, x7, x8, x9, x10, x11⟩ := rowRegs X5
   cases e4 : inB h.ver 0 (z - 1)
   ·have hv : placesB y z h = false := by simp only [placesB, e0, e1, e2, c2, e3, e4, Bool.true_and, Bool.and_true, Bool.false_and, Bool.and_false, Bool.true_or, Bool.or_true, Bool.or_false, Bool.false_or]
    go_wp2_with fail
    go_ret
    exact ⟨by rw [hv]; rfl, K5⟩
   go_wp2_with fail
   refine (hasVer_any x y z u _ _ hz).mono ?_
   rintro e w6 ⟨rfl, b5⟩
   have P6 := P5.below b5 (by omega)
   have X6 := rangeAt_below X5 b5 (by omega)
   have K6 := K5.trans (b5.mono (by omega))
   have z6 := Nat.lt_of_lt_of_le z5 b5.size
   clear P5 X5 K5 z5 b5 p0 p1 p2 p3 x0 x1 x2 x3 x4 x5 x6 x7 x8 x9 x10 x11
   obtain ⟨p0, p1, p2, p3⟩ := id P6
   obtain ⟨x0, x1, x2, x3, x4, x5, x6, x7, x8, x9, x10, x11⟩ := rowRegs X6
   cases e5 : inB h.predVer 0 (z - 1)
   ·have hv : placesB y z h = false := by simp only [placesB, e0, e1, e2, c2, e3, e4, e5, Bool.true_and, Bool.and_true, Bool.false_and, Bool.and_false, Bool.true_or, Bool.or_true, Bool.or_false, Bool.false_or]
    go_wp2_with fail
    go_ret
    exact ⟨by rw [hv]; rfl, K6⟩
   go_wp2_with fail
   refine (hasVer_any x y z u _ _ hz).mono ?_
   rintro e w7 ⟨rfl, b6⟩
   have P7 := P6.below b6 (by omega)
   have X7 := rangeAt_below X6 b6 (by omega)
   have K7 := K6.trans (b6.mono (by omega))
   have z7 := Nat.lt_of_lt_of_le z6 b6.size
   clear P6 X6 K6 z6 b6 p0 p1 p2 p3 x0 x1 x2 x3 x4 x5 x6 x7 x8 x9 x10 x11
   obtain ⟨p0, p1, p2, p3⟩ := id P7
   obtain ⟨x0, x1, x2, x3, x4, x5, x6, x7, x8, x9, x10, x11⟩ := rowRegs X7
   have hv : placesB y z h = inB h.currVer 0 (z - 1) := by simp only [placesB, e0, e1, e2, c2, e3, e4, e5, Bool.true_and, Bool.and_true, Bool.false_and, Bool.and_false, Bool.true_or, Bool.or_true, Bool.or_false, Bool.false_or]
   go_wp2_with fail
   go_ret
   exact ⟨by rw [hv]; rfl, K7⟩
  ·have c2 : (h.curr == -1) = false := by simpa using k2
   have hv : placesB y z h = false := by simp only [placesB, e0, e1, e2, c2, Bool.true_and, Bool.and_true, Bool.false_and, Bool.and_false, Bool.true_or, Bool.or_true, Bool.or_false, Bool.false_or]
   go_wp2_with fail
   go_ret
   exact ⟨by rw [hv]; rfl, K3⟩
 go_wp2_with fail
 refine (hasNode_any x y z u _ _ hy).mono ?_
 rintro e w4 ⟨rfl, b3⟩
 have P4 := P3.below b3 (by omega)
 have X4 := rangeAt_below X3 b3 (by omega)
 have K4 := K3.trans (b3.mono (by omega))
 have z4 := Nat.lt_of_lt_of_le z3 b3.size
 clear P3 X3 K3 z3 b3 p0 p1 p2 p3 x0 x1 x2 x3 x4 x5 x6 x7 x8 x9 x10 x11
 obtain ⟨p0, p1, p2, p3⟩ := id P4
 obtain ⟨x0, x1, x2, x3, x4, x5, x6, x7, x8, x9, x10, x11⟩ := rowRegs X4
 cases e3 : inB h.new_ 0 (y - 1)
 ·by_cases k3 : h.new_ = -1
  ·have c3 : (h.new_ == -1) = true := by rw [k3]; rfl
   go_wp2_with fail
   refine (hasVer_any x y z u _ _ hz).mono ?_
   rintro e w5 ⟨rfl, b4⟩
   have P5 := P4.below b4 (by omega)
   have X5 := rangeAt_below X4 b4 (by omega)
   have K5 := K4.trans (b4.mono (by omega))
   have z5 := Nat.lt_of_lt_of_le z4 b4.size
   clear P4 X4 K4 z4 b4 p0 p1 p2 p3 x0 x1 x2 x3 x4 x5 x6 x7 x8 x9 x10 x11
   obtain ⟨p0, p1, p2, p3⟩ := id P5
   obtain ⟨x0, x1, x2, x3, x4, x5, x6, x7, x8, x9, x10, x11⟩ := rowRegs X5
   cases e4 : inB h.ver 0 (z - 1)
   ·have hv : placesB y z h = false := by simp only [placesB, e0, e1, e2, e3, c3, e4, Bool.true_and, Bool.and_true, Bool.false_and, Bool.and_false, Bool.true_or, Bool.or_true, Bool.or_false, Bool.false_or]
    go_wp2_with fail
    go_ret
    exact ⟨by rw [hv]; rfl, K5⟩
   go_wp2_with fail
   refine (hasVer_any x y z u _ _ hz).mono ?_
   rintro e w6 ⟨rfl, b5⟩
   have P6 := P5.below b5 (by omega)
   have X6 := rangeAt_below X5 b5 (by omega)
   have K6 := K5.trans (b5.mono (by omega))
   have z6 := Nat.lt_of_lt_of_le z5 b5.size
   clear P5 X5 K5 z5 b5 p0 p1 p2 p3 x0 x1 x2 x3 x4 x5 x6 x7 x8 x9 x10 x11
   obtain ⟨p0, p1, p2, p3⟩ := id P6
   obtain ⟨x0, x1, x2, x3, x4, x5, x6, x7, x8, x9, x10, x11⟩ := rowRegs X6
   cases e5 : inB h.predVer 0 (z - 1)
   ·have hv : placesB y z h = false := by simp only [placesB, e0, e1, e2, e3, c3, e4, e5, Bool.true_and, Bool.and_true, Bool.false_and, Bool.and_false, Bool.true_or, Bool.or_true, Bool.or_false, Bool.false_or]
    go_wp2_with fail
    go_ret
    exact ⟨by rw [hv]; rfl, K6⟩
   go_wp2_with fail
   refine (hasVer_any x y z u _ _ hz).mono ?_
   rintro e w7 ⟨rfl, b6⟩
   have P7 := P6.below b6 (by omega)
   have X7 := rangeAt_below X6 b6 (by omega)
   have K7 := K6.trans (b6.mono (by omega))
   have z7 := Nat.lt_of_lt_of_le z6 b6.size
   clear P6 X6 K6 z6 b6 p0 p1 p2 p3 x0 x1 x2 x3 x4 x5 x6 x7 x8 x9 x10 x11
   obtain ⟨p0, p1, p2, p3⟩ := id P7
   obtain ⟨x0, x1, x2, x3, x4, x5, x6, x7, x8, x9, x10, x11⟩ := rowRegs X7
   have hv : placesB y z h = inB h.currVer 0 (z - 1) := by simp only [placesB, e0, e1, e2, e3, c3, e4, e5, Bool.true_and, Bool.and_true, Bool.false_and, Bool.and_false, Bool.true_or, Bool.or_true, Bool.or_false, Bool.false_or]
   go_wp2_with fail
   go_ret
   exact ⟨by rw [hv]; rfl, K7⟩
  ·have c3 : (h.new_ == -1) = false := by simpa using k3
   have hv : placesB y z h = false := by simp only [placesB, e0, e1, e2, e3, c3, Bool.true_and, Bool.and_true, Bool.false_and, Bool.and_false, Bool.true_or, Bool.or_true, Bool.or_false, Bool.false_or]
   go_wp2_with fail
   go_ret
   exact ⟨by rw [hv]; rfl, K4⟩
 go_wp2_with fail
 refine (hasVer_any x y z u _ _ hz).mono ?_
 rintro e w5 ⟨rfl, b4⟩
 have P5 := P4.below b4 (by omega)
 have X5 := rangeAt_below X4 b4 (by omega)
 have K5 := K4.trans (b4.mono (by omega))
 have z5 := Nat.lt_of_lt_of_le z4 b4.size
 clear P4 X4 K4 z4 b4 p0 p1 p2 p3 x0 x1 x2 x3 x4 x5 x6 x7 x8 x9 x10 x11
 obtain ⟨p0, p1, p2, p3⟩ := id P5
 obtain ⟨x0, x1, x2, x3, x4, x5, x6, x7, x8, x9, x10, x11⟩ := rowRegs X5
 cases e4 : inB h.ver 0 (z - 1)
 ·have hv : placesB y z h = false := by simp only [placesB, e0, e1, e2, e3, e4, Bool.true_and, Bool.and_true, Bool.false_and, Bool.and_false, Bool.true_or, Bool.or_true, Bool.or_false, Bool.false_or]
  go_wp2_with fail
  go_ret
  exact ⟨by rw [hv]; rfl, K5⟩
 go_wp2_with fail
 refine (hasVer_any x y z u _ _ hz).mono ?_
 rintro e w6 ⟨rfl, b5⟩
 have P6 := P5.below b5 (by omega)
 have X6 := rangeAt_below X5 b5 (by omega)
 have K6 := K5.trans (b5.mono (by omega))
 have z6 := Nat.lt_of_lt_of_le z5 b5.size
 clear P5 X5 K5 z5 b5 p0 p1 p2 p3 x0 x1 x2 x3 x4 x5 x6 x7 x8 x9 x10 x11
 obtain ⟨p0, p1, p2, p3⟩ := id P6
 obtain ⟨x0, x1, x2, x3, x4, x5, x6, x7, x8, x9, x10, x11⟩ := rowRegs X6
 cases e5 : inB h.predVer 0 (z - 1)
 ·have hv : placesB y z h = false := by simp only [placesB, e0, e1, e2, e3, e4, e5, Bool.true_and, Bool.and_true, Bool.false_and, Bool.and_false, Bool.true_or, Bool.or_true, Bool.or_false, Bool.false_or]
  go_wp2_with fail
  go_ret
  exact ⟨by rw [hv]; rfl, K6⟩
 go_wp2_with fail
 refine (hasVer_any x y z u _ _ hz).mono ?_
 rintro e w7 ⟨rfl, b6⟩
 have P7 := P6.below b6 (by omega)
 have X7 := rangeAt_below X6 b6 (by omega)
 have K7 := K6.trans (b6.mono (by omega))
 have z7 := Nat.lt_of_lt_of_le z6 b6.size
 clear P6 X6 K6 z6 b6 p0 p1 p2 p3 x0 x1 x2 x3 x4 x5 x6 x7 x8 x9 x10 x11
 obtain ⟨p0, p1, p2, p3⟩ := id P7
 obtain ⟨x0, x1, x2, x3, x4, x5, x6, x7, x8, x9, x10, x11⟩ := rowRegs X7
 have hv : placesB y z h = inB h.currVer 0 (z - 1) := by simp only [placesB, e0, e1, e2, e3, e4, e5, Bool.true_and, Bool.and_true, Bool.false_and, Bool.and_false, Bool.true_or, Bool.or_true, Bool.or_false, Bool.false_or]
 go_wp2_with fail
 go_ret
 exact ⟨by rw [hv]; rfl, K7⟩
set_option maxRecDepth 100000 in
set_option maxHeartbeats 4000000 in
theorem gripOf_any (h : Hd) (w : World) : Calls Try.prog 70 #[.agg (hdC h).toArray] w fun e w' => e = .returned (.agg (grC h).toArray) ∧ Below w.heap.size w w' := by
 show Calls Try.prog 70 #[.agg #[.int .i64 h.at_, .int .i64 h.then_, .int .i64 h.code, .int .i64 h.key, .int .i64 h.value, .int .i64 h.begin, .int .i64 h.reply, .int .i64 h.out, .int .i64 h.sum, .int .i64 h.held, .int .i64 h.x_, .int .i64 h.ver, .int .i64 h.cam, .int .i64 h.camAt, .int .i64 h.pred, .int .i64 h.predVer, .int .i64 h.curr, .int .i64 h.currVer, .int .i64 h.new_, .int .i64 h.least, .int .i64 h.index, .int .i64 h.round]] w fun e w' => e = .returned (.agg (grC h).toArray) ∧ Below w.heap.size w w'
 go_enter Try.func70, Try.ntmps70
 have F0 := there_new (w.alloc (.cells #[.int .i64 h.at_, .int .i64 h.then_, .int .i64 h.code, .int .i64 h.key, .int .i64 h.value, .int .i64 h.begin, .int .i64 h.reply, .int .i64 h.out, .int .i64 h.sum, .int .i64 h.held, .int .i64 h.x_, .int .i64 h.ver, .int .i64 h.cam, .int .i64 h.camAt, .int .i64 h.pred, .int .i64 h.predVer, .int .i64 h.curr, .int .i64 h.currVer, .int .i64 h.new_, .int .i64 h.least, .int .i64 h.index, .int .i64 h.round] 56)) #[.int .i64 0, .int .i64 0, .int .i64 0, .int .i64 0, .int .i64 0, .int .i64 0, .int .i64 0, .int .i64 0, .int .i64 0, .int .i64 0, .int .i64 0, .int .i64 0, .int .i64 0, .int .i64 0, .int .i64 0, .int .i64 0, .int .i64 0, .int .i64 0, .int .i64 0, .int .i64 0, .int .i64 0, .int .i64 0] 111 22 (by decide)
 have K0 := ((Below.refl w.heap.size w).alloc (Nat.le_refl _) (.cells #[.int .i64 h.at_, .int .i64 h.then_, .int .i64 h.code, .int .i64 h.key, .int .i64 h.value, .int .i64 h.begin, .int .i64 h.reply, .int .i64 h.out, .int .i64 h.sum, .int .i64 h.held, .int .i64 h.x_, .int .i64 h.ver, .int .i64 h.cam, .int .i64 h.camAt, .int .i64 h.pred, .int .i64 h.predVer, .int .i64 h.curr, .int .i64 h.currVer, .int .i64 h.new_, .int .i64 h.least, .int .i64 h.index, .int .i64 h.round] 56)).alloc (by simp) (.cells #[.int .i64 0, .int .i64 0, .int .i64 0, .int .i64 0, .int .i64 0, .int .i64 0, .int .i64 0, .int .i64 0, .int .i64 0, .int .i64 0, .int .i64 0, .int .i64 0, .int .i64 0, .int .i64 0, .int .i64 0, .int .i64 0, .int .i64 0, .int .i64 0, .int .i64 0, .int .i64 0, .int .i64 0, .int .i64 0] 111)
 simp only [World.size_alloc] at F0
 go_wp2_with (refine wpList_store_mid rfl 111 (.tmp 2) (.tmp 48) rfl (w.heap.size + 1) 0 _ rfl rfl ?ht ?hi ?h1 ?_)
 case ht => exact F0
 case hi => exact sizeGrip h
 case h1 => exact oneGrip h
 refine bodyPost_ret (v := .agg (grC h).toArray) ?_ rfl ⟨rfl, ?_⟩
 ·exact results_row Try.results70 _ _ (w.heap.size + 1) 0 rfl (grC h) _ (World.rangeAt_setCells_same _ _ _ _ F0) Try.underlying111 rfl (sizeGripL h)
 ·exact Below.setCells (by omega) _ _ _ K0
theorem or_one (n hi : Int) (hh : 0 ≤ hi) : (inB n 0 hi || n == -1) = inB n (-1) hi := by
 cases e : inB n (-1) hi
 ·have h1 : ¬ (-1 ≤ n ∧ n ≤ hi) := fun h => by rw [inB_yes h.1 h.2] at e; exact absurd e (by decide)
  rw [inB_no (by omega), Bool.false_or]
  exact beq_eq_false_iff_ne.2 (by omega)
 ·obtain ⟨h1, h2⟩ := (inB_iff _ _ _).1 e
  by_cases h3 : n = -1
  ·subst h3
   simp
  ·rw [inB_yes (by omega) h2, Bool.true_or]
theorem parts_are (x y z u : Int) (h : Hd) (hp : planB x y z u = true) : (statesB h && amountsB h && timesB h && placesB y z h) = handB x y z u h := by
 have hpl := (planB_iff x y z u).1 hp
 unfold statesB amountsB timesB placesB handB handNB handFB
 rw [hp, or_one _ 63 (by decide), or_one _ 100 (by decide), or_one _ (y - 1) (by omega), or_one _ (y - 1) (by omega), Bool.true_and]
 generalize inB h.x_ 0 (y - 1) = a0
 generalize inB h.pred 0 (y - 1) = a1
 generalize inB h.curr (-1) (y - 1) = a2
 generalize inB h.new_ (-1) (y - 1) = a3
 generalize inB h.ver 0 (z - 1) = a4
 generalize inB h.predVer 0 (z - 1) = a5
 generalize inB h.currVer 0 (z - 1) = a6
 simp only [Bool.and_assoc, Bool.and_comm, Bool.and_left_comm]
set_option maxRecDepth 100000 in
set_option maxHeartbeats 4000000 in
theorem handOk_any (x y z u : Int) (h : Hd) (w : World) :
  Calls Try.prog 31 #[.agg #[.int .i64 x, .int .i64 y, .int .i64 z, .int .i64 u], .agg (hdC h).toArray] w fun e w' => e = .returned (.bool (handB x y z u h)) ∧ Below w.heap.size w w' := by
 have P0 := (planAt_alloc w x y z u 25).below ((Below.refl _ _).alloc (Nat.le_refl _) (.cells (hdC h).toArray 56)) (by simp)
 have X0 := rangeAt_new (w.alloc (.cells #[.int .i64 x, .int .i64 y, .int .i64 z, .int .i64 u] 25)) (hdC h) 56
 have K0 := ((Below.refl w.heap.size w).alloc (Nat.le_refl _) (.cells #[.int .i64 x, .int .i64 y, .int .i64 z, .int .i64 u] 25)).alloc (by simp) (.cells (hdC h).toArray 56)
 have z0 : w.heap.size + 1 < ((w.alloc (.cells #[.int .i64 x, .int .i64 y, .int .i64 z, .int .i64 u] 25)).alloc (.cells (hdC h).toArray 56)).heap.size := by simp
 simp only [World.size_alloc] at X0
 go_enter Try.func31, Try.ntmps31
 go_wp2_with (refine wpList_load_mid rfl 56 (.tmp 3) rfl (w.heap.size + 1) 0 rfl (hdC h) _ ?hc Try.underlying56 rfl (sizeHandL h) ?_)
 case hc => exact X0
 change Calls Try.prog _ _ ((w.alloc (.cells #[.int .i64 x, .int .i64 y, .int .i64 z, .int .i64 u] 25)).alloc (.cells (hdC h).toArray 56)) _
 generalize hw0 : (w.alloc (.cells #[.int .i64 x, .int .i64 y, .int .i64 z, .int .i64 u] 25)).alloc (.cells (hdC h).toArray 56) = w0 at *
 clear hw0
 refine (gripOf_any h _).mono ?_
 rintro e w1 ⟨rfl, b0⟩
 have P1 := P0.below b0 (by omega)
 have K1 := K0.trans (b0.mono (by omega))
 have z1 := Nat.lt_of_lt_of_le z0 b0.size
 clear P0 X0 K0 z0 b0
 have FA := there_new w1 #[.int .i64 0, .int .i64 0, .int .i64 0, .int .i64 0, .int .i64 0, .int .i64 0, .int .i64 0, .int .i64 0, .int .i64 0, .int .i64 0, .int .i64 0, .int .i64 0, .int .i64 0, .int .i64 0, .int .i64 0, .int .i64 0, .int .i64 0, .int .i64 0, .int .i64 0, .int .i64 0, .int .i64 0, .int .i64 0] 111 22 (by decide)
 have hset : (w1.alloc (.cells #[.int .i64 0, .int .i64 0, .int .i64 0, .int .i64 0, .int .i64 0, .int .i64 0, .int .i64 0, .int .i64 0, .int .i64 0, .int .i64 0, .int .i64 0, .int .i64 0, .int .i64 0, .int .i64 0, .int .i64 0, .int .i64 0, .int .i64 0, .int .i64 0, .int .i64 0, .int .i64 0, .int .i64 0, .int .i64 0] 111)).setCells w1.heap.size 0 (grC h).toArray.toList = w1.alloc (.cells (grC h).toArray 111) := alloc_setCells w1 111 (grC h) [] [.int .i64 0, .int .i64 0, .int .i64 0, .int .i64 0, .int .i64 0, .int .i64 0, .int .i64 0, .int .i64 0, .int .i64 0, .int .i64 0, .int .i64 0, .int .i64 0, .int .i64 0, .int .i64 0, .int .i64 0, .int .i64 0, .int .i64 0, .int .i64 0, .int .i64 0, .int .i64 0, .int .i64 0, .int .i64 0] rfl
 have X1 := rangeAt_new w1 (grC h) 111
 have P2 := P1.below ((Below.refl _ _).alloc (Nat.le_refl _) (.cells (grC h).toArray 111)) (by omega)
 have K2 := K1.alloc (by omega) (.cells (grC h).toArray 111)
 have z2 : w1.heap.size < (w1.alloc (.cells (grC h).toArray 111)).heap.size := by simp
 obtain ⟨p0, p1, p2, p3⟩ := id P2
 go_wp2_with (refine wpList_store_mid rfl 111 (.tmp 5) (.tmp 7) rfl w1.heap.size 0 _ rfl rfl FA (sizeGrip h) (oneGrip h) ?_; rw [hset])
 change Calls Try.prog _ _ (w1.alloc (.cells (grC h).toArray 111)) _
 generalize hw2 : w1.alloc (.cells (grC h).toArray 111) = w2 at *
 clear hw2 hset FA P1 K1
 refine (right_any _ _ _ _ _).mono ?_
 rintro e w3 ⟨rfl, b2⟩
 have P3 := P2.below b2 (by omega)
 have X3 := rangeAt_below X1 b2 z2
 have K3 := K2.trans (b2.mono (by omega))
 have z3 := Nat.lt_of_lt_of_le z2 b2.size
 clear P2 X1 K2 z2 b2 p0 p1 p2 p3
 cases e0 : planB x y z u
 ·have hv : handB x y z u h = false := by simp only [handB, e0, Bool.false_and]
  go_wp2_with fail
  go_ret
  exact ⟨by rw [hv]; rfl, K3⟩
 have hpl := (planB_iff x y z u).1 e0
 have hpt := parts_are x y z u h e0
 go_wp2_with (refine wpList_load_wanted ?hw0 111 (.tmp 5) rfl w1.heap.size 0 rfl (grC h) _ ?hc0 Try.underlying111 rfl (sizeGripL h) ?_)
 try (case hw0 => rfl)
 case hc0 => exact X3
 refine (states_any h _).mono ?_
 rintro e w4 ⟨rfl, b3⟩
 have P4 := P3.below b3 (by omega)
 have X4 := rangeAt_below X3 b3 z3
 have K4 := K3.trans (b3.mono (by omega))
 have z4 := Nat.lt_of_lt_of_le z3 b3.size
 clear P3 X3 K3 z3 b3
 cases e1 : statesB h
 ·have hv : handB x y z u h = false := by rw [← hpt]; simp only [e1, Bool.true_and, Bool.and_true, Bool.false_and, Bool.and_false]
  clear hpt
  go_wp2_with fail
  go_ret
  exact ⟨by rw [hv]; rfl, K4⟩
 go_wp2_with (refine wpList_load_wanted ?hw1 111 (.tmp 5) rfl w1.heap.size 0 rfl (grC h) _ ?hc1 Try.underlying111 rfl (sizeGripL h) ?_)
 try (case hw1 => rfl)
 case hc1 => exact X4
 refine (amounts_any h _).mono ?_
 rintro e w5 ⟨rfl, b4⟩
 have P5 := P4.below b4 (by omega)
 have X5 := rangeAt_below X4 b4 z4
 have K5 := K4.trans (b4.mono (by omega))
 have z5 := Nat.lt_of_lt_of_le z4 b4.size
 clear P4 X4 K4 z4 b4
 cases e2 : amountsB h
 ·have hv : handB x y z u h = false := by rw [← hpt]; simp only [e1, e2, Bool.true_and, Bool.and_true, Bool.false_and, Bool.and_false]
  clear hpt
  go_wp2_with fail
  go_ret
  exact ⟨by rw [hv]; rfl, K5⟩
 go_wp2_with (refine wpList_load_wanted ?hw2 111 (.tmp 5) rfl w1.heap.size 0 rfl (grC h) _ ?hc2 Try.underlying111 rfl (sizeGripL h) ?_)
 try (case hw2 => rfl)
 case hc2 => exact X5
 refine (times_any h _).mono ?_
 rintro e w6 ⟨rfl, b5⟩
 have P6 := P5.below b5 (by omega)
 have X6 := rangeAt_below X5 b5 z5
 have K6 := K5.trans (b5.mono (by omega))
 have z6 := Nat.lt_of_lt_of_le z5 b5.size
 clear P5 X5 K5 z5 b5
 cases e3 : timesB h
 ·have hv : handB x y z u h = false := by rw [← hpt]; simp only [e1, e2, e3, Bool.true_and, Bool.and_true, Bool.false_and, Bool.and_false]
  clear hpt
  go_wp2_with fail
  go_ret
  exact ⟨by rw [hv]; rfl, K6⟩
 have hv : handB x y z u h = placesB y z h := by rw [← hpt]; simp only [e1, e2, e3, Bool.true_and, Bool.and_true, Bool.false_and, Bool.and_false]
 clear hpt
 obtain ⟨p0, p1, p2, p3⟩ := id P6
 go_wp2_with (refine wpList_load_wanted ?hw9 109 (.tmp 23) rfl w1.heap.size 0 rfl (rgC h) _ ?hc9 Try.underlying109 rfl (sizeRegsL h) ?_)
 try (case hw9 => rfl)
 case hc9 => exact grip_regs X6
 refine (places_any x y z u h _ ⟨hpl.2.1.1, by omega⟩ hpl.2.2.1).mono ?_
 rintro e w7 ⟨rfl, b6⟩
 have K7 := K6.trans (b6.mono (by omega))
 go_wp2_with fail
 go_ret
 exact ⟨by rw [hv]; rfl, K7⟩
theorem newHand_any (w : World) : Calls Try.prog 29 #[] w fun e w' => e = .returned (.agg (hdC newH).toArray) ∧ Below w.heap.size w w' := by
 have F0 := there_new w #[.int .i64 0, .int .i64 0, .int .i64 0, .int .i64 0, .int .i64 0, .int .i64 0, .int .i64 0, .int .i64 0, .int .i64 0, .int .i64 0, .int .i64 0, .int .i64 0, .int .i64 0, .int .i64 0, .int .i64 0, .int .i64 0, .int .i64 0, .int .i64 0, .int .i64 0, .int .i64 0, .int .i64 0, .int .i64 0] 56 22 (by decide)
 go_enter Try.func29, Try.ntmps29
 go_wp2_with (refine wpList_store_mid rfl 56 (.tmp 0) (.tmp 1) rfl w.heap.size 0 _ rfl rfl ?ht ?hi ?h1 ?_)
 case ht => exact F0
 case hi => exact sizeHand newH
 case h1 => exact oneHand newH
 refine bodyPost_ret (v := .agg (hdC newH).toArray) ?_ rfl ⟨rfl, ?_⟩
 ·exact results_row Try.results29 _ _ w.heap.size 0 rfl (hdC newH) _ (World.rangeAt_setCells_same _ _ _ _ F0) Try.underlying56 rfl (sizeHandL newH)
 ·exact Below.setCells (Nat.le_refl _) _ _ _ ((Below.refl _ _).alloc (Nat.le_refl _) _)
set_option maxRecDepth 100000 in
set_option maxHeartbeats 4000000 in
theorem resting_any (h : Hd) (rp ot sm : Int) (w : World) :
  Calls Try.prog 28 #[.agg (hdC h).toArray, .int .i64 rp, .int .i64 ot, .int .i64 sm] w fun e w' => e = .returned (.agg (hdC (restOf h rp ot sm)).toArray) ∧ Below w.heap.size w w' := by
 show Calls Try.prog 28 #[.agg #[.int .i64 h.at_, .int .i64 h.then_, .int .i64 h.code, .int .i64 h.key, .int .i64 h.value, .int .i64 h.begin, .int .i64 h.reply, .int .i64 h.out, .int .i64 h.sum, .int .i64 h.held, .int .i64 h.x_, .int .i64 h.ver, .int .i64 h.cam, .int .i64 h.camAt, .int .i64 h.pred, .int .i64 h.predVer, .int .i64 h.curr, .int .i64 h.currVer, .int .i64 h.new_, .int .i64 h.least, .int .i64 h.index, .int .i64 h.round], .int .i64 rp, .int .i64 ot, .int .i64 sm] w fun e w' => e = .returned (.agg (hdC (restOf h rp ot sm)).toArray) ∧ Below w.heap.size w w'
 have X0 := World.rangeAt_alloc (rangeAt_new w (hdC h) 56) (.cells #[.int .i64 0, .int .i64 0, .int .i64 0, .int .i64 0, .int .i64 0, .int .i64 0, .int .i64 0, .int .i64 0, .int .i64 0, .int .i64 0, .int .i64 0, .int .i64 0, .int .i64 0, .int .i64 0, .int .i64 0, .int .i64 0, .int .i64 0, .int .i64 0, .int .i64 0, .int .i64 0, .int .i64 0, .int .i64 0] 56)
 have F0 := there_new (w.alloc (.cells (hdC h).toArray 56)) #[.int .i64 0, .int .i64 0, .int .i64 0, .int .i64 0, .int .i64 0, .int .i64 0, .int .i64 0, .int .i64 0, .int .i64 0, .int .i64 0, .int .i64 0, .int .i64 0, .int .i64 0, .int .i64 0, .int .i64 0, .int .i64 0, .int .i64 0, .int .i64 0, .int .i64 0, .int .i64 0, .int .i64 0, .int .i64 0] 56 22 (by decide)
 have K0 := ((Below.refl w.heap.size w).alloc (Nat.le_refl _) (.cells (hdC h).toArray 56)).alloc (by simp) (.cells #[.int .i64 0, .int .i64 0, .int .i64 0, .int .i64 0, .int .i64 0, .int .i64 0, .int .i64 0, .int .i64 0, .int .i64 0, .int .i64 0, .int .i64 0, .int .i64 0, .int .i64 0, .int .i64 0, .int .i64 0, .int .i64 0, .int .i64 0, .int .i64 0, .int .i64 0, .int .i64 0, .int .i64 0, .int .i64 0] 56)
 have hz0 : w.heap.size + 1 < ((w.alloc (.cells (hdC h).toArray 56)).alloc (.cells #[.int .i64 0, .int .i64 0, .int .i64 0, .int .i64 0, .int .i64 0, .int .i64 0, .int .i64 0, .int .i64 0, .int .i64 0, .int .i64 0, .int .i64 0, .int .i64 0, .int .i64 0, .int .i64 0, .int .i64 0, .int .i64 0, .int .i64 0, .int .i64 0, .int .i64 0, .int .i64 0, .int .i64 0, .int .i64 0] 56)).heap.size := by simp
 simp only [World.size_alloc] at F0
 go_enter Try.func28, Try.ntmps28
 go_wp2_with fail
 change Calls Try.prog _ _ ((w.alloc (.cells (hdC h).toArray 56)).alloc (.cells #[.int .i64 0, .int .i64 0, .int .i64 0, .int .i64 0, .int .i64 0, .int .i64 0, .int .i64 0, .int .i64 0, .int .i64 0, .int .i64 0, .int .i64 0, .int .i64 0, .int .i64 0, .int .i64 0, .int .i64 0, .int .i64 0, .int .i64 0, .int .i64 0, .int .i64 0, .int .i64 0, .int .i64 0, .int .i64 0] 56)) _
 generalize hw0 : (w.alloc (.cells (hdC h).toArray 56)).alloc (.cells #[.int .i64 0, .int .i64 0, .int .i64 0, .int .i64 0, .int .i64 0, .int .i64 0, .int .i64 0, .int .i64 0, .int .i64 0, .int .i64 0, .int .i64 0, .int .i64 0, .int .i64 0, .int .i64 0, .int .i64 0, .int .i64 0, .int .i64 0, .int .i64 0, .int .i64 0, .int .i64 0, .int .i64 0, .int .i64 0] 56) = w0 at *
 clear hw0
 refine (newHand_any _).mono ?_
 rintro e w1 ⟨rfl, b1⟩
 have q9 : w1.cell? ⟨w.heap.size, 9, none⟩ = some (.int .i64 h.held) := (b1.cell (p := ⟨w.heap.size, 9, none⟩) (by show w.heap.size < w0.heap.size; omega)).trans (by have := X0 9 (.int .i64 h.held) rfl; simpa using this)
 have F1 := there_below F0 b1 hz0
 have K1 := K0.trans (b1.mono (by omega))
 have hz1 := Nat.lt_of_lt_of_le hz0 b1.size
 have qa : ∀ o : Obj, (w1.alloc o).cell? ⟨w.heap.size, 9, none⟩ = some (.int .i64 h.held) := fun o => (World.cell?_alloc_lt _ _ _ (by show w.heap.size < w1.heap.size; omega)).trans q9
 clear X0 F0 K0 b1 hz0 q9
 have hset : (w1.alloc (.cells #[.int .i64 0, .int .i64 0, .int .i64 0, .int .i64 0, .int .i64 0, .int .i64 0, .int .i64 0, .int .i64 0, .int .i64 0, .int .i64 0, .int .i64 0, .int .i64 0, .int .i64 0, .int .i64 0, .int .i64 0, .int .i64 0, .int .i64 0, .int .i64 0, .int .i64 0, .int .i64 0, .int .i64 0, .int .i64 0] 56)).setCells w1.heap.size 0 (hdC newH).toArray.toList = w1.alloc (.cells #[.int .i64 0, .int .i64 0, .int .i64 0, .int .i64 (-1), .int .i64 0, .int .i64 0, .int .i64 0, .int .i64 0, .int .i64 0, .int .i64 (-1), .int .i64 0, .int .i64 0, .int .i64 0, .int .i64 0, .int .i64 0, .int .i64 0, .int .i64 (-1), .int .i64 0, .int .i64 (-1), .int .i64 0, .int .i64 0, .int .i64 0] 56) := alloc_setCells w1 56 (hdC newH) [] [.int .i64 0, .int .i64 0, .int .i64 0, .int .i64 0, .int .i64 0, .int .i64 0, .int .i64 0, .int .i64 0, .int .i64 0, .int .i64 0, .int .i64 0, .int .i64 0, .int .i64 0, .int .i64 0, .int .i64 0, .int .i64 0, .int .i64 0, .int .i64 0, .int .i64 0, .int .i64 0, .int .i64 0, .int .i64 0] rfl
 have FA := there_new w1 #[.int .i64 0, .int .i64 0, .int .i64 0, .int .i64 0, .int .i64 0, .int .i64 0, .int .i64 0, .int .i64 0, .int .i64 0, .int .i64 0, .int .i64 0, .int .i64 0, .int .i64 0, .int .i64 0, .int .i64 0, .int .i64 0, .int .i64 0, .int .i64 0, .int .i64 0, .int .i64 0, .int .i64 0, .int .i64 0] 56 22 (by decide)
 have K2 := K1.alloc (by omega) (.cells (hdC (restOf h rp ot sm)).toArray 56)
 have R2 := rangeAt_new w1 (hdC (restOf h rp ot sm)) 56
 have F2 := World.there_alloc F1 (.cells (hdC (restOf h rp ot sm)).toArray 56)
 go_wp2_with (first | (refine wpList_store_mid rfl 56 (.tmp 9) (.tmp 10) rfl w1.heap.size 0 _ rfl rfl FA (sizeHand newH) (oneHand newH) ?_; rw [hset]) | (refine wpList_load_mid rfl 56 (.tmp 9) rfl w1.heap.size 0 rfl (hdC (restOf h rp ot sm)) _ ?hc Try.underlying56 rfl (sizeHandL _) ?_) | (refine wpList_store_mid rfl 56 (.tmp 8) _ rfl (w.heap.size + 1) 0 _ rfl rfl ?ht ?hi ?h1 ?_))
 case hc => exact R2
 case ht => exact F2
 case hi => exact sizeHand _
 case h1 => exact oneHand _
 refine bodyPost_ret (v := .agg (hdC (restOf h rp ot sm)).toArray) ?_ rfl ⟨rfl, ?_⟩
 ·exact results_row Try.results28 _ _ (w.heap.size + 1) 0 rfl (hdC (restOf h rp ot sm)) _ (World.rangeAt_setCells_same _ _ _ _ F2) Try.underlying56 rfl (sizeHandL _)
 ·exact Below.setCells (by omega) _ _ _ K2
end
section
set_option maxRecDepth 100000 in
set_option maxHeartbeats 4000000 in
theorem eqHand_same (g : Hd) (w : World) : (Op.equalIn 10000 56 (.agg (hdC g).toArray) (.agg (hdC g).toArray)).run Try.prog w = .ok true w := by
 have hS : Try.prog.underlying 56 = some (.struct (Try.prog.fieldsOf 56)) := by kernel_rfl
 have hp : Try.prog.stoodInHeld 56 = false := by kernel_rfl
 rw [show (10000 : Nat) = 9999 + 1 from rfl, run_equalIn_agg w 9999 56 _ _ hS hp]
 simp only [Program.fieldsOf, Try.underlying56, hdC]
 go_simp
theorem run_eq_same (ev : Operand → Value) (o : Oper) (x y : Operand) (t' : TypeId) (ho : o.op = .binOp .eql 56 x y t') (g : Hd) (hx : ev x = .agg (hdC g).toArray) (hy : ev y = .agg (hdC g).toArray) (w : World) : (execOp ev o).run Try.prog w = .ok (.value (.bool true)) w := by
 have hm : Try.prog.eqGuardType Try.prog.depth 56 = false := by kernel_rfl
 have h1 := eqHand_same g w
 simp [execOp, ho, hx, hy, run_eqGuard_agg w .eql 56 x y _ _ hm, run_eql_struct, h1, Result.andThen]
end
section
open Go.ChangeShapes Go.WideShapes Go.ChangeAt Go.RowKit Go.Sort
attribute [local go_sem ↓] Go.wp_at_zero Go.wp_at_succ
set_option maxRecDepth 100000 in
theorem open_bytes {H : Type} {enc : TypeId × Value → H} {W : World} {r : Reach} {b0 base : Nat} {spare : Nat → Bool} {held : Bool} {v : Value} {d : DataW H} {p : List MemPlace} (hv : Value.okWide Try.prog W r b0 22 v) (h : DataW.Trod enc Try.prog W base spare held 22 v d p) :
  ∃ a len cap, v = .slice a len cap ∧ BytesAt W.heap.size W a len := by
 obtain ⟨a, len, cap, rfl⟩ := okWide_slice Try.underlying22 hv
 obtain ⟨fuel, hf⟩ := h
 refine ⟨a, len, cap, rfl, ?_⟩
 rcases open_ints Try.underlying22 Try.underlying5 (by kernel_rfl) hf with ⟨hcs, _⟩ | ⟨x, l, c, zs, hcs, _, hl, hm, hz, _, hcell, hwz⟩
 ·simp [Value.cells] at hcs
  obtain ⟨rfl, rfl, rfl⟩ := hcs
  intro j hj
  omega
 ·simp [Value.cells] at hcs
  obtain ⟨rfl, rfl, rfl⟩ := hcs
  intro j hj
  have hj2 : j < zs.length := by
   rw [hz]
   split <;> omega
  have hc := hcell j hj2
  obtain ⟨bb, off, spot⟩ := x
  have hspot : spot = none := by simpa [Addr.add] using World.cell?_spot (hcell 0 (by omega))
  subst hspot
  rw [Addr.add_mid] at hc
  have hw := hwz (zs.getD j 0) (by rw [List.getD_eq_getElem?_getD, List.getElem?_eq_getElem hj2]; exact List.getElem_mem hj2)
  have hb := bounds_u8 hw
  exact ⟨bb, off, zs.getD j 0, rfl, World.block_lt_of_cell? W _ hc, hc, hb.1, hb.2⟩
theorem wpQuiet_value {P : Program} {ops : Array Oper} {C : World → Prop} {Q : Act → Prop} {a : Act} {o : Oper} {rest : List Oper} (hgd : o.guard = none) (v : Value) (hv : ∀ w, C w → (execOp a.eval o).run P w = .ok (.value v) w)
  (h : wpQuiet P ops C Q rest (a.put o.dst v)) : wpQuiet P ops C Q (o :: rest) a := by
 refine wpQuiet_step fun K hK => ?_
 rw [if_pos (by simp [Region.wanted, hgd])]
 refine ⟨v, fun w hw => ?_, hK _ h⟩
 unfold Oper.quietAt
 rw [hv w hw]
 exact ⟨rfl, rfl⟩
set_option maxRecDepth 100000 in
set_option maxHeartbeats 16000000 in
theorem fnResting_walk (a : Option Addr) (len cap : Nat) (w : World) (C : BytesAt w.heap.size w a len) :
  Calls Try.prog 5 #[.slice a len cap] w fun e w' => e = .returned (.bool true) ∧ Below w.heap.size w w' := by
 by_cases hbig : (4096 : Int) < (len : Int)
 ·go_enter Try.func5, Try.ntmps5
  go_wp2_with (go_at_call 9; refine (big_any _ _ _ _).mono ?_; rintro e w' ⟨rfl, rfl⟩)
  go_ret
  exact ⟨rfl, Below.refl _ _⟩
 have hlen : len ≤ 4096 := by omega
 have hbf : decide ((4096 : Int) < (len : Int)) = false := by simpa using hbig
 go_enter Try.func5, Try.ntmps5
 go_wp2_with fail
 refine (big_any _ _ _ _).mono ?_
 rintro e w0 ⟨rfl, hw⟩
 obtain rfl := hw.symm
 rw [hbf]
 go_wp2_with fail
 refine (drawResting_any a len cap _ hlen C).mono ?_
 rintro e w1 ⟨g, rr, ro, rs, rfl, b1⟩
 have hs3 : (w1.alloc (.cells #[.int .i64 0, .int .i64 0, .int .i64 0, .int .i64 0, .int .i64 0, .int .i64 0, .int .i64 0, .int .i64 0, .int .i64 0, .int .i64 0, .int .i64 0, .int .i64 0, .int .i64 0, .int .i64 0, .int .i64 0, .int .i64 0, .int .i64 0, .int .i64 0, .int .i64 0, .int .i64 0, .int .i64 0, .int .i64 0] 56)).setCells w1.heap.size 0 (hdC g).toArray.toList = w1.alloc (.cells #[.int .i64 g.at_, .int .i64 g.then_, .int .i64 g.code, .int .i64 g.key, .int .i64 g.value, .int .i64 g.begin, .int .i64 g.reply, .int .i64 g.out, .int .i64 g.sum, .int .i64 g.held, .int .i64 g.x_, .int .i64 g.ver, .int .i64 g.cam, .int .i64 g.camAt, .int .i64 g.pred, .int .i64 g.predVer, .int .i64 g.curr, .int .i64 g.currVer, .int .i64 g.new_, .int .i64 g.least, .int .i64 g.index, .int .i64 g.round] 56) := alloc_setCells w1 56 (hdC g) [] [.int .i64 0, .int .i64 0, .int .i64 0, .int .i64 0, .int .i64 0, .int .i64 0, .int .i64 0, .int .i64 0, .int .i64 0, .int .i64 0, .int .i64 0, .int .i64 0, .int .i64 0, .int .i64 0, .int .i64 0, .int .i64 0, .int .i64 0, .int .i64 0, .int .i64 0, .int .i64 0, .int .i64 0, .int .i64 0] rfl
 have F3 := there_new w1 #[.int .i64 0, .int .i64 0, .int .i64 0, .int .i64 0, .int .i64 0, .int .i64 0, .int .i64 0, .int .i64 0, .int .i64 0, .int .i64 0, .int .i64 0, .int .i64 0, .int .i64 0, .int .i64 0, .int .i64 0, .int .i64 0, .int .i64 0, .int .i64 0, .int .i64 0, .int .i64 0, .int .i64 0, .int .i64 0] 56 22 (by decide)
 have K3 := b1.alloc b1.size (.cells #[.int .i64 g.at_, .int .i64 g.then_, .int .i64 g.code, .int .i64 g.key, .int .i64 g.value, .int .i64 g.begin, .int .i64 g.reply, .int .i64 g.out, .int .i64 g.sum, .int .i64 g.held, .int .i64 g.x_, .int .i64 g.ver, .int .i64 g.cam, .int .i64 g.camAt, .int .i64 g.pred, .int .i64 g.predVer, .int .i64 g.curr, .int .i64 g.currVer, .int .i64 g.new_, .int .i64 g.least, .int .i64 g.index, .int .i64 g.round] 56)
 have R3 : (w1.alloc (.cells #[.int .i64 g.at_, .int .i64 g.then_, .int .i64 g.code, .int .i64 g.key, .int .i64 g.value, .int .i64 g.begin, .int .i64 g.reply, .int .i64 g.out, .int .i64 g.sum, .int .i64 g.held, .int .i64 g.x_, .int .i64 g.ver, .int .i64 g.cam, .int .i64 g.camAt, .int .i64 g.pred, .int .i64 g.predVer, .int .i64 g.curr, .int .i64 g.currVer, .int .i64 g.new_, .int .i64 g.least, .int .i64 g.index, .int .i64 g.round] 56)).rangeAt w1.heap.size 0 (hdC g) := rangeAt_new w1 (hdC g) 56
 have z3 : w1.heap.size + 1 ≤ (w1.alloc (.cells #[.int .i64 g.at_, .int .i64 g.then_, .int .i64 g.code, .int .i64 g.key, .int .i64 g.value, .int .i64 g.begin, .int .i64 g.reply, .int .i64 g.out, .int .i64 g.sum, .int .i64 g.held, .int .i64 g.x_, .int .i64 g.ver, .int .i64 g.cam, .int .i64 g.camAt, .int .i64 g.pred, .int .i64 g.predVer, .int .i64 g.curr, .int .i64 g.currVer, .int .i64 g.new_, .int .i64 g.least, .int .i64 g.index, .int .i64 g.round] 56)).heap.size := by simp
 have zz1 := b1.size
 go_upto_region 4 with (refine wpList_store_mid rfl 56 (.tmp 3) (.tmp 16) rfl w1.heap.size 0 _ rfl rfl F3 (sizeHand g) (oneHand g) ?_; rw [hs3])
 clear hs3 F3 b1
 generalize w1.alloc (.cells #[.int .i64 g.at_, .int .i64 g.then_, .int .i64 g.code, .int .i64 g.key, .int .i64 g.value, .int .i64 g.begin, .int .i64 g.reply, .int .i64 g.out, .int .i64 g.sum, .int .i64 g.held, .int .i64 g.x_, .int .i64 g.ver, .int .i64 g.cam, .int .i64 g.camAt, .int .i64 g.pred, .int .i64 g.predVer, .int .i64 g.curr, .int .i64 g.currVer, .int .i64 g.new_, .int .i64 g.least, .int .i64 g.index, .int .i64 g.round] 56) = w2 at *
 generalize w1.heap.size = b3 at *
 go_wp2_with (refine wpList_load_mid rfl 56 (.tmp 3) rfl b3 0 rfl (hdC g) _ ?l4 Try.underlying56 rfl (sizeHandL g) ?_)
 try (case l4 => exact R3)
 refine (resting_any g rr ro rs w2).mono ?_
 rintro e w3 ⟨rfl, b3'⟩
 have R4 := rangeAt_below R3 b3' (by omega)
 have K4 := K3.trans (b3'.mono (by omega))
 have zz3 := b3'.size
 clear R3 K3 b3'
 have hs5 : (w3.alloc (.cells #[.int .i64 0, .int .i64 0, .int .i64 0, .int .i64 0, .int .i64 0, .int .i64 0, .int .i64 0, .int .i64 0, .int .i64 0, .int .i64 0, .int .i64 0, .int .i64 0, .int .i64 0, .int .i64 0, .int .i64 0, .int .i64 0, .int .i64 0, .int .i64 0, .int .i64 0, .int .i64 0, .int .i64 0, .int .i64 0] 56)).setCells w3.heap.size 0 (hdC (restOf g rr ro rs)).toArray.toList = w3.alloc (.cells #[.int .i64 0, .int .i64 0, .int .i64 0, .int .i64 (-1), .int .i64 0, .int .i64 0, .int .i64 rr, .int .i64 ro, .int .i64 rs, .int .i64 g.held, .int .i64 0, .int .i64 0, .int .i64 0, .int .i64 0, .int .i64 0, .int .i64 0, .int .i64 (-1), .int .i64 0, .int .i64 (-1), .int .i64 0, .int .i64 0, .int .i64 0] 56) := alloc_setCells w3 56 (hdC (restOf g rr ro rs)) [] [.int .i64 0, .int .i64 0, .int .i64 0, .int .i64 0, .int .i64 0, .int .i64 0, .int .i64 0, .int .i64 0, .int .i64 0, .int .i64 0, .int .i64 0, .int .i64 0, .int .i64 0, .int .i64 0, .int .i64 0, .int .i64 0, .int .i64 0, .int .i64 0, .int .i64 0, .int .i64 0, .int .i64 0, .int .i64 0] rfl
 have F5 := there_new w3 #[.int .i64 0, .int .i64 0, .int .i64 0, .int .i64 0, .int .i64 0, .int .i64 0, .int .i64 0, .int .i64 0, .int .i64 0, .int .i64 0, .int .i64 0, .int .i64 0, .int .i64 0, .int .i64 0, .int .i64 0, .int .i64 0, .int .i64 0, .int .i64 0, .int .i64 0, .int .i64 0, .int .i64 0, .int .i64 0] 56 22 (by decide)
 have al5 := (Below.refl w3.heap.size w3).alloc (Nat.le_refl _) (.cells #[.int .i64 0, .int .i64 0, .int .i64 0, .int .i64 (-1), .int .i64 0, .int .i64 0, .int .i64 rr, .int .i64 ro, .int .i64 rs, .int .i64 g.held, .int .i64 0, .int .i64 0, .int .i64 0, .int .i64 0, .int .i64 0, .int .i64 0, .int .i64 (-1), .int .i64 0, .int .i64 (-1), .int .i64 0, .int .i64 0, .int .i64 0] 56)
 have R5 := rangeAt_below R4 al5 (by omega)
 have K5 := K4.trans (al5.mono (by omega))
 have X5 : (w3.alloc (.cells #[.int .i64 0, .int .i64 0, .int .i64 0, .int .i64 (-1), .int .i64 0, .int .i64 0, .int .i64 rr, .int .i64 ro, .int .i64 rs, .int .i64 g.held, .int .i64 0, .int .i64 0, .int .i64 0, .int .i64 0, .int .i64 0, .int .i64 0, .int .i64 (-1), .int .i64 0, .int .i64 (-1), .int .i64 0, .int .i64 0, .int .i64 0] 56)).rangeAt w3.heap.size 0 (hdC (restOf g rr ro rs)) := rangeAt_new w3 (hdC (restOf g rr ro rs)) 56
 have z5 : w3.heap.size + 1 ≤ (w3.alloc (.cells #[.int .i64 0, .int .i64 0, .int .i64 0, .int .i64 (-1), .int .i64 0, .int .i64 0, .int .i64 rr, .int .i64 ro, .int .i64 rs, .int .i64 g.held, .int .i64 0, .int .i64 0, .int .i64 0, .int .i64 0, .int .i64 0, .int .i64 0, .int .i64 (-1), .int .i64 0, .int .i64 (-1), .int .i64 0, .int .i64 0, .int .i64 0] 56)).heap.size := by simp
 go_upto_region 5 with (refine wpList_store_mid rfl 56 (.tmp 7) (.tmp 24) rfl w3.heap.size 0 _ rfl rfl F5 (sizeHand (restOf g rr ro rs)) (oneHand _) ?_; rw [hs5])
 clear hs5 F5 al5 R4 K4
 generalize w3.alloc (.cells #[.int .i64 0, .int .i64 0, .int .i64 0, .int .i64 (-1), .int .i64 0, .int .i64 0, .int .i64 rr, .int .i64 ro, .int .i64 rs, .int .i64 g.held, .int .i64 0, .int .i64 0, .int .i64 0, .int .i64 0, .int .i64 0, .int .i64 0, .int .i64 (-1), .int .i64 0, .int .i64 (-1), .int .i64 0, .int .i64 0, .int .i64 0] 56) = w4 at *
 generalize hb7 : w3.heap.size = b7 at *
 clear hb7
 go_wp2_with fail
 refine (newHand_any w4).mono ?_
 rintro e w5 ⟨rfl, b5'⟩
 have R6 := rangeAt_below R5 b5' (by omega)
 have X6 := rangeAt_below X5 b5' (by omega)
 have K6 := K5.trans (b5'.mono (by omega))
 have zz5 := b5'.size
 clear R5 X5 K5 b5'
 have hs7 : (w5.alloc (.cells #[.int .i64 0, .int .i64 0, .int .i64 0, .int .i64 0, .int .i64 0, .int .i64 0, .int .i64 0, .int .i64 0, .int .i64 0, .int .i64 0, .int .i64 0, .int .i64 0, .int .i64 0, .int .i64 0, .int .i64 0, .int .i64 0, .int .i64 0, .int .i64 0, .int .i64 0, .int .i64 0, .int .i64 0, .int .i64 0] 56)).setCells w5.heap.size 0 (hdC newH).toArray.toList = w5.alloc (.cells #[.int .i64 0, .int .i64 0, .int .i64 0, .int .i64 (-1), .int .i64 0, .int .i64 0, .int .i64 0, .int .i64 0, .int .i64 0, .int .i64 (-1), .int .i64 0, .int .i64 0, .int .i64 0, .int .i64 0, .int .i64 0, .int .i64 0, .int .i64 (-1), .int .i64 0, .int .i64 (-1), .int .i64 0, .int .i64 0, .int .i64 0] 56) := alloc_setCells w5 56 (hdC newH) [] [.int .i64 0, .int .i64 0, .int .i64 0, .int .i64 0, .int .i64 0, .int .i64 0, .int .i64 0, .int .i64 0, .int .i64 0, .int .i64 0, .int .i64 0, .int .i64 0, .int .i64 0, .int .i64 0, .int .i64 0, .int .i64 0, .int .i64 0, .int .i64 0, .int .i64 0, .int .i64 0, .int .i64 0, .int .i64 0] rfl
 have F7 := there_new w5 #[.int .i64 0, .int .i64 0, .int .i64 0, .int .i64 0, .int .i64 0, .int .i64 0, .int .i64 0, .int .i64 0, .int .i64 0, .int .i64 0, .int .i64 0, .int .i64 0, .int .i64 0, .int .i64 0, .int .i64 0, .int .i64 0, .int .i64 0, .int .i64 0, .int .i64 0, .int .i64 0, .int .i64 0, .int .i64 0] 56 22 (by decide)
 have al7 := (Below.refl w5.heap.size w5).alloc (Nat.le_refl _) (.cells #[.int .i64 0, .int .i64 0, .int .i64 0, .int .i64 (-1), .int .i64 0, .int .i64 0, .int .i64 0, .int .i64 0, .int .i64 0, .int .i64 (-1), .int .i64 0, .int .i64 0, .int .i64 0, .int .i64 0, .int .i64 0, .int .i64 0, .int .i64 (-1), .int .i64 0, .int .i64 (-1), .int .i64 0, .int .i64 0, .int .i64 0] 56)
 have R7 := rangeAt_below R6 al7 (by omega)
 have X7 := rangeAt_below X6 al7 (by omega)
 have K7 := K6.trans (al7.mono (by omega))
 have N7 : (w5.alloc (.cells #[.int .i64 0, .int .i64 0, .int .i64 0, .int .i64 (-1), .int .i64 0, .int .i64 0, .int .i64 0, .int .i64 0, .int .i64 0, .int .i64 (-1), .int .i64 0, .int .i64 0, .int .i64 0, .int .i64 0, .int .i64 0, .int .i64 0, .int .i64 (-1), .int .i64 0, .int .i64 (-1), .int .i64 0, .int .i64 0, .int .i64 0] 56)).rangeAt w5.heap.size 0 (hdC newH) := rangeAt_new w5 (hdC newH) 56
 have T7 := there_new w5 #[.int .i64 0, .int .i64 0, .int .i64 0, .int .i64 (-1), .int .i64 0, .int .i64 0, .int .i64 0, .int .i64 0, .int .i64 0, .int .i64 (-1), .int .i64 0, .int .i64 0, .int .i64 0, .int .i64 0, .int .i64 0, .int .i64 0, .int .i64 (-1), .int .i64 0, .int .i64 (-1), .int .i64 0, .int .i64 0, .int .i64 0] 56 22 (by decide)
 have z7 : w5.heap.size + 1 ≤ (w5.alloc (.cells #[.int .i64 0, .int .i64 0, .int .i64 0, .int .i64 (-1), .int .i64 0, .int .i64 0, .int .i64 0, .int .i64 0, .int .i64 0, .int .i64 (-1), .int .i64 0, .int .i64 0, .int .i64 0, .int .i64 0, .int .i64 0, .int .i64 0, .int .i64 (-1), .int .i64 0, .int .i64 (-1), .int .i64 0, .int .i64 0, .int .i64 0] 56)).heap.size := by simp
 go_upto_region 6 with (refine wpList_store_mid rfl 56 (.tmp 8) (.tmp 25) rfl w5.heap.size 0 _ rfl rfl F7 (sizeHand newH) (oneHand _) ?_; rw [hs7])
 clear hs7 F7 al7 R6 X6 K6
 generalize w5.alloc (.cells #[.int .i64 0, .int .i64 0, .int .i64 0, .int .i64 (-1), .int .i64 0, .int .i64 0, .int .i64 0, .int .i64 0, .int .i64 0, .int .i64 (-1), .int .i64 0, .int .i64 0, .int .i64 0, .int .i64 0, .int .i64 0, .int .i64 0, .int .i64 (-1), .int .i64 0, .int .i64 (-1), .int .i64 0, .int .i64 0, .int .i64 0] 56) = w6 at *
 generalize hb8 : w5.heap.size = b8 at *
 clear hb8
 have q9 : w6.cell? ⟨b3, 9, none⟩ = some (.int .i64 g.held) := by simpa using R7 9 _ rfl
 have n9 : w6.cell? ⟨b8, 9, none⟩ = some (.int .i64 (-1)) := by simpa using N7 9 (.int .i64 (-1)) rfl
 have f9 : w6.frozen? ⟨b8, 9, none⟩ = false := by simpa using (T7 9 (by decide)).2
 have n6 : w6.cell? ⟨b8, 6, none⟩ = some (.int .i64 0) := by simpa using N7 6 (.int .i64 0) rfl
 have f6 : w6.frozen? ⟨b8, 6, none⟩ = false := by simpa using (T7 6 (by decide)).2
 have n7 : w6.cell? ⟨b8, 7, none⟩ = some (.int .i64 0) := by simpa using N7 7 (.int .i64 0) rfl
 have f7 : w6.frozen? ⟨b8, 7, none⟩ = false := by simpa using (T7 7 (by decide)).2
 have n8 : w6.cell? ⟨b8, 8, none⟩ = some (.int .i64 0) := by simpa using N7 8 (.int .i64 0) rfl
 have f8 : w6.frozen? ⟨b8, 8, none⟩ = false := by simpa using (T7 8 (by decide)).2
 go_upto_region 10 with fail
 have N8 : ((((w6.setCell ⟨b8, 9, none⟩ (.int .i64 g.held)).setCell ⟨b8, 6, none⟩ (.int .i64 rr)).setCell ⟨b8, 7, none⟩ (.int .i64 ro)).setCell ⟨b8, 8, none⟩ (.int .i64 rs)).rangeAt b8 0 (hdC (restOf g rr ro rs)) := rangeAt_set (rangeAt_set (rangeAt_set (rangeAt_set N7 9 (by simp [hdC]) (.int .i64 g.held)) 6 (by simp [hdC]) (.int .i64 rr)) 7 (by simp [hdC]) (.int .i64 ro)) 8 (by simp [hdC]) (.int .i64 rs)
 have hO8 : Only b8 w6 ((((w6.setCell ⟨b8, 9, none⟩ (.int .i64 g.held)).setCell ⟨b8, 6, none⟩ (.int .i64 rr)).setCell ⟨b8, 7, none⟩ (.int .i64 ro)).setCell ⟨b8, 8, none⟩ (.int .i64 rs)) := ((((Only.refl b8 w6).setCell (p := ⟨b8, 9, none⟩) (Or.inl rfl) _).setCell (p := ⟨b8, 6, none⟩) (Or.inl rfl) _).setCell (p := ⟨b8, 7, none⟩) (Or.inl rfl) _).setCell (p := ⟨b8, 8, none⟩) (Or.inl rfl) _
 have X8 := rangeAt_only' X7 hO8 (by omega) (by omega)
 have K8 := K7.trans (hO8.below (by omega) (by omega))
 have zz8 := hO8.size
 clear q9 n9 f9 n6 f6 n7 f7 n8 f8 N7 T7 X7 R7 K7 hO8
 generalize (((w6.setCell ⟨b8, 9, none⟩ (.int .i64 g.held)).setCell ⟨b8, 6, none⟩ (.int .i64 rr)).setCell ⟨b8, 7, none⟩ (.int .i64 ro)).setCell ⟨b8, 8, none⟩ (.int .i64 rs) = w7 at *
 go_wp2_with fail
 refine (drawHandOk_any a len cap w7 hlen ((C.below K8).weaken (by omega))).mono ?_
 rintro e w8 ⟨x, y, z, u, q, rfl, b9'⟩
 have N9 := rangeAt_below N8 b9' (by omega)
 have X9 := rangeAt_below X8 b9' (by omega)
 have K9 := K8.trans (b9'.mono (by omega))
 have zz9 := b9'.size
 clear N8 X8 K8 b9'
 have TP := World.there_alloc (there_new w8 #[.int .i64 0, .int .i64 0, .int .i64 0, .int .i64 0] 25 4 (by decide)) (.cells #[.int .i64 0, .int .i64 0, .int .i64 0, .int .i64 0, .int .i64 0, .int .i64 0, .int .i64 0, .int .i64 0, .int .i64 0, .int .i64 0, .int .i64 0, .int .i64 0, .int .i64 0, .int .i64 0, .int .i64 0, .int .i64 0, .int .i64 0, .int .i64 0, .int .i64 0, .int .i64 0, .int .i64 0, .int .i64 0] 56)
 have TH := World.there_setCells (there_new (w8.alloc (.cells #[.int .i64 0, .int .i64 0, .int .i64 0, .int .i64 0] 25)) #[.int .i64 0, .int .i64 0, .int .i64 0, .int .i64 0, .int .i64 0, .int .i64 0, .int .i64 0, .int .i64 0, .int .i64 0, .int .i64 0, .int .i64 0, .int .i64 0, .int .i64 0, .int .i64 0, .int .i64 0, .int .i64 0, .int .i64 0, .int .i64 0, .int .i64 0, .int .i64 0, .int .i64 0, .int .i64 0] 56 22 (by decide)) w8.heap.size 0 [.int .i64 x, .int .i64 y, .int .i64 z, .int .i64 u]
 simp only [World.size_alloc] at TH
 have KA : Below w8.heap.size w8 ((((w8.alloc (.cells #[.int .i64 0, .int .i64 0, .int .i64 0, .int .i64 0] 25)).alloc (.cells #[.int .i64 0, .int .i64 0, .int .i64 0, .int .i64 0, .int .i64 0, .int .i64 0, .int .i64 0, .int .i64 0, .int .i64 0, .int .i64 0, .int .i64 0, .int .i64 0, .int .i64 0, .int .i64 0, .int .i64 0, .int .i64 0, .int .i64 0, .int .i64 0, .int .i64 0, .int .i64 0, .int .i64 0, .int .i64 0] 56)).setCells w8.heap.size 0 [.int .i64 x, .int .i64 y, .int .i64 z, .int .i64 u]).setCells (w8.heap.size + 1) 0 (hdC q)) := Below.setCells (by omega) _ _ _ (Below.setCells (Nat.le_refl _) _ _ _ (((Below.refl _ _).alloc (Nat.le_refl _) _).alloc (by simp) _))
 have QA : ((((w8.alloc (.cells #[.int .i64 0, .int .i64 0, .int .i64 0, .int .i64 0] 25)).alloc (.cells #[.int .i64 0, .int .i64 0, .int .i64 0, .int .i64 0, .int .i64 0, .int .i64 0, .int .i64 0, .int .i64 0, .int .i64 0, .int .i64 0, .int .i64 0, .int .i64 0, .int .i64 0, .int .i64 0, .int .i64 0, .int .i64 0, .int .i64 0, .int .i64 0, .int .i64 0, .int .i64 0, .int .i64 0, .int .i64 0] 56)).setCells w8.heap.size 0 [.int .i64 x, .int .i64 y, .int .i64 z, .int .i64 u]).setCells (w8.heap.size + 1) 0 (hdC q)).rangeAt (w8.heap.size + 1) 0 (hdC q) := World.rangeAt_setCells_same _ _ _ _ TH
 have PA : ((((w8.alloc (.cells #[.int .i64 0, .int .i64 0, .int .i64 0, .int .i64 0] 25)).alloc (.cells #[.int .i64 0, .int .i64 0, .int .i64 0, .int .i64 0, .int .i64 0, .int .i64 0, .int .i64 0, .int .i64 0, .int .i64 0, .int .i64 0, .int .i64 0, .int .i64 0, .int .i64 0, .int .i64 0, .int .i64 0, .int .i64 0, .int .i64 0, .int .i64 0, .int .i64 0, .int .i64 0, .int .i64 0, .int .i64 0] 56)).setCells w8.heap.size 0 [.int .i64 x, .int .i64 y, .int .i64 z, .int .i64 u]).setCells (w8.heap.size + 1) 0 (hdC q)).rangeAt w8.heap.size 0 [.int .i64 x, .int .i64 y, .int .i64 z, .int .i64 u] := rangeAt_only' (World.rangeAt_setCells_same _ _ _ _ TP) (only_setCells (w8.heap.size + 1) (hdC q) 0 _) (by rw [setCells_size]; simp; omega) (by omega)
 have zA : w8.heap.size + 2 ≤ ((((w8.alloc (.cells #[.int .i64 0, .int .i64 0, .int .i64 0, .int .i64 0] 25)).alloc (.cells #[.int .i64 0, .int .i64 0, .int .i64 0, .int .i64 0, .int .i64 0, .int .i64 0, .int .i64 0, .int .i64 0, .int .i64 0, .int .i64 0, .int .i64 0, .int .i64 0, .int .i64 0, .int .i64 0, .int .i64 0, .int .i64 0, .int .i64 0, .int .i64 0, .int .i64 0, .int .i64 0, .int .i64 0, .int .i64 0] 56)).setCells w8.heap.size 0 [.int .i64 x, .int .i64 y, .int .i64 z, .int .i64 u]).setCells (w8.heap.size + 1) 0 (hdC q)).heap.size := by rw [setCells_size, setCells_size]; simp
 go_upto_region 11 with (first | (refine wpList_store_mid rfl 25 (.tmp 9) (.tmp 38) rfl w8.heap.size 0 #[.int .i64 x, .int .i64 y, .int .i64 z, .int .i64 u] ?sx1 ?sy1 ?st1 sizePlanW (by simp [Value.oneCell']) ?_) | (refine wpList_store_mid rfl 56 (.tmp 10) (.tmp 39) rfl (w8.heap.size + 1) 0 (hdC q).toArray ?sx2 ?sy2 ?st2 (sizeHand q) (oneHand q) ?_))
 try (case sx1 => rfl)
 try (case sy1 => rfl)
 try (case st1 => exact TP)
 try (case sx2 => rfl)
 try (case sy2 => rfl)
 try (case st2 => exact TH)
 clear TP TH
 generalize (((w8.alloc (.cells #[.int .i64 0, .int .i64 0, .int .i64 0, .int .i64 0] 25)).alloc (.cells #[.int .i64 0, .int .i64 0, .int .i64 0, .int .i64 0, .int .i64 0, .int .i64 0, .int .i64 0, .int .i64 0, .int .i64 0, .int .i64 0, .int .i64 0, .int .i64 0, .int .i64 0, .int .i64 0, .int .i64 0, .int .i64 0, .int .i64 0, .int .i64 0, .int .i64 0, .int .i64 0, .int .i64 0, .int .i64 0] 56)).setCells w8.heap.size 0 [.int .i64 x, .int .i64 y, .int .i64 z, .int .i64 u]).setCells (w8.heap.size + 1) 0 (hdC q) = wa at *
 have NA := rangeAt_below N9 KA (by omega)
 have XA := rangeAt_below X9 KA (by omega)
 have KF := K9.trans (KA.mono (by omega))
 clear N9 X9 K9 KA
 generalize hb10 : w8.heap.size + 1 = b10 at *
 generalize hb9 : w8.heap.size = b9 at *
 have yx0 : ∀ (dq : Nat) (os : Array Obj), (grow (redrawn wa dq) os).cell? ⟨b7, 0, none⟩ = some (.int .i64 0) := fun dq os => cell_regrown (by simpa using XA 0 (.int .i64 0) rfl) dq os
 have yx16 : ∀ (dq : Nat) (os : Array Obj), (grow (redrawn wa dq) os).cell? ⟨b7, 16, none⟩ = some (.int .i64 (-1)) := fun dq os => cell_regrown (by simpa using XA 16 (.int .i64 (-1)) rfl) dq os
 have yx18 : ∀ (dq : Nat) (os : Array Obj), (grow (redrawn wa dq) os).cell? ⟨b7, 18, none⟩ = some (.int .i64 (-1)) := fun dq os => cell_regrown (by simpa using XA 18 (.int .i64 (-1)) rfl) dq os
 have yx3 : ∀ (dq : Nat) (os : Array Obj), (grow (redrawn wa dq) os).cell? ⟨b7, 3, none⟩ = some (.int .i64 (-1)) := fun dq os => cell_regrown (by simpa using XA 3 (.int .i64 (-1)) rfl) dq os
 have yp0 : ∀ (dq : Nat) (os : Array Obj), (grow (redrawn wa dq) os).cell? ⟨b9, 0, none⟩ = some (.int .i64 x) := fun dq os => cell_regrown (by simpa using PA 0 (.int .i64 x) rfl) dq os
 have yp1 : ∀ (dq : Nat) (os : Array Obj), (grow (redrawn wa dq) os).cell? ⟨b9, 1, none⟩ = some (.int .i64 y) := fun dq os => cell_regrown (by simpa using PA 1 (.int .i64 y) rfl) dq os
 have yp2 : ∀ (dq : Nat) (os : Array Obj), (grow (redrawn wa dq) os).cell? ⟨b9, 2, none⟩ = some (.int .i64 z) := fun dq os => cell_regrown (by simpa using PA 2 (.int .i64 z) rfl) dq os
 have yp3 : ∀ (dq : Nat) (os : Array Obj), (grow (redrawn wa dq) os).cell? ⟨b9, 3, none⟩ = some (.int .i64 u) := fun dq os => cell_regrown (by simpa using PA 3 (.int .i64 u) rfl) dq os
 cases hB : handB x y z u q
 ·have cI : ∀ (dq : Nat) (os : Array Obj), Calls Try.prog 31 #[.agg #[.int .i64 x, .int .i64 y, .int .i64 z, .int .i64 u], .agg (hdC q).toArray] (grow (redrawn wa dq) os) fun e w'' => e = .returned (.bool false) ∧ ∃ p : Regrown, w'' = grow (redrawn wa p.d) p.os := fun dq os => by
   have hcl := handOk_any x y z u q (grow (redrawn wa dq) os)
   rw [hB] at hcl
   exact Calls.regrown_of hcl
  have cS : ∀ (dq : Nat) (os : Array Obj), Calls Try.prog 32 #[.agg #[.int .i64 x, .int .i64 y, .int .i64 z, .int .i64 u], .agg (hdC q).toArray] (grow (redrawn wa dq) os) fun e w'' => e = .returned (.bool false) ∧ ∃ p : Regrown, w'' = grow (redrawn wa p.d) p.os := fun dq os => by
   have hcl := specHandOk_any x y z u q (grow (redrawn wa dq) os)
   rw [hB] at hcl
   exact Calls.regrown_of hcl
  clear hB
  refine wp_region_quiet_below (by kernel_rfl) (by kernel_rfl) ?_
  refine wpQuiet_load_mid rfl 56 (.tmp 7) rfl b7 0 rfl (hdC (restOf g rr ro rs)) _ (fun w' hw' => by obtain ⟨⟨dq, os⟩, rfl⟩ := hw'; exact rangeAt_below XA (below_regrown wa dq os) (by omega)) Try.underlying56 rfl (sizeHandL _) ?_
  refine wpQuiet_load_mid rfl 56 (.tmp 8) rfl b8 0 rfl (hdC (restOf g rr ro rs)) _ (fun w' hw' => by obtain ⟨⟨dq, os⟩, rfl⟩ := hw'; exact rangeAt_below NA (below_regrown wa dq os) (by omega)) Try.underlying56 rfl (sizeHandL _) ?_
  refine wpQuiet_value rfl (.bool true) (fun w' _ => run_eq_same _ _ (.tmp 40) (.tmp 41) _ rfl (restOf g rr ro rs) rfl rfl w') ?_
  simp only [Act.put, List.setIfInBounds_toArray, List.set_cons_succ, List.set_cons_zero]
  repeat (first | (refine wpQuiet_load_wanted rfl 56 (.tmp 10) rfl b10 0 rfl (hdC q) _ (fun w' hw' => by obtain ⟨⟨dq, os⟩, rfl⟩ := hw'; exact rangeAt_below QA (below_regrown wa dq os) (by omega)) Try.underlying56 rfl (sizeHandL _) ?_; simp only [Act.put, List.setIfInBounds_toArray, List.set_cons_succ, List.set_cons_zero]) | go_big_quiet_step (first | exact cI _ _ | exact cS _ _))
  refine wpQuiet_nil ?_
  intro _ hw'
  obtain ⟨⟨dq, osq⟩, hw''⟩ := hw'
  subst hw''
  have bq := below_regrown wa dq osq
  have KG := KF.trans (bq.mono (by omega))
  go_wp2
  go_ret
  exact ⟨rfl, KG⟩
 ·have cI : ∀ (dq : Nat) (os : Array Obj), Calls Try.prog 31 #[.agg #[.int .i64 x, .int .i64 y, .int .i64 z, .int .i64 u], .agg (hdC q).toArray] (grow (redrawn wa dq) os) fun e w'' => e = .returned (.bool true) ∧ ∃ p : Regrown, w'' = grow (redrawn wa p.d) p.os := fun dq os => by
   have hcl := handOk_any x y z u q (grow (redrawn wa dq) os)
   rw [hB] at hcl
   exact Calls.regrown_of hcl
  have cS : ∀ (dq : Nat) (os : Array Obj), Calls Try.prog 32 #[.agg #[.int .i64 x, .int .i64 y, .int .i64 z, .int .i64 u], .agg (hdC q).toArray] (grow (redrawn wa dq) os) fun e w'' => e = .returned (.bool true) ∧ ∃ p : Regrown, w'' = grow (redrawn wa p.d) p.os := fun dq os => by
   have hcl := specHandOk_any x y z u q (grow (redrawn wa dq) os)
   rw [hB] at hcl
   exact Calls.regrown_of hcl
  clear hB
  refine wp_region_quiet_below (by kernel_rfl) (by kernel_rfl) ?_
  refine wpQuiet_load_mid rfl 56 (.tmp 7) rfl b7 0 rfl (hdC (restOf g rr ro rs)) _ (fun w' hw' => by obtain ⟨⟨dq, os⟩, rfl⟩ := hw'; exact rangeAt_below XA (below_regrown wa dq os) (by omega)) Try.underlying56 rfl (sizeHandL _) ?_
  refine wpQuiet_load_mid rfl 56 (.tmp 8) rfl b8 0 rfl (hdC (restOf g rr ro rs)) _ (fun w' hw' => by obtain ⟨⟨dq, os⟩, rfl⟩ := hw'; exact rangeAt_below NA (below_regrown wa dq os) (by omega)) Try.underlying56 rfl (sizeHandL _) ?_
  refine wpQuiet_value rfl (.bool true) (fun w' _ => run_eq_same _ _ (.tmp 40) (.tmp 41) _ rfl (restOf g rr ro rs) rfl rfl w') ?_
  simp only [Act.put, List.setIfInBounds_toArray, List.set_cons_succ, List.set_cons_zero]
  repeat (first | (refine wpQuiet_load_wanted rfl 56 (.tmp 10) rfl b10 0 rfl (hdC q) _ (fun w' hw' => by obtain ⟨⟨dq, os⟩, rfl⟩ := hw'; exact rangeAt_below QA (below_regrown wa dq os) (by omega)) Try.underlying56 rfl (sizeHandL _) ?_; simp only [Act.put, List.setIfInBounds_toArray, List.set_cons_succ, List.set_cons_zero]) | go_big_quiet_step (first | exact cI _ _ | exact cS _ _))
  refine wpQuiet_nil ?_
  intro _ hw'
  obtain ⟨⟨dq, osq⟩, hw''⟩ := hw'
  subst hw''
  have bq := below_regrown wa dq osq
  have KG := KF.trans (bq.mono (by omega))
  go_wp2
  go_ret
  exact ⟨rfl, KG⟩
set_option maxRecDepth 100000 in
theorem fnResting_lifted (os : Os) (started : os.Started) (H : Type) (enc : TypeId × Value → H) :
  ReturnsInHanded {} Try.checked os 5 .any (Rows.fnRestingSpec.pre6 enc Try.prog Try.f5 Rows.fnRestingRow.domain false) (Rows.fnRestingSpec.post enc Try.prog Try.f5 false true false false) := by
 refine returnsInHanded_of_change (C := Try.checked) own started (by kernel_rfl) Try.func5
  (ChangeSpec.witness6 (enc := enc) (C := Try.checked) false ⟨#[], #[.slice none 0 0], []⟩ 8 (by kernel_rfl) (by kernel_rfl) (by kernel_rfl) (by kernel_rfl)) ?_
 intro W base args ds gs before hval0 hW hcnd _
 have hval : ∀ (j : Nat) t v, Try.f5.params[j]? = some t → args[j]? = some v → Value.okWide Try.prog W .any base t v := hval0
 have hW' := hW
 obtain ⟨p, q, hA0, hV, rfl, hfz, hnd⟩ := hW
 have hA : DataW.TrodAll enc Try.prog W 0 (fun _ => true) true Try.f5.params.toList args.toList ds p := hA0
 rw [Try.params5] at hA hval
 obtain ⟨v0, vs0, d0, ds0, p0, q0, hargs, rfl, rfl, h0, r0⟩ := trodAll_cons hA
 obtain ⟨rfl, rfl, rfl⟩ := trodAll_nil r0
 obtain rfl : args = #[v0] := by cases args; simp_all
 obtain ⟨rfl, rfl⟩ := trodVars_none hV
 have k0 := h0
 have lt0 : ∀ x ∈ p0, x.block < W.heap.size := by obtain ⟨m, hm⟩ := k0; exact DataW.trod_lt m _ _ _ hm
 obtain ⟨a0, len0, cap0, hv0, w0⟩ := open_bytes (hval 0 22 v0 rfl rfl) h0
 subst hv0
 clear hA0 hval0
 refine (fnResting_walk a0 len0 cap0 W w0).mono fun e W' ⟨he, bel⟩ => ?_
 subst he
 exact ⟨_, rfl, _, _, _, [], _, [], hW', trodAll_mk1 (shut_bool Try.underlying4 _), (trodAll_cons_mk (Below.trod laidOut (by kernel_rfl) (of_decide_eq_true (by kernel_rfl)) k0 bel lt0) trodAll_mk0), rfl, bel.frame _, fun h => by cases h⟩
theorem fnResting_holds : Rows.FnRestingSaid :=
 OpenClaim.holds_of_wide 5 Try.f5 rfl rfl rfl rfl rfl rfl rfl ⟨rfl, rfl, rfl, rfl, rfl⟩ rfl rfl rfl rfl rfl (by kernel_rfl) Try.func5 (by kernel_rfl)
  (of_decide_eq_true (by kernel_rfl)) (by unfold Func.isWrapper; first | (rw [if_pos (by decide +kernel)]; kernel_rfl) | (rw [if_neg (by decide +kernel)]; exact ⟨rfl, rfl⟩))
  (fun os started H enc _ => fnResting_lifted os started H enc)
#print axioms fnResting_holds
end
end Go.Proofs.Ytananefdghclfaa
