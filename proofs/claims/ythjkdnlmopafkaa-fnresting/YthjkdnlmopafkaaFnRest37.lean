/-
  What the law's proof goes by, part 38.
-/
import Derived.Test.YthjkdnlmopafkaaFnRest00
import Derived.Test.YthjkdnlmopafkaaFnRest36
namespace Go.Proofs.Ythjkdnlmopafkaa
open Go.ChangeShapes Go.WideShapes Go.ChangeAt Go.RowKit
set_option maxRecDepth 100000
set_option maxHeartbeats 16000000
set_option linter.unusedVariables false
set_option linter.unusedSimpArgs false
set_option linter.unnecessarySimpa false
set_option linter.unusedSectionVars false
section
attribute [local go_sem ↓] Go.wp_at_zero Go.wp_at_succ
theorem qz71 (a : Option Addr) (len cap : Nat) (w : World) (hlen : len <= 4096) (C : qz1h w.heap.size w a len) :
  Calls Try.prog 27 #[.slice a len cap] w fun e w' => ∃ x y z u g, e = .returned (.tuple #[.agg #[.int .i64 x, .int .i64 y, .int .i64 z, .int .i64 u], .agg (hdC g).toArray]) /\ Below w.heap.size w w' := by
 have T0 := World.there_alloc (qzh w #[.int .i64 0, .int .i64 0, .int .i64 0, .int .i64 0] 25 4 (by decide)) (.cells #[.int .i64 0, .int .i64 0, .int .i64 0, .int .i64 0, .int .i64 0, .int .i64 0, .int .i64 0, .int .i64 0, .int .i64 0, .int .i64 0, .int .i64 0, .int .i64 0, .int .i64 0, .int .i64 0, .int .i64 0, .int .i64 0, .int .i64 0, .int .i64 0, .int .i64 0, .int .i64 0, .int .i64 0, .int .i64 0] 56)
 have U0 := qzh (w.alloc (.cells #[.int .i64 0, .int .i64 0, .int .i64 0, .int .i64 0] 25)) #[.int .i64 0, .int .i64 0, .int .i64 0, .int .i64 0, .int .i64 0, .int .i64 0, .int .i64 0, .int .i64 0, .int .i64 0, .int .i64 0, .int .i64 0, .int .i64 0, .int .i64 0, .int .i64 0, .int .i64 0, .int .i64 0, .int .i64 0, .int .i64 0, .int .i64 0, .int .i64 0, .int .i64 0, .int .i64 0] 56 22 (by decide)
 have K0 := ((Below.refl w.heap.size w).alloc (Nat.le_refl _) (.cells #[.int .i64 0, .int .i64 0, .int .i64 0, .int .i64 0] 25)).alloc (by simp) (.cells #[.int .i64 0, .int .i64 0, .int .i64 0, .int .i64 0, .int .i64 0, .int .i64 0, .int .i64 0, .int .i64 0, .int .i64 0, .int .i64 0, .int .i64 0, .int .i64 0, .int .i64 0, .int .i64 0, .int .i64 0, .int .i64 0, .int .i64 0, .int .i64 0, .int .i64 0, .int .i64 0, .int .i64 0, .int .i64 0] 56)
 have C0 := (C.alloc (Nat.le_refl _) (.cells #[.int .i64 0, .int .i64 0, .int .i64 0, .int .i64 0] 25)).alloc (by simp) (.cells #[.int .i64 0, .int .i64 0, .int .i64 0, .int .i64 0, .int .i64 0, .int .i64 0, .int .i64 0, .int .i64 0, .int .i64 0, .int .i64 0, .int .i64 0, .int .i64 0, .int .i64 0, .int .i64 0, .int .i64 0, .int .i64 0, .int .i64 0, .int .i64 0, .int .i64 0, .int .i64 0, .int .i64 0, .int .i64 0] 56)
 have hz0 : ((w.alloc (.cells #[.int .i64 0, .int .i64 0, .int .i64 0, .int .i64 0] 25)).alloc (.cells #[.int .i64 0, .int .i64 0, .int .i64 0, .int .i64 0, .int .i64 0, .int .i64 0, .int .i64 0, .int .i64 0, .int .i64 0, .int .i64 0, .int .i64 0, .int .i64 0, .int .i64 0, .int .i64 0, .int .i64 0, .int .i64 0, .int .i64 0, .int .i64 0, .int .i64 0, .int .i64 0, .int .i64 0, .int .i64 0] 56)).heap.size = w.heap.size + 2 := by simp
 simp only [World.size_alloc] at U0
 go_enter Try.func27, Try.ntmps27
 go_wp2_with fail
 generalize hw0 : (w.alloc (.cells #[.int .i64 0, .int .i64 0, .int .i64 0, .int .i64 0] 25)).alloc (.cells #[.int .i64 0, .int .i64 0, .int .i64 0, .int .i64 0, .int .i64 0, .int .i64 0, .int .i64 0, .int .i64 0, .int .i64 0, .int .i64 0, .int .i64 0, .int .i64 0, .int .i64 0, .int .i64 0, .int .i64 0, .int .i64 0, .int .i64 0, .int .i64 0, .int .i64 0, .int .i64 0, .int .i64 0, .int .i64 0] 56) = w0 at *
 clear hw0
 refine (qz8r a len cap w0 hlen (C0.weaken (by omega))).mono ?_
 rintro e w1 ⟨rfl, ⟨h1, D1⟩, b1⟩
 have T1 := qz6 T0 b1 (by omega)
 have U1 := qz6 U0 b1 (by omega)
 have C1 := C0.below (b1.mono (by omega))
 have K1 := K0.trans (b1.mono (by omega))
 have hz1 := b1.size
 have hzl : w.heap.size + 2 <= w0.heap.size := by omega
 clear T0 U0 C0 K0 b1 C hz0
 go_wp2_with fail
 refine (qz5a w.heap.size w0.heap.size a len cap 0 h1 w1 (by omega) hlen D1 C1).mono ?_
 rintro e w2 ⟨x, y, z, u, g, rfl, _, _, O2⟩
 have T2 := qz8 T1 O2 (by have := D1.blk; omega) (by omega)
 have U2 := qz8 U1 O2 (by have := D1.blk; omega) (by omega)
 have K2 := K1.trans (O2.below (by omega) (by omega))
 have hz2 := O2.size
 have hbb := D1.blk
 clear T1 U1 C1 K1 O2 D1
 have hO1 := qz9 w.heap.size [.int .i64 x, .int .i64 y, .int .i64 z, .int .i64 u] 0 w2
 have hO2 := qz9 (w.heap.size + 1) (hdC g) 0 (w2.setCells w.heap.size 0 [.int .i64 x, .int .i64 y, .int .i64 z, .int .i64 u])
 have TB := World.there_setCells U2 w.heap.size 0 [.int .i64 x, .int .i64 y, .int .i64 z, .int .i64 u]
 have F1 := qz5 (World.rangeAt_setCells_same w2 w.heap.size 0 [.int .i64 x, .int .i64 y, .int .i64 z, .int .i64 u] T2) hO2 (by rw [qzy]; omega) (by omega)
 have F2 := World.rangeAt_setCells_same (w2.setCells w.heap.size 0 [.int .i64 x, .int .i64 y, .int .i64 z, .int .i64 u]) (w.heap.size + 1) 0 (hdC g) TB
 have KB := (K2.trans (hO1.below (B := w.heap.size) (by omega) (by omega))).trans (hO2.below (B := w.heap.size) (by omega) (by rw [qzy]; omega))
 go_wp2_with (first | (refine wpList_store_mid rfl 25 (.tmp 2) (.tmp 9) rfl w.heap.size 0 #[.int .i64 x, .int .i64 y, .int .i64 z, .int .i64 u] ?sx1 ?sy1 ?st1 qzt (by simp [Value.oneCell']) ?_) | (refine wpList_store_mid rfl 56 (.tmp 3) (.tmp 10) rfl (w.heap.size + 1) 0 (hdC g).toArray ?sx2 ?sy2 ?st2 (qzb g) (qzg g) ?_))
 try (case sx1 => rfl)
 try (case sy1 => rfl)
 try (case st1 => exact T2)
 try (case sx2 => rfl)
 try (case sy2 => rfl)
 try (case st2 => exact TB)
 refine bodyPost_ret (v := .tuple #[.agg #[.int .i64 x, .int .i64 y, .int .i64 z, .int .i64 u], .agg (hdC g).toArray]) ?_ rfl ⟨x, y, z, u, g, rfl, KB⟩
 exact qz18 Try.results27 _ _ w.heap.size 0 (w.heap.size + 1) 0 rfl rfl [.int .i64 x, .int .i64 y, .int .i64 z, .int .i64 u] (hdC g) _ _ F1 Try.underlying25 rfl qzt F2 Try.underlying56 rfl (qz1 g)
theorem qz5r {P : Program} {fn : Func} {p q1 q2 q3 : Tmp} {ty : TypeId} (h : fn.results = #[.cell p ty, .tmp q1, .tmp q2, .tmp q3]) (tmps : Array Value) (w : World) (b o : Nat) (hp : tmps.getD p undef = .pointer (some ⟨b, o, none⟩))
  (cs : List Value) (d : TypeDesc) (hc : w.rangeAt b o cs) (hu : P.underlying ty = some d) (hd : d.isRow = true) (hi : (P.info? ty).map (·.size) = some cs.length) : (results fn tmps).run P w = .ok (.tuple #[.agg cs.toArray, tmps.getD q1 undef, tmps.getD q2 undef, tmps.getD q3 undef]) w := by
 have hl := run_loadVar_mid (P := P) w b o ty cs d hc hu hd hi
 rw [Array.getD_eq_getD_getElem?] at hp
 simp [results, h, hp, asAddr, Result.andThen, hl]
def qzcm (b b2 : Nat) (g : Hd) (rr : Int) (L : Nat -> Bool) : Nat -> Value -> World -> Prop
 | 0, v, _ => v = .agg (hdC g).toArray
 | 1, v, _ => v = .int .i64 rr
 | 2, v, _ => v = .pointer (some ⟨b, 0, none⟩)
 | 3, v, _ => ∃ m : Int, v = .int .i64 m
 | 4, v, _ => v = .pointer (some ⟨b, 0, none⟩)
 | 5, v, _ => ∃ m : Int, v = .int .i64 m
 | 6, v, w => b2 < w.heap.size /\ w.rangeAt b2 0 (hdC g)
 | _, _, _ => True
theorem qz3x {b b2 : Nat} {g : Hd} {rr : Int} {L L' : Nat -> Bool} (hne : b2 ≠ b) (j : Nat) (v : Value) (w w' : World) (h : qzcm b b2 g rr L j v w) (hO : Only b w w') : qzcm b b2 g rr L' j v w' := by
 match j, h with
 | 0, h | 1, h | 2, h | 3, h | 4, h | 5, h => exact h
 | 6, h => exact ⟨Nat.lt_of_lt_of_le h.1 hO.size, qz5 h.2 hO h.1 hne⟩
 | n + 7, h => exact trivial
theorem qz9d {b b2 : Nat} {g : Hd} {rr : Int} {L L' : Nat -> Bool} (j : Nat) (v : Value) (w w' : World) (hj : j ≠ 6) (h : qzcm b b2 g rr L j v w) : qzcm b b2 g rr L' j v w' := by
 match j, h with
 | 0, h | 1, h | 2, h | 3, h | 4, h | 5, h => exact h
 | 6, h => exact absurd rfl hj
 | n + 7, h => exact trivial
theorem qz69 (a : Option Addr) (len cap : Nat) (w : World) (hlen : len <= 4096) (C : qz1h w.heap.size w a len) :
  Calls Try.prog 24 #[.slice a len cap] w fun e w' => ∃ g rr ro rs, e = .returned (.tuple #[.agg (hdC g).toArray, .int .i64 rr, .int .i64 ro, .int .i64 rs]) /\ Below w.heap.size w w' := by
 have U0 := qzh w #[.int .i64 0, .int .i64 0, .int .i64 0, .int .i64 0, .int .i64 0, .int .i64 0, .int .i64 0, .int .i64 0, .int .i64 0, .int .i64 0, .int .i64 0, .int .i64 0, .int .i64 0, .int .i64 0, .int .i64 0, .int .i64 0, .int .i64 0, .int .i64 0, .int .i64 0, .int .i64 0, .int .i64 0, .int .i64 0] 56 22 (by decide)
 have K0 := (Below.refl w.heap.size w).alloc (Nat.le_refl _) (.cells #[.int .i64 0, .int .i64 0, .int .i64 0, .int .i64 0, .int .i64 0, .int .i64 0, .int .i64 0, .int .i64 0, .int .i64 0, .int .i64 0, .int .i64 0, .int .i64 0, .int .i64 0, .int .i64 0, .int .i64 0, .int .i64 0, .int .i64 0, .int .i64 0, .int .i64 0, .int .i64 0, .int .i64 0, .int .i64 0] 56)
 have C0 := C.alloc (Nat.le_refl _) (.cells #[.int .i64 0, .int .i64 0, .int .i64 0, .int .i64 0, .int .i64 0, .int .i64 0, .int .i64 0, .int .i64 0, .int .i64 0, .int .i64 0, .int .i64 0, .int .i64 0, .int .i64 0, .int .i64 0, .int .i64 0, .int .i64 0, .int .i64 0, .int .i64 0, .int .i64 0, .int .i64 0, .int .i64 0, .int .i64 0] 56)
 have hz0 : (w.alloc (.cells #[.int .i64 0, .int .i64 0, .int .i64 0, .int .i64 0, .int .i64 0, .int .i64 0, .int .i64 0, .int .i64 0, .int .i64 0, .int .i64 0, .int .i64 0, .int .i64 0, .int .i64 0, .int .i64 0, .int .i64 0, .int .i64 0, .int .i64 0, .int .i64 0, .int .i64 0, .int .i64 0, .int .i64 0, .int .i64 0] 56)).heap.size = w.heap.size + 1 := by simp
 go_enter Try.func24, Try.ntmps24
 go_wp2_with fail
 generalize hw0 : w.alloc (.cells #[.int .i64 0, .int .i64 0, .int .i64 0, .int .i64 0, .int .i64 0, .int .i64 0, .int .i64 0, .int .i64 0, .int .i64 0, .int .i64 0, .int .i64 0, .int .i64 0, .int .i64 0, .int .i64 0, .int .i64 0, .int .i64 0, .int .i64 0, .int .i64 0, .int .i64 0, .int .i64 0, .int .i64 0, .int .i64 0] 56) = w0 at *
 clear hw0
 refine (qz8r a len cap w0 hlen (C0.weaken (by omega))).mono ?_
 rintro e w1 ⟨rfl, ⟨h1, D1⟩, b1⟩
 have U1 := qz6 U0 b1 (by omega)
 have C1 := C0.below (b1.mono (by omega))
 have K1 := K0.trans (b1.mono (by omega))
 have hz1 := b1.size
 have hzl : w.heap.size + 1 <= w0.heap.size := by omega
 clear U0 C0 K0 b1 C hz0
 generalize hb : w0.heap.size = b at *
 clear hb
 go_wp2_with fail
 refine (qz5a w.heap.size b a len cap 0 h1 w1 (by omega) hlen D1 C1).mono ?_
 rintro e w2 ⟨x, y, z, u, g, rfl, ⟨i2, h2, D2⟩, C2, O2⟩
 have hb1 := D1.blk
 have hb2 := D2.blk
 have U2 := qz8 U1 O2 (by omega) (by omega)
 have K2 := K1.trans (O2.below (by omega) (by omega))
 have hz2 := O2.size
 clear U1 C1 K1 O2 D1
 have hs1 : (w2.alloc (.cells #[.int .i64 0, .int .i64 0, .int .i64 0, .int .i64 0] 25)).alloc (.cells #[.int .i64 0, .int .i64 0, .int .i64 0, .int .i64 0, .int .i64 0, .int .i64 0, .int .i64 0, .int .i64 0, .int .i64 0, .int .i64 0, .int .i64 0, .int .i64 0, .int .i64 0, .int .i64 0, .int .i64 0, .int .i64 0, .int .i64 0, .int .i64 0, .int .i64 0, .int .i64 0, .int .i64 0, .int .i64 0] 56) = (w2.alloc (.cells #[.int .i64 0, .int .i64 0, .int .i64 0, .int .i64 0] 25)).alloc (.cells #[.int .i64 0, .int .i64 0, .int .i64 0, .int .i64 0, .int .i64 0, .int .i64 0, .int .i64 0, .int .i64 0, .int .i64 0, .int .i64 0, .int .i64 0, .int .i64 0, .int .i64 0, .int .i64 0, .int .i64 0, .int .i64 0, .int .i64 0, .int .i64 0, .int .i64 0, .int .i64 0, .int .i64 0, .int .i64 0] 56) := rfl
 have TP := World.there_alloc (qzh w2 #[.int .i64 0, .int .i64 0, .int .i64 0, .int .i64 0] 25 4 (by decide)) (.cells #[.int .i64 0, .int .i64 0, .int .i64 0, .int .i64 0, .int .i64 0, .int .i64 0, .int .i64 0, .int .i64 0, .int .i64 0, .int .i64 0, .int .i64 0, .int .i64 0, .int .i64 0, .int .i64 0, .int .i64 0, .int .i64 0, .int .i64 0, .int .i64 0, .int .i64 0, .int .i64 0, .int .i64 0, .int .i64 0] 56)
 have TH := World.there_setCells (qzh (w2.alloc (.cells #[.int .i64 0, .int .i64 0, .int .i64 0, .int .i64 0] 25)) #[.int .i64 0, .int .i64 0, .int .i64 0, .int .i64 0, .int .i64 0, .int .i64 0, .int .i64 0, .int .i64 0, .int .i64 0, .int .i64 0, .int .i64 0, .int .i64 0, .int .i64 0, .int .i64 0, .int .i64 0, .int .i64 0, .int .i64 0, .int .i64 0, .int .i64 0, .int .i64 0, .int .i64 0, .int .i64 0] 56 22 (by decide)) w2.heap.size 0 [.int .i64 x, .int .i64 y, .int .i64 z, .int .i64 u]
 simp only [World.size_alloc] at TH
 have KA : Below w2.heap.size w2 ((((w2.alloc (.cells #[.int .i64 0, .int .i64 0, .int .i64 0, .int .i64 0] 25)).alloc (.cells #[.int .i64 0, .int .i64 0, .int .i64 0, .int .i64 0, .int .i64 0, .int .i64 0, .int .i64 0, .int .i64 0, .int .i64 0, .int .i64 0, .int .i64 0, .int .i64 0, .int .i64 0, .int .i64 0, .int .i64 0, .int .i64 0, .int .i64 0, .int .i64 0, .int .i64 0, .int .i64 0, .int .i64 0, .int .i64 0] 56)).setCells w2.heap.size 0 [.int .i64 x, .int .i64 y, .int .i64 z, .int .i64 u]).setCells (w2.heap.size + 1) 0 (hdC g)) := Below.setCells (by omega) _ _ _ (Below.setCells (Nat.le_refl _) _ _ _ (((Below.refl _ _).alloc (Nat.le_refl _) _).alloc (by simp) _))
 have RA : ((((w2.alloc (.cells #[.int .i64 0, .int .i64 0, .int .i64 0, .int .i64 0] 25)).alloc (.cells #[.int .i64 0, .int .i64 0, .int .i64 0, .int .i64 0, .int .i64 0, .int .i64 0, .int .i64 0, .int .i64 0, .int .i64 0, .int .i64 0, .int .i64 0, .int .i64 0, .int .i64 0, .int .i64 0, .int .i64 0, .int .i64 0, .int .i64 0, .int .i64 0, .int .i64 0, .int .i64 0, .int .i64 0, .int .i64 0] 56)).setCells w2.heap.size 0 [.int .i64 x, .int .i64 y, .int .i64 z, .int .i64 u]).setCells (w2.heap.size + 1) 0 (hdC g)).rangeAt (w2.heap.size + 1) 0 (hdC g) := World.rangeAt_setCells_same _ _ _ _ TH
 have zA : ((((w2.alloc (.cells #[.int .i64 0, .int .i64 0, .int .i64 0, .int .i64 0] 25)).alloc (.cells #[.int .i64 0, .int .i64 0, .int .i64 0, .int .i64 0, .int .i64 0, .int .i64 0, .int .i64 0, .int .i64 0, .int .i64 0, .int .i64 0, .int .i64 0, .int .i64 0, .int .i64 0, .int .i64 0, .int .i64 0, .int .i64 0, .int .i64 0, .int .i64 0, .int .i64 0, .int .i64 0, .int .i64 0, .int .i64 0] 56)).setCells w2.heap.size 0 [.int .i64 x, .int .i64 y, .int .i64 z, .int .i64 u]).setCells (w2.heap.size + 1) 0 (hdC g)).heap.size = w2.heap.size + 2 := by rw [qzy, qzy]; simp
 clear hs1
 go_upto_region 3 with (first | (refine wpList_store_mid rfl 25 (.tmp 7) (.tmp 15) rfl w2.heap.size 0 #[.int .i64 x, .int .i64 y, .int .i64 z, .int .i64 u] ?sx1 ?sy1 ?st1 qzt (by simp [Value.oneCell']) ?_) | (refine wpList_store_mid rfl 56 (.tmp 8) (.tmp 16) rfl (w2.heap.size + 1) 0 (hdC g).toArray ?sx2 ?sy2 ?st2 (qzb g) (qzg g) ?_))
 try (case sx1 => rfl)
 try (case sy1 => rfl)
 try (case st1 => exact TP)
 try (case sx2 => rfl)
 try (case sy2 => rfl)
 try (case st2 => exact TH)
 clear TP TH
 generalize hwa : (((w2.alloc (.cells #[.int .i64 0, .int .i64 0, .int .i64 0, .int .i64 0] 25)).alloc (.cells #[.int .i64 0, .int .i64 0, .int .i64 0, .int .i64 0, .int .i64 0, .int .i64 0, .int .i64 0, .int .i64 0, .int .i64 0, .int .i64 0, .int .i64 0, .int .i64 0, .int .i64 0, .int .i64 0, .int .i64 0, .int .i64 0, .int .i64 0, .int .i64 0, .int .i64 0, .int .i64 0, .int .i64 0, .int .i64 0] 56)).setCells w2.heap.size 0 [.int .i64 x, .int .i64 y, .int .i64 z, .int .i64 u]).setCells (w2.heap.size + 1) 0 (hdC g) = wa at *
 clear hwa
 have zA' : w2.heap.size + 2 <= wa.heap.size := by omega
 clear zA
 have D3 := D2.below KA
 have C3 := C2.below (KA.mono (by omega))
 have U3 := qz6 U2 KA (by omega)
 have K3 := K2.trans (KA.mono (by omega))
 clear D2 C2 U2 K2 KA
 go_wp2_with fail
 refine (qz41 w.heap.size b a len cap i2 h2 0 7 wa (by omega) hlen D3 C3 (by omega) (by omega) (by omega)).mono ?_
 rintro e wb ⟨rr, i4, h4, rfl, _, _, D4, C4, O4⟩
 have U4 := qz8 U3 O4 (by omega) (by omega)
 have R4 := qz5 RA O4 (by omega) (by omega)
 have K4 := K3.trans (O4.below (by omega) (by omega))
 have hz4 := O4.size
 clear D3 C3 U3 K3 O4 RA
 generalize hbh : w2.heap.size + 1 = bh at *
 go_upto_region 4 with fail
 refine qz1m 7 (by kernel_rfl) (fun V => (∃ i h, qz1o .i64 V b a len cap i h) /\ qz1h w.heap.size V a len /\ V.there w.heap.size 0 22 /\ V.rangeAt bh 0 (hdC g) /\ Below w.heap.size w V /\ wb.heap.size <= V.heap.size) ?j0 (qzcm b w.heap.size g rr) (by kernel_rfl) (by kernel_rfl) (by kernel_rfl) (by kernel_rfl) (by rfl) ?step ?final
 case j0 =>
  have bd : Below wb.heap.size wb { wb with drawn := wb.drawn + 1 } := ⟨rfl, rfl, rfl, Nat.le_refl _, fun _ _ => rfl⟩
  exact ⟨⟨_, _, D4.below bd⟩, C4.below (bd.mono (by omega)), qz6 U4 bd (by omega), qz0 R4 bd (by omega), K4.trans (bd.mono (by omega)), Nat.le_refl _⟩
 case step =>
  intro i o hik ho' L aa V hLi hLk P hnn hd K hK
  obtain ⟨⟨ii, hh, DV⟩, CV, UV, RV, KV, hsV⟩ := id P
  match i, ho' with
  | 0, ho' =>
   obtain rfl := Option.some.inj ho'
   exact qz11 56 (.tmp 8) rfl bh 0 (hnn 8 rfl) (hdC g) _ RV Try.underlying56 rfl (qz1 g) (hK _ _ rfl P (fun j v' _ _ q => qz3x (by omega) j v' V V q (Only.refl b V)))
  | 1, ho' =>
   obtain rfl := Option.some.inj ho'
   have e9 : aa.eval (.tmp 9) = .int .i64 rr := hnn 9 rfl
   refine qz2 (v := .int .i64 rr) (w' := V) ?_ (hK _ _ rfl P (fun j v' _ _ q => qz3x (by omega) j v' V V q (Only.refl b V)))
   generalize aa.eval = ev at *
   go_simp
  | 2, ho' =>
   obtain rfl := Option.some.inj ho'
   have e6 : aa.eval (.tmp 6) = .pointer (some ⟨b, 0, none⟩) := hnn 6 rfl
   refine qz2 (v := .pointer (some ⟨b, 0, none⟩)) (w' := V) ?_ (hK _ _ rfl P (fun j v' _ _ q => qz3x (by omega) j v' V V q (Only.refl b V)))
   generalize aa.eval = ev at *
   go_simp
  | 3, ho' =>
   obtain rfl := Option.some.inj ho'
   have e1 : aa.eval (.tmp 21) = .pointer (some ⟨b, 0, none⟩) := (hd ⟨2, .data⟩ (by simp) rfl 21 rfl).2
   have ec : aa.eval (.const (.int .i64 9)) = .int .i64 9 := rfl
   have ef : aa.eval (.func 58) = .func (.func 58) #[] #[] := rfl
   refine qz22 (f := 58) (args := #[.pointer (some ⟨b, 0, none⟩), .int .i64 9]) (R := fun v w' => ∃ m i' h', v = .int .i64 m /\ qz1o .i64 w' b a len cap i' h' /\ qz1h w.heap.size w' a len /\ Only b V w') ?_ ((qzz w.heap.size b a len cap ii hh 9 V (by omega) hlen DV CV (by omega) (by omega)).mono (fun e w' h => by obtain ⟨m, i', h', e, _, _, r⟩ := h; exact ⟨_, e, m, i', h', rfl, r⟩)) (fun v w' h => by obtain ⟨m, i', h', e, D', C', O'⟩ := h; exact hK v w' ⟨m, e⟩ ⟨⟨i', h', D'⟩, C', qz8 UV O' (by omega) (by omega), qz5 RV O' (by omega) (by omega), KV.trans (O'.below (by omega) (by have := KV.size; omega)), Nat.le_trans hsV O'.size⟩ (fun j v' _ _ q => qz3x (by omega) j v' V w' q O'))
   generalize aa.eval = ev at *
   go_simp
  | 4, ho' =>
   obtain rfl := Option.some.inj ho'
   have e6 : aa.eval (.tmp 6) = .pointer (some ⟨b, 0, none⟩) := hnn 6 rfl
   refine qz2 (v := .pointer (some ⟨b, 0, none⟩)) (w' := V) ?_ (hK _ _ rfl P (fun j v' _ _ q => qz3x (by omega) j v' V V q (Only.refl b V)))
   generalize aa.eval = ev at *
   go_simp
  | 5, ho' =>
   obtain rfl := Option.some.inj ho'
   have e1 : aa.eval (.tmp 23) = .pointer (some ⟨b, 0, none⟩) := (hd ⟨4, .data⟩ (by simp) rfl 23 rfl).2
   have ec : aa.eval (.const (.int .i64 9)) = .int .i64 9 := rfl
   have ef : aa.eval (.func 58) = .func (.func 58) #[] #[] := rfl
   refine qz22 (f := 58) (args := #[.pointer (some ⟨b, 0, none⟩), .int .i64 9]) (R := fun v w' => ∃ m i' h', v = .int .i64 m /\ qz1o .i64 w' b a len cap i' h' /\ qz1h w.heap.size w' a len /\ Only b V w') ?_ ((qzz w.heap.size b a len cap ii hh 9 V (by omega) hlen DV CV (by omega) (by omega)).mono (fun e w' h => by obtain ⟨m, i', h', e, _, _, r⟩ := h; exact ⟨_, e, m, i', h', rfl, r⟩)) (fun v w' h => by obtain ⟨m, i', h', e, D', C', O'⟩ := h; exact hK v w' ⟨m, e⟩ ⟨⟨i', h', D'⟩, C', qz8 UV O' (by omega) (by omega), qz5 RV O' (by omega) (by omega), KV.trans (O'.below (by omega) (by have := KV.size; omega)), Nat.le_trans hsV O'.size⟩ (fun j v' _ _ q => qz3x (by omega) j v' V w' q O'))
   generalize aa.eval = ev at *
   go_simp
  | 6, ho' =>
   obtain rfl := Option.some.inj ho'
   have hOs := qz9 w.heap.size (hdC g) 0 V
   exact wp_store_mid 56 (.tmp 2) (.tmp 19) rfl w.heap.size 0 (hdC g).toArray (hnn 2 rfl) (hd ⟨0, .data⟩ (by simp) rfl 19 rfl).2 UV (qzb g) (qzg g) (hK undef _ ⟨by rw [List.toList_toArray, qzy]; omega, World.rangeAt_setCells_same V w.heap.size 0 (hdC g) UV⟩ ⟨⟨ii, hh, DV.only hOs (by omega)⟩, CV.below (hOs.below (Nat.le_refl _) (by omega)), World.there_setCells UV _ _ _, qz5 RV hOs (by omega) (by omega), KV.trans (hOs.below (Nat.le_refl _) (by omega)), by rw [List.toList_toArray, qzy]; exact hsV⟩ (fun j v' hj _ q => qz9d j v' V _ hj q))
  | n + 7, ho' => omega
 intro L vs V hLall P5 hG
 obtain ⟨_, _, _, _, K5, _⟩ := P5
 have g1 : vs 1 = .int .i64 rr := hG 1 (by decide)
 obtain ⟨ro, g3⟩ := (show ∃ m : Int, vs 3 = .int .i64 m from hG 3 (by decide))
 obtain ⟨rs, g5⟩ := (show ∃ m : Int, vs 5 = .int .i64 m from hG 5 (by decide))
 have g6 : _ /\ V.rangeAt w.heap.size 0 (hdC g) := hG 6 (by decide)
 generalize hl : laid _ vs _ _ _ = A'
 have hA' : A' = { tmps := #[.slice a len cap, undef, .pointer (some ⟨w.heap.size, 0, none⟩), .int .i64 0, .int .i64 0, .int .i64 0, .pointer (some ⟨b, 0, none⟩), .pointer (some ⟨w2.heap.size, 0, none⟩), .pointer (some ⟨bh, 0, none⟩), .int .i64 rr, .slice a len cap, .pointer (some ⟨b, 0, none⟩), .tuple #[.agg #[.int .i64 x, .int .i64 y, .int .i64 z, .int .i64 u], .agg (hdC g).toArray], .pointer (some ⟨b, 0, none⟩), .tuple #[.agg #[.int .i64 x, .int .i64 y, .int .i64 z, .int .i64 u], .agg (hdC g).toArray], .agg #[.int .i64 x, .int .i64 y, .int .i64 z, .int .i64 u], .agg (hdC g).toArray, .pointer (some ⟨b, 0, none⟩), .int .i64 rr, vs 0, vs 1, vs 2, vs 3, vs 4, vs 5], defers := [] } := by
  rw [<- hl]
  kernel_rfl
 subst hA'
 rw [g1, g3, g5]
 clear hl hG
 simp only [List.drop_succ_cons, List.drop_zero]
 go_wp2
 refine bodyPost_ret (v := .tuple #[.agg (hdC g).toArray, .int .i64 rr, .int .i64 ro, .int .i64 rs]) ?_ rfl ⟨g, rr, ro, rs, rfl, K5⟩
 exact qz5r Try.results24 _ _ w.heap.size 0 rfl (hdC g) _ g6.2 Try.underlying56 rfl (qz1 g)
end
end Go.Proofs.Ythjkdnlmopafkaa
