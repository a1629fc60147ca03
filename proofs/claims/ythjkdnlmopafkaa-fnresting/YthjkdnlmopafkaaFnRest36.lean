/-
  What the law's proof goes by, part 37.
-/
import Derived.Lib.QuietBelow
import Derived.BigQuiet
import Derived.Test.YthjkdnlmopafkaaFnRest00
import Derived.Test.YthjkdnlmopafkaaFnRest15
import Derived.Test.YthjkdnlmopafkaaFnRest35
namespace Go.Proofs.Ythjkdnlmopafkaa
open Go.ChangeShapes Go.WideShapes Go.ChangeAt Go.RowKit
set_option maxRecDepth 100000
set_option maxHeartbeats 16000000
set_option linter.unusedVariables false
set_option linter.unusedSimpArgs false
set_option linter.unnecessarySimpa false
set_option linter.unusedSectionVars false
section
open Go.ChangeShapes Go.WideShapes Go.ChangeAt Go.RowKit Go.Sort
attribute [local go_sem ↓] Go.wp_at_zero Go.wp_at_succ
theorem qz18 {P : Program} {fn : Func} {p q : Tmp} {ty ty' : TypeId} (h : fn.results = #[.cell p ty, .cell q ty']) (tmps : Array Value) (w : World) (b o b' o' : Nat) (hp : tmps.getD p undef = .pointer (some ⟨b, o, none⟩)) (hq : tmps.getD q undef = .pointer (some ⟨b', o', none⟩))
  (cs cs' : List Value) (d d' : TypeDesc) (hc : w.rangeAt b o cs) (hu : P.underlying ty = some d) (hd : d.isRow = true) (hi : (P.info? ty).map (·.size) = some cs.length)
  (hc' : w.rangeAt b' o' cs') (hu' : P.underlying ty' = some d') (hd' : d'.isRow = true) (hi' : (P.info? ty').map (·.size) = some cs'.length) : (results fn tmps).run P w = .ok (.tuple #[.agg cs.toArray, .agg cs'.toArray]) w := by
 have hl := run_loadVar_mid (P := P) w b o ty cs d hc hu hd hi
 have hl' := run_loadVar_mid (P := P) w b' o' ty' cs' d' hc' hu' hd' hi'
 rw [Array.getD_eq_getD_getElem?] at hp hq
 simp [results, h, hp, hq, asAddr, Result.andThen, hl, hl']
def qzd8 (b b4 hb ho hl hc lo : Nat) (L : Nat -> Bool) : Nat -> Value -> World -> Prop
 | 0, v, _ => v = .pointer (some ⟨b4, 9, none⟩)
 | 1, v, _ => v = .slice (some ⟨hb, ho, none⟩) hl hc
 | 2, v, _ => v = .pointer (some ⟨b, 0, none⟩)
 | 3, v, _ => v = .pointer (some ⟨b4, 9, none⟩)
 | 4, v, _ => v = .slice (some ⟨hb, ho, none⟩) hl hc
 | 5, v, _ => v = .int .i64 (hl : Int)
 | 6, v, _ => ∃ m : Nat, v = .int .i64 (m : Int) /\ m < hl
 | 7, v, _ => ∃ m : Nat, v = .pointer (some ⟨hb, ho + m * 22, none⟩) /\ m < hl
 | 8, v, _ => ∃ g : Hd, v = .agg (hdC g).toArray
 | 9, v, w => ∃ q, v = .pointer (some ⟨q, 0, none⟩) /\ lo <= q /\ q < w.heap.size /\ w.there q 0 22
 | _, _, _ => True
theorem qz2t {b b4 hb ho hl hc lo : Nat} {L L' : Nat -> Bool} (hlo : b < lo) (j : Nat) (v : Value) (w w' : World) (h : qzd8 b b4 hb ho hl hc lo L j v w) (hO : Only b w w') : qzd8 b b4 hb ho hl hc lo L' j v w' := by
 match j, h with
 | 0, h | 1, h | 2, h | 3, h | 4, h | 5, h | 6, h | 7, h | 8, h => exact h
 | 9, h =>
  obtain ⟨q, e, h1, h2, h3⟩ := h
  exact ⟨q, e, h1, Nat.lt_of_lt_of_le h2 hO.size, qz8 h3 hO h2 (by omega)⟩
 | n + 10, h => exact trivial
def qz88 (b4 b2 : Nat) (x y z u : Int) (g : Hd) (L : Nat -> Bool) : Nat -> Value -> World -> Prop
 | 0, v, _ => v = .pointer (some ⟨b4, 0, none⟩)
 | 1, v, _ => v = .agg #[.int .i64 x, .int .i64 y, .int .i64 z, .int .i64 u]
 | 2, v, _ => v = .agg (hdC g).toArray
 | 3, v, w => w.rangeAt b2 0 [.int .i64 x, .int .i64 y, .int .i64 z, .int .i64 u]
 | _, _, _ => True
theorem qzj {b4 b2 : Nat} {x y z u : Int} {g : Hd} {L L' : Nat -> Bool} (j : Nat) (v : Value) (w w' : World) (h : qz88 b4 b2 x y z u g L j v w) (hw : w' = w ∨ j ≠ 3) : qz88 b4 b2 x y z u g L' j v w' := by
 match j, h with
 | 0, h | 1, h | 2, h => exact h
 | 3, h =>
  rcases hw with rfl | hj
  ·exact h
  ·exact absurd rfl hj
 | n + 4, h => exact trivial
theorem qz5a (B b : Nat) (a : Option Addr) (len cap : Nat) (i h : Int) (w : World) (hB : B <= b) (hlen : len <= 4096) (D : qz1o .i64 w b a len cap i h) (C : qz1h B w a len) :
  Calls Try.prog 56 #[.pointer (some ⟨b, 0, none⟩)] w fun e w' => ∃ x y z u g, e = .returned (.tuple #[.agg #[.int .i64 x, .int .i64 y, .int .i64 z, .int .i64 u], .agg (hdC g).toArray]) /\ (∃ i' h', qz1o .i64 w' b a len cap i' h') /\ qz1h B w' a len /\ Only b w w' := by
 have hbw := D.blk
 have T0 := World.there_alloc (qzh w #[.int .i64 0, .int .i64 0, .int .i64 0, .int .i64 0] 25 4 (by decide)) (.cells #[.int .i64 0, .int .i64 0, .int .i64 0, .int .i64 0, .int .i64 0, .int .i64 0, .int .i64 0, .int .i64 0, .int .i64 0, .int .i64 0, .int .i64 0, .int .i64 0, .int .i64 0, .int .i64 0, .int .i64 0, .int .i64 0, .int .i64 0, .int .i64 0, .int .i64 0, .int .i64 0, .int .i64 0, .int .i64 0] 56)
 have U0 := qzh (w.alloc (.cells #[.int .i64 0, .int .i64 0, .int .i64 0, .int .i64 0] 25)) #[.int .i64 0, .int .i64 0, .int .i64 0, .int .i64 0, .int .i64 0, .int .i64 0, .int .i64 0, .int .i64 0, .int .i64 0, .int .i64 0, .int .i64 0, .int .i64 0, .int .i64 0, .int .i64 0, .int .i64 0, .int .i64 0, .int .i64 0, .int .i64 0, .int .i64 0, .int .i64 0, .int .i64 0, .int .i64 0] 56 22 (by decide)
 have D0 := (D.alloc (.cells #[.int .i64 0, .int .i64 0, .int .i64 0, .int .i64 0] 25)).alloc (.cells #[.int .i64 0, .int .i64 0, .int .i64 0, .int .i64 0, .int .i64 0, .int .i64 0, .int .i64 0, .int .i64 0, .int .i64 0, .int .i64 0, .int .i64 0, .int .i64 0, .int .i64 0, .int .i64 0, .int .i64 0, .int .i64 0, .int .i64 0, .int .i64 0, .int .i64 0, .int .i64 0, .int .i64 0, .int .i64 0] 56)
 have C0 := (C.alloc (by omega) (.cells #[.int .i64 0, .int .i64 0, .int .i64 0, .int .i64 0] 25)).alloc (by simp; omega) (.cells #[.int .i64 0, .int .i64 0, .int .i64 0, .int .i64 0, .int .i64 0, .int .i64 0, .int .i64 0, .int .i64 0, .int .i64 0, .int .i64 0, .int .i64 0, .int .i64 0, .int .i64 0, .int .i64 0, .int .i64 0, .int .i64 0, .int .i64 0, .int .i64 0, .int .i64 0, .int .i64 0, .int .i64 0, .int .i64 0] 56)
 have O0 := ((Only.refl b w).alloc (.cells #[.int .i64 0, .int .i64 0, .int .i64 0, .int .i64 0] 25)).alloc (.cells #[.int .i64 0, .int .i64 0, .int .i64 0, .int .i64 0, .int .i64 0, .int .i64 0, .int .i64 0, .int .i64 0, .int .i64 0, .int .i64 0, .int .i64 0, .int .i64 0, .int .i64 0, .int .i64 0, .int .i64 0, .int .i64 0, .int .i64 0, .int .i64 0, .int .i64 0, .int .i64 0, .int .i64 0, .int .i64 0] 56)
 have hz0 : ((w.alloc (.cells #[.int .i64 0, .int .i64 0, .int .i64 0, .int .i64 0] 25)).alloc (.cells #[.int .i64 0, .int .i64 0, .int .i64 0, .int .i64 0, .int .i64 0, .int .i64 0, .int .i64 0, .int .i64 0, .int .i64 0, .int .i64 0, .int .i64 0, .int .i64 0, .int .i64 0, .int .i64 0, .int .i64 0, .int .i64 0, .int .i64 0, .int .i64 0, .int .i64 0, .int .i64 0, .int .i64 0, .int .i64 0] 56)).heap.size = w.heap.size + 2 := by simp
 simp only [World.size_alloc] at U0
 go_enter Try.func56, Try.ntmps56
 go_wp2_with fail
 generalize hw0 : (w.alloc (.cells #[.int .i64 0, .int .i64 0, .int .i64 0, .int .i64 0] 25)).alloc (.cells #[.int .i64 0, .int .i64 0, .int .i64 0, .int .i64 0, .int .i64 0, .int .i64 0, .int .i64 0, .int .i64 0, .int .i64 0, .int .i64 0, .int .i64 0, .int .i64 0, .int .i64 0, .int .i64 0, .int .i64 0, .int .i64 0, .int .i64 0, .int .i64 0, .int .i64 0, .int .i64 0, .int .i64 0, .int .i64 0] 56) = w0 at *
 clear hw0
 refine (qz93 B b a len cap i h w0 hB hlen D0 C0).mono ?_
 rintro e w1 ⟨x, y, z, u, s, g, n, r, hs, cs, ds, ts, W, rfl, V1, hnow, I1, far1, ⟨i1, h1, D1⟩, C1, O1⟩
 have T1 := qz8 T0 O1 (by omega) (by omega)
 have U1 := qz8 U0 O1 (by omega) (by omega)
 have OO1 := O0.trans O1
 have hz1 := O1.size
 have hx := V1.plan.1
 have hhl := V1.hl
 obtain ⟨a0, c0, rfl, _⟩ := id I1.ar.s
 obtain ⟨a1, c1, rfl, _⟩ := id I1.ar.g
 obtain ⟨a2, c2, rfl, _⟩ := id I1.ar.n
 obtain ⟨a3, c3, rfl, _⟩ := id I1.ar.r
 obtain ⟨a4, c4, rfl, _⟩ := id I1.h
 obtain ⟨a5, c5, rfl, _⟩ := id I1.c
 obtain ⟨a6, c6, rfl, _⟩ := id I1.d
 obtain ⟨a7, c7, rfl, _⟩ := id I1.t
 obtain ⟨hb, ho, rfl, hbl, Rh⟩ := qz12.at I1.h (by omega)
 have hh0 : 0 < W.hands.length /\ W.hands.length <= 8 := by omega
 clear hhl
 have hbf := far1 hb (Or.inr (Or.inr (Or.inr (Or.inr (Or.inl rfl)))))
 clear D0 C0 O0 T0 U0 D C I1 far1 O1
 have hset : (w1.alloc (.cells #[.int .i64 0, .int .i64 0, .int .i64 0, .int .i64 0, .int .i64 0, .slice none 0 0, .slice none 0 0, .slice none 0 0, .slice none 0 0, .slice none 0 0, .slice none 0 0, .slice none 0 0, .slice none 0 0, .int .i64 0] 35)).setCells w1.heap.size 0 (wdC x y z u W.A.camera (.slice a0 W.A.slots.length c0) (.slice a1 W.A.guides.length c1) (.slice a2 W.A.nodes.length c2) (.slice a3 W.A.vers.length c3) (.slice (some ⟨hb, ho, none⟩) W.hands.length c4) (.slice a5 W.calls.length c5) (.slice a6 W.deeds.length c6) (.slice a7 W.ticks.length c7) W.now).toArray.toList = w1.alloc (.cells #[.int .i64 x, .int .i64 y, .int .i64 z, .int .i64 u, .int .i64 W.A.camera, .slice a0 W.A.slots.length c0, .slice a1 W.A.guides.length c1, .slice a2 W.A.nodes.length c2, .slice a3 W.A.vers.length c3, .slice (some ⟨hb, ho, none⟩) W.hands.length c4, .slice a5 W.calls.length c5, .slice a6 W.deeds.length c6, .slice a7 W.ticks.length c7, .int .i64 W.now] 35) := qzv w1 35 (wdC x y z u W.A.camera (.slice a0 W.A.slots.length c0) (.slice a1 W.A.guides.length c1) (.slice a2 W.A.nodes.length c2) (.slice a3 W.A.vers.length c3) (.slice (some ⟨hb, ho, none⟩) W.hands.length c4) (.slice a5 W.calls.length c5) (.slice a6 W.deeds.length c6) (.slice a7 W.ticks.length c7) W.now) [] [.int .i64 0, .int .i64 0, .int .i64 0, .int .i64 0, .int .i64 0, .slice none 0 0, .slice none 0 0, .slice none 0 0, .slice none 0 0, .slice none 0 0, .slice none 0 0, .slice none 0 0, .slice none 0 0, .int .i64 0] rfl
 have FA := qzh w1 #[.int .i64 0, .int .i64 0, .int .i64 0, .int .i64 0, .int .i64 0, .slice none 0 0, .slice none 0 0, .slice none 0 0, .slice none 0 0, .slice none 0 0, .slice none 0 0, .slice none 0 0, .slice none 0 0, .int .i64 0] 35 14 (by decide)
 have al := (Below.refl w1.heap.size w1).alloc (Nat.le_refl _) (.cells #[.int .i64 x, .int .i64 y, .int .i64 z, .int .i64 u, .int .i64 W.A.camera, .slice a0 W.A.slots.length c0, .slice a1 W.A.guides.length c1, .slice a2 W.A.nodes.length c2, .slice a3 W.A.vers.length c3, .slice (some ⟨hb, ho, none⟩) W.hands.length c4, .slice a5 W.calls.length c5, .slice a6 W.deeds.length c6, .slice a7 W.ticks.length c7, .int .i64 W.now] 35)
 have R2 := qzd w1 [.int .i64 x, .int .i64 y, .int .i64 z, .int .i64 u, .int .i64 W.A.camera, .slice a0 W.A.slots.length c0, .slice a1 W.A.guides.length c1, .slice a2 W.A.nodes.length c2, .slice a3 W.A.vers.length c3, .slice (some ⟨hb, ho, none⟩) W.hands.length c4, .slice a5 W.calls.length c5, .slice a6 W.deeds.length c6, .slice a7 W.ticks.length c7, .int .i64 W.now] 35
 have D2 := D1.below al
 have C2 := C1.below (al.mono (by have := D1.blk; omega))
 have OO2 := OO1.trans (Only.of_below al)
 have T2 := qz6 T1 al (by omega)
 have U2 := qz6 U1 al (by omega)
 have Rh2 := qz0 Rh al hbl
 have hz2 : (w1.alloc (.cells #[.int .i64 x, .int .i64 y, .int .i64 z, .int .i64 u, .int .i64 W.A.camera, .slice a0 W.A.slots.length c0, .slice a1 W.A.guides.length c1, .slice a2 W.A.nodes.length c2, .slice a3 W.A.vers.length c3, .slice (some ⟨hb, ho, none⟩) W.hands.length c4, .slice a5 W.calls.length c5, .slice a6 W.deeds.length c6, .slice a7 W.ticks.length c7, .int .i64 W.now] 35)).heap.size = w1.heap.size + 1 := by simp
 go_upto_region 2 with (refine wpList_store_mid rfl 35 (.tmp 4) (.tmp 8) rfl w1.heap.size 0 _ rfl rfl FA qzk (by simp [wdC, Value.oneCell']) ?_; rw [hset])
 clear hset FA al T1 U1 D1 C1 OO1 Rh
 generalize w1.alloc (.cells #[.int .i64 x, .int .i64 y, .int .i64 z, .int .i64 u, .int .i64 W.A.camera, .slice a0 W.A.slots.length c0, .slice a1 W.A.guides.length c1, .slice a2 W.A.nodes.length c2, .slice a3 W.A.vers.length c3, .slice (some ⟨hb, ho, none⟩) W.hands.length c4, .slice a5 W.calls.length c5, .slice a6 W.deeds.length c6, .slice a7 W.ticks.length c7, .int .i64 W.now] 35) = w2 at *
 generalize hb4 : w1.heap.size = b4 at *
 refine qz1m 10 (by kernel_rfl) (fun V => (∃ i h, qz1o .i64 V b a len cap i h) /\ qz1h B V a len /\ Only b w2 V) ?j0 (qzd8 b b4 hb ho W.hands.length c4 w2.heap.size) (by kernel_rfl) (by kernel_rfl) (by kernel_rfl) (by kernel_rfl) (by rfl) ?step ?final
 case j0 => exact ⟨⟨i1, h1, D2.below ⟨rfl, rfl, rfl, Nat.le_refl _, fun _ _ => rfl⟩⟩, C2.below ⟨rfl, rfl, rfl, Nat.le_refl _, fun _ _ => rfl⟩, ⟨rfl, rfl, rfl, Nat.le_refl _, fun _ _ _ => rfl⟩⟩
 case step =>
  intro i o hik ho' L aa V hLi hLk P hnn hd K hK
  obtain ⟨⟨ii, hh, DV⟩, CV, OV⟩ := id P
  have hzV := OV.size
  have RV := qz5 R2 OV (by omega) (by omega)
  have y9 : V.cell? ⟨b4, 9, none⟩ = some (.slice (some ⟨hb, ho, none⟩) W.hands.length c4) := by simpa using RV 9 _ rfl
  clear RV
  match i, ho' with
  | 0, ho' =>
   obtain rfl := Option.some.inj ho'
   have e4 : aa.eval (.tmp 4) = .pointer (some ⟨b4, 0, none⟩) := hnn 4 rfl
   refine qz2 (v := .pointer (some ⟨b4, 9, none⟩)) (w' := V) ?_ (hK _ _ rfl P (fun j v' _ _ q => qz2t (by omega) j v' V V q (Only.refl b V)))
   generalize aa.eval = ev at *
   go_simp
  | 1, ho' =>
   obtain rfl := Option.some.inj ho'
   have e9 : aa.eval (.tmp 9) = .pointer (some ⟨b4, 9, none⟩) := (hd ⟨0, .data⟩ (by simp) rfl 9 rfl).2
   refine qz2 (v := .slice (some ⟨hb, ho, none⟩) W.hands.length c4) (w' := V) ?_ (hK _ _ rfl P (fun j v' _ _ q => qz2t (by omega) j v' V V q (Only.refl b V)))
   generalize aa.eval = ev at *
   go_simp
  | 2, ho' =>
   obtain rfl := Option.some.inj ho'
   have e0 : aa.eval (.tmp 0) = .pointer (some ⟨b, 0, none⟩) := hnn 0 rfl
   refine qz2 (v := .pointer (some ⟨b, 0, none⟩)) (w' := V) ?_ (hK _ _ rfl P (fun j v' _ _ q => qz2t (by omega) j v' V V q (Only.refl b V)))
   generalize aa.eval = ev at *
   go_simp
  | 3, ho' =>
   obtain rfl := Option.some.inj ho'
   have e4 : aa.eval (.tmp 4) = .pointer (some ⟨b4, 0, none⟩) := hnn 4 rfl
   refine qz2 (v := .pointer (some ⟨b4, 9, none⟩)) (w' := V) ?_ (hK _ _ rfl P (fun j v' _ _ q => qz2t (by omega) j v' V V q (Only.refl b V)))
   generalize aa.eval = ev at *
   go_simp
  | 4, ho' =>
   obtain rfl := Option.some.inj ho'
   have e12 : aa.eval (.tmp 12) = .pointer (some ⟨b4, 9, none⟩) := (hd ⟨3, .data⟩ (by simp) rfl 12 rfl).2
   refine qz2 (v := .slice (some ⟨hb, ho, none⟩) W.hands.length c4) (w' := V) ?_ (hK _ _ rfl P (fun j v' _ _ q => qz2t (by omega) j v' V V q (Only.refl b V)))
   generalize aa.eval = ev at *
   go_simp
  | 5, ho' =>
   obtain rfl := Option.some.inj ho'
   have e13 : aa.eval (.tmp 13) = .slice (some ⟨hb, ho, none⟩) W.hands.length c4 := (hd ⟨4, .data⟩ (by simp) rfl 13 rfl).2
   refine qz2 (v := .int .i64 (W.hands.length : Int)) (w' := V) ?_ (hK _ _ rfl P (fun j v' _ _ q => qz2t (by omega) j v' V V q (Only.refl b V)))
   generalize aa.eval = ev at *
   go_simp
  | 6, ho' =>
   obtain rfl := Option.some.inj ho'
   have e1 : aa.eval (.tmp 11) = .pointer (some ⟨b, 0, none⟩) := (hd ⟨2, .data⟩ (by simp) rfl 11 rfl).2
   have e2 : aa.eval (.tmp 14) = .int .i64 (W.hands.length : Int) := (hd ⟨5, .data⟩ (by simp) rfl 14 rfl).2
   have ef : aa.eval (.func 58) = .func (.func 58) #[] #[] := rfl
   refine qz22 (f := 58) (args := #[.pointer (some ⟨b, 0, none⟩), .int .i64 (W.hands.length : Int)]) (R := fun v w' => ∃ m i' h', v = .int .i64 m /\ 0 <= m /\ m < (W.hands.length : Int) /\ qz1o .i64 w' b a len cap i' h' /\ qz1h B w' a len /\ Only b V w') ?_ ((qzz B b a len cap ii hh (W.hands.length : Int) V hB hlen DV CV (by omega) (by omega)).mono (fun e w' h => by obtain ⟨m, i', h', e, r⟩ := h; exact ⟨_, e, m, i', h', rfl, r⟩)) (fun v w' h => by obtain ⟨m, i', h', e, m0, m1, D', C', O'⟩ := h; exact hK v w' ⟨m.toNat, by rw [e]; congr 1; omega, by omega⟩ ⟨⟨i', h', D'⟩, C', OV.trans O'⟩ (fun j v' _ _ q => qz2t (by omega) j v' V w' q O'))
   generalize aa.eval = ev at *
   go_simp
  | 7, ho' =>
   obtain rfl := Option.some.inj ho'
   have e10 : aa.eval (.tmp 10) = .slice (some ⟨hb, ho, none⟩) W.hands.length c4 := (hd ⟨1, .data⟩ (by simp) rfl 10 rfl).2
   obtain ⟨m, e15, m1⟩ := (show ∃ m : Nat, aa.eval (.tmp 15) = .int .i64 (m : Int) /\ m < W.hands.length from (hd ⟨6, .data⟩ (by simp) rfl 15 rfl).2)
   have m1' : (m : Int) < (W.hands.length : Int) := by omega
   have m0' : (0 : Int) <= (m : Int) := by omega
   refine qz2 (v := .pointer (some ⟨hb, ho + m * 22, none⟩)) (w' := V) ?_ (hK _ _ ⟨m, rfl, m1⟩ P (fun j v' _ _ q => qz2t (by omega) j v' V V q (Only.refl b V)))
   generalize aa.eval = ev at *
   go_simp
  | 8, ho' =>
   obtain rfl := Option.some.inj ho'
   obtain ⟨m, e16, m1⟩ := (show ∃ m : Nat, aa.eval (.tmp 16) = .pointer (some ⟨hb, ho + m * 22, none⟩) /\ m < W.hands.length from (hd ⟨7, .data⟩ (by simp) rfl 16 rfl).2)
   have EV := qzr (f := hdC) (sz := 22) (fun _ => rfl) (qz5 Rh2 OV (by omega) (by omega)) m m1
   exact qz11 56 (.tmp 16) rfl hb (ho + m * 22) e16 (hdC W.hands[m]) _ EV Try.underlying56 rfl (qz1 _) (hK _ _ ⟨_, rfl⟩ P (fun j v' _ _ q => qz2t (by omega) j v' V V q (Only.refl b V)))
  | 9, ho' =>
   obtain rfl := Option.some.inj ho'
   have alV := (Below.refl V.heap.size V).alloc (Nat.le_refl _) (.cells #[.int .i64 0, .int .i64 0, .int .i64 0, .int .i64 0, .int .i64 0, .int .i64 0, .int .i64 0, .int .i64 0, .int .i64 0, .int .i64 0, .int .i64 0, .int .i64 0, .int .i64 0, .int .i64 0, .int .i64 0, .int .i64 0, .int .i64 0, .int .i64 0, .int .i64 0, .int .i64 0, .int .i64 0, .int .i64 0] 56)
   refine qz2 (v := .pointer (some ⟨V.heap.size, 0, none⟩)) (w' := V.alloc (.cells #[.int .i64 0, .int .i64 0, .int .i64 0, .int .i64 0, .int .i64 0, .int .i64 0, .int .i64 0, .int .i64 0, .int .i64 0, .int .i64 0, .int .i64 0, .int .i64 0, .int .i64 0, .int .i64 0, .int .i64 0, .int .i64 0, .int .i64 0, .int .i64 0, .int .i64 0, .int .i64 0, .int .i64 0, .int .i64 0] 56)) ?_ (hK _ _ ⟨_, rfl, hzV, by simp, qzh V #[.int .i64 0, .int .i64 0, .int .i64 0, .int .i64 0, .int .i64 0, .int .i64 0, .int .i64 0, .int .i64 0, .int .i64 0, .int .i64 0, .int .i64 0, .int .i64 0, .int .i64 0, .int .i64 0, .int .i64 0, .int .i64 0, .int .i64 0, .int .i64 0, .int .i64 0, .int .i64 0, .int .i64 0, .int .i64 0] 56 22 (by decide)⟩ ⟨⟨ii, hh, DV.below alV⟩, CV.below (alV.mono (by have := DV.blk; omega)), OV.trans (Only.of_below alV)⟩ (fun j v' _ _ q => qz2t (by omega) j v' V _ q (Only.of_below alV)))
   generalize aa.eval = ev at *
   go_simp
  | n + 10, ho' => omega
 intro L vs V hLall P4 hG
 obtain ⟨⟨i2, h2, D3⟩, C3, O3⟩ := P4
 obtain ⟨g0, g8⟩ := (show ∃ g : Hd, vs 8 = .agg (hdC g).toArray from hG 8 (by decide))
 obtain ⟨bh, g9, lbh, ubh, Th⟩ := (show ∃ q, vs 9 = .pointer (some ⟨q, 0, none⟩) /\ w2.heap.size <= q /\ q < V.heap.size /\ V.there q 0 22 from hG 9 (by decide))
 generalize hl : laid _ vs _ _ _ = A'
 have hA' : A' = { tmps := #[.pointer (some ⟨b, 0, none⟩), undef, .pointer (some ⟨w.heap.size, 0, none⟩), .pointer (some ⟨w.heap.size + 1, 0, none⟩), .pointer (some ⟨b4, 0, none⟩), vs 9, undef, .pointer (some ⟨b, 0, none⟩), .agg (wdC x y z u W.A.camera (.slice a0 W.A.slots.length c0) (.slice a1 W.A.guides.length c1) (.slice a2 W.A.nodes.length c2) (.slice a3 W.A.vers.length c3) (.slice (some ⟨hb, ho, none⟩) W.hands.length c4) (.slice a5 W.calls.length c5) (.slice a6 W.deeds.length c6) (.slice a7 W.ticks.length c7) W.now).toArray, vs 0, vs 1, vs 2, vs 3, vs 4, vs 5, vs 6, vs 7, vs 8, undef, undef, undef, undef, undef, undef, undef, undef, undef, undef, undef, undef, undef, undef, undef, undef, undef, undef, undef, undef, undef, undef, undef, undef, undef, undef, undef, undef, undef, undef, undef, undef, undef, undef, undef, undef, undef, undef, undef, undef, undef, undef, undef, undef, undef, undef, undef, undef, undef, undef, undef, undef, undef, undef, undef, undef, undef, undef, undef, undef, undef, undef, undef, undef, undef, undef, undef, undef, undef], defers := [] } := by
  rw [<- hl]
  kernel_rfl
 subst hA'
 rw [g8, g9]
 clear hl hG g8 g9 hLall
 have hO4 := qz9 bh (hdC g0) 0 V
 have H4 : (V.setCells bh 0 (hdC g0)).rangeAt bh 0 (hdC g0) := World.rangeAt_setCells_same V bh 0 (hdC g0) Th
 have S4 : (V.setCells bh 0 (hdC g0)).there bh 0 22 := World.there_setCells Th _ _ _
 have D4 := D3.only hO4 (by omega)
 have C4 := C3.below (hO4.below (by omega) (by have := D3.blk; omega))
 have hz3 := O3.size
 have OO4 := qz17 (OO2.trans O3) hO4 (by omega)
 have T4 := qz8 (qz8 T2 O3 (by omega) (by omega)) hO4 (by omega) (by omega)
 have U4 := qz8 (qz8 U2 O3 (by omega) (by omega)) hO4 (by omega) (by omega)
 have R4 := qz5 (qz5 R2 O3 (by omega) (by omega)) hO4 (by omega) (by omega)
 have hy4 : bh < (V.setCells bh 0 (hdC g0)).heap.size := by rw [qzy]; exact ubh
 simp only [List.drop_succ_cons, List.drop_zero]
 refine wpList_store_mid rfl 56 (.tmp 5) (.tmp 17) rfl bh 0 (hdC g0).toArray ?sx1 ?sy1 ?st1 (qzb g0) (qzg g0) ?_
 case sx1 => rfl
 case sy1 => rfl
 case st1 => exact Th
 rw [List.toList_toArray]
 go_upto_region 3 with fail
 clear D3 C3 O3 Th T2 U2 R2 Rh2 hO4 D2 C2 OO2
 generalize V.setCells bh 0 (hdC g0) = w4 at *
 go_wp2_with fail
 refine (qz3y B b a len cap i2 h2 3 w4 hB hlen D4 C4 (by omega) (by omega)).mono ?_
 rintro e w5 ⟨r5, i5, h5, rfl, D5, C5, O5⟩
 have H5 := qz5 H4 O5 hy4 (by omega)
 have S5 := qz8 S4 O5 hy4 (by omega)
 have T5 := qz8 T4 O5 (by omega) (by omega)
 have U5 := qz8 U4 O5 (by omega) (by omega)
 have R5 := qz5 R4 O5 (by omega) (by omega)
 have OO5 := OO4.trans O5
 have hy5 := Nat.lt_of_lt_of_le hy4 O5.size
 clear D4 C4 O5 H4 S4 T4 U4 R4 OO4 hy4
 cases r5
 ·have hz5 := OO5.size
  have hzq : b4 < w5.heap.size := by omega
  go_upto_region 30 with fail
  have H9 := H5
  have T9 := T5
  have U9 := U5
  have R9 := R5
  have D9 := D5
  have C9 := C5
  have OO9 := OO5
  have hy9 := hy5
  obtain ⟨w9, rfl⟩ : ∃ wo, wo = w5 := ⟨_, rfl⟩
  have RP : w9.rangeAt b4 0 [.int .i64 x, .int .i64 y, .int .i64 z, .int .i64 u] := fun j v hv => R9 j v (by match j, hv with | 0, h => exact h | 1, h => exact h | 2, h => exact h | 3, h => exact h)
  refine qz1m 4 (by kernel_rfl) (fun V => Only w.heap.size w9 V /\ V.there w.heap.size 0 4) ?j9x1 (qz88 b4 w.heap.size x y z u (g0)) (by kernel_rfl) (by kernel_rfl) (by kernel_rfl) (by kernel_rfl) (by rfl) ?step9x1 ?final9x1
  case j9x1 => exact ⟨⟨rfl, rfl, rfl, Nat.le_refl _, fun _ _ _ => rfl⟩, qz6 (B := w9.heap.size) T9 ⟨rfl, rfl, rfl, Nat.le_refl _, fun _ _ => rfl⟩ (by omega)⟩
  case step9x1 =>
   intro i o hik ho' L aa V hLi hLk P hnn hd K hK
   match i, ho' with
   | 0, ho' =>
    obtain rfl := Option.some.inj ho'
    have e4 : aa.eval (.tmp 4) = .pointer (some ⟨b4, 0, none⟩) := hnn 4 rfl
    refine qz2 (v := .pointer (some ⟨b4, 0, none⟩)) (w' := V) ?_ (hK _ _ rfl P (fun j v' _ _ q => qzj j v' V V q (Or.inl rfl)))
    generalize aa.eval = ev at *
    go_simp
   | 1, ho' =>
    obtain rfl := Option.some.inj ho'
    exact qz11 25 (.tmp 84) rfl b4 0 (hd ⟨0, .data⟩ (by simp) rfl 84 rfl).2 [.int .i64 x, .int .i64 y, .int .i64 z, .int .i64 u] _ (qz5 RP P.1 (by omega) (by omega)) Try.underlying25 rfl qzt (hK _ _ rfl P (fun j v' _ _ q => qzj j v' V V q (Or.inl rfl)))
   | 2, ho' =>
    obtain rfl := Option.some.inj ho'
    exact qz11 56 (.tmp 5) rfl bh 0 (hnn 5 rfl) (hdC g0) _ (qz5 H9 P.1 hy9 (by omega)) Try.underlying56 rfl (qz1 _) (hK _ _ rfl P (fun j v' _ _ q => qzj j v' V V q (Or.inl rfl)))
   | 3, ho' =>
    obtain rfl := Option.some.inj ho'
    exact wp_store_mid 25 (.tmp 2) (.tmp 85) rfl w.heap.size 0 #[.int .i64 x, .int .i64 y, .int .i64 z, .int .i64 u] (hnn 2 rfl) (hd ⟨1, .data⟩ (by simp) rfl 85 rfl).2 P.2 qzt (by simp [Value.oneCell']) (hK undef _ (World.rangeAt_setCells_same V w.heap.size 0 [.int .i64 x, .int .i64 y, .int .i64 z, .int .i64 u] P.2) ⟨P.1.trans (qz9 w.heap.size [.int .i64 x, .int .i64 y, .int .i64 z, .int .i64 u] 0 V), World.there_setCells P.2 _ _ _⟩ (fun j v' hj _ q => qzj j v' V _ q (Or.inr hj)))
   | n + 4, ho' => omega
  intro L9 vt wa _ P9 hG9
  have k2 : vt 2 = .agg (hdC g0).toArray := hG9 2 (by decide)
  have k3 : wa.rangeAt w.heap.size 0 [.int .i64 x, .int .i64 y, .int .i64 z, .int .i64 u] := hG9 3 (by decide)
  obtain ⟨OA, TA⟩ := P9
  have TB := qz8 U9 OA (by omega) (by omega)
  have hO2 := qz9 (w.heap.size + 1) (hdC g0) 0 wa
  have zA := OA.size
  have F1 := qz5 k3 hO2 (by omega) (by omega)
  have F2 := World.rangeAt_setCells_same wa (w.heap.size + 1) 0 (hdC g0) TB
  have DB := (D9.only OA (by omega)).only hO2 (by omega)
  have CB := (C9.below (OA.below (by omega) (by have := D9.blk; omega))).below (hO2.below (by omega) (by have := D9.blk; omega))
  have OB := qz17 (qz17 OO9 OA (by omega)) hO2 (by omega)
  generalize hl9 : laid _ vt _ _ _ = A9
  simp only [List.drop_succ_cons, List.drop_zero]
  have q3 : A9.eval (.tmp 3) = .pointer (some ⟨w.heap.size + 1, 0, none⟩) := by rw [<- hl9]; rfl
  have q86 : A9.eval (.tmp 86) = .agg (hdC g0).toArray := by rw [<- k2, <- hl9]; rfl
  have r2 : A9.tmps.getD 2 undef = .pointer (some ⟨w.heap.size, 0, none⟩) := by rw [<- hl9]; rfl
  have rd : A9.defers = [] := by rw [<- hl9]; rfl
  have r3 : A9.tmps.getD 3 undef = .pointer (some ⟨w.heap.size + 1, 0, none⟩) := by rw [<- hl9]; rfl
  refine wpList_store_mid rfl 56 (.tmp 3) (.tmp 86) rfl (w.heap.size + 1) 0 (hdC g0).toArray q3 q86 TB (qzb _) (qzg _) ?_
  clear hl9
  go_wp2
  refine bodyPost_ret (v := .tuple #[.agg #[.int .i64 x, .int .i64 y, .int .i64 z, .int .i64 u], .agg (hdC g0).toArray]) ?_ (by first | exact rd | simpa using rd) ⟨x, y, z, u, g0, rfl, ⟨_, _, DB⟩, CB, OB⟩
  exact qz18 Try.results56 _ _ w.heap.size 0 (w.heap.size + 1) 0 (by first | exact r2 | simpa using r2) (by first | exact r3 | simpa using r3) [.int .i64 x, .int .i64 y, .int .i64 z, .int .i64 u] (hdC g0) _ _ F1 Try.underlying25 rfl qzt F2 Try.underlying56 rfl (qz1 _)
 go_wp2_with fail
 refine (qz41 B b a len cap i5 h5 (-2) 30 w5 hB hlen D5 C5 (by omega) (by omega) (by omega)).mono ?_
 rintro e w6 ⟨rn, i6, h6, rfl, rn0, rn1, D6, C6, O6⟩
 go_wp2_with fail
 refine (qzz B b a len cap i6 h6 12 w6 hB hlen D6 C6 (by omega) (by omega)).mono ?_
 rintro e w7 ⟨sw, i7, h7, rfl, sw0, sw1, D7, C7, O7⟩
 have O57 := O6.trans O7
 have H7 := qz5 H5 O57 hy5 (by omega)
 have S7 := qz8 S5 O57 hy5 (by omega)
 have T7 := qz8 T5 O57 (by omega) (by omega)
 have U7 := qz8 U5 O57 (by omega) (by omega)
 have R7 := qz5 R5 O57 (by omega) (by omega)
 have OO7 := OO5.trans O57
 have hy7 := Nat.lt_of_lt_of_le hy5 O57.size
 have hz7 := OO7.size
 clear D5 C5 O6 D6 C6 O7 O57 H5 S5 T5 U5 R5 OO5 hy5
 have hz := V1.plan.2.2.1
 rcases (show sw = 0 ∨ sw = 1 ∨ sw = 2 ∨ sw = 3 ∨ sw = 4 ∨ sw = 5 ∨ sw = 6 ∨ sw = 7 ∨ sw = 8 ∨ sw = 9 ∨ sw = 10 ∨ sw = 11 by omega) with rfl | rfl | rfl | rfl | rfl | rfl | rfl | rfl | rfl | rfl | rfl | rfl
 ·have z0 : w7.cell? ⟨bh, 0, none⟩ = some (.int .i64 g0.at_) := by simpa using H7 0 _ rfl
  have v0 : w7.frozen? ⟨bh, 0, none⟩ = false := by simpa using (S7 0 (by decide)).2
  go_upto_region 30 with fail
  clear z0 v0
  have hO9 : Only bh w7 (w7.setCell ⟨bh, 0, none⟩ (.int .i64 rn)) := (Only.refl bh w7).setCell (p := ⟨bh, 0, none⟩) (Or.inl rfl) _
  have H9 : (w7.setCell ⟨bh, 0, none⟩ (.int .i64 rn)).rangeAt bh 0 (hdC { g0 with at_ := rn }) := qza H7 0 (by simp [hdC]) (.int .i64 rn)
  have T9 := qz8 T7 hO9 (by omega) (by omega)
  have U9 := qz8 U7 hO9 (by omega) (by omega)
  have R9 := qz5 R7 hO9 (by omega) (by omega)
  have D9 := D7.only hO9 (by omega)
  have C9 := C7.below (hO9.below (by omega) (by have := D7.blk; omega))
  have OO9 := qz17 OO7 hO9 (by omega)
  have hy9 := Nat.lt_of_lt_of_le hy7 hO9.size
  have hz9 := hO9.size
  clear hO9
  generalize w7.setCell ⟨bh, 0, none⟩ (.int .i64 rn) = w9 at *
  have RP : w9.rangeAt b4 0 [.int .i64 x, .int .i64 y, .int .i64 z, .int .i64 u] := fun j v hv => R9 j v (by match j, hv with | 0, h => exact h | 1, h => exact h | 2, h => exact h | 3, h => exact h)
  refine qz1m 4 (by kernel_rfl) (fun V => Only w.heap.size w9 V /\ V.there w.heap.size 0 4) ?j9x2 (qz88 b4 w.heap.size x y z u ({ g0 with at_ := rn })) (by kernel_rfl) (by kernel_rfl) (by kernel_rfl) (by kernel_rfl) (by rfl) ?step9x2 ?final9x2
  case j9x2 => exact ⟨⟨rfl, rfl, rfl, Nat.le_refl _, fun _ _ _ => rfl⟩, qz6 (B := w9.heap.size) T9 ⟨rfl, rfl, rfl, Nat.le_refl _, fun _ _ => rfl⟩ (by omega)⟩
  case step9x2 =>
   intro i o hik ho' L aa V hLi hLk P hnn hd K hK
   match i, ho' with
   | 0, ho' =>
    obtain rfl := Option.some.inj ho'
    have e4 : aa.eval (.tmp 4) = .pointer (some ⟨b4, 0, none⟩) := hnn 4 rfl
    refine qz2 (v := .pointer (some ⟨b4, 0, none⟩)) (w' := V) ?_ (hK _ _ rfl P (fun j v' _ _ q => qzj j v' V V q (Or.inl rfl)))
    generalize aa.eval = ev at *
    go_simp
   | 1, ho' =>
    obtain rfl := Option.some.inj ho'
    exact qz11 25 (.tmp 84) rfl b4 0 (hd ⟨0, .data⟩ (by simp) rfl 84 rfl).2 [.int .i64 x, .int .i64 y, .int .i64 z, .int .i64 u] _ (qz5 RP P.1 (by omega) (by omega)) Try.underlying25 rfl qzt (hK _ _ rfl P (fun j v' _ _ q => qzj j v' V V q (Or.inl rfl)))
   | 2, ho' =>
    obtain rfl := Option.some.inj ho'
    exact qz11 56 (.tmp 5) rfl bh 0 (hnn 5 rfl) (hdC { g0 with at_ := rn }) _ (qz5 H9 P.1 hy9 (by omega)) Try.underlying56 rfl (qz1 _) (hK _ _ rfl P (fun j v' _ _ q => qzj j v' V V q (Or.inl rfl)))
   | 3, ho' =>
    obtain rfl := Option.some.inj ho'
    exact wp_store_mid 25 (.tmp 2) (.tmp 85) rfl w.heap.size 0 #[.int .i64 x, .int .i64 y, .int .i64 z, .int .i64 u] (hnn 2 rfl) (hd ⟨1, .data⟩ (by simp) rfl 85 rfl).2 P.2 qzt (by simp [Value.oneCell']) (hK undef _ (World.rangeAt_setCells_same V w.heap.size 0 [.int .i64 x, .int .i64 y, .int .i64 z, .int .i64 u] P.2) ⟨P.1.trans (qz9 w.heap.size [.int .i64 x, .int .i64 y, .int .i64 z, .int .i64 u] 0 V), World.there_setCells P.2 _ _ _⟩ (fun j v' hj _ q => qzj j v' V _ q (Or.inr hj)))
   | n + 4, ho' => omega
  intro L9 vt wa _ P9 hG9
  have k2 : vt 2 = .agg (hdC { g0 with at_ := rn }).toArray := hG9 2 (by decide)
  have k3 : wa.rangeAt w.heap.size 0 [.int .i64 x, .int .i64 y, .int .i64 z, .int .i64 u] := hG9 3 (by decide)
  obtain ⟨OA, TA⟩ := P9
  have TB := qz8 U9 OA (by omega) (by omega)
  have hO2 := qz9 (w.heap.size + 1) (hdC { g0 with at_ := rn }) 0 wa
  have zA := OA.size
  have F1 := qz5 k3 hO2 (by omega) (by omega)
  have F2 := World.rangeAt_setCells_same wa (w.heap.size + 1) 0 (hdC { g0 with at_ := rn }) TB
  have DB := (D9.only OA (by omega)).only hO2 (by omega)
  have CB := (C9.below (OA.below (by omega) (by have := D9.blk; omega))).below (hO2.below (by omega) (by have := D9.blk; omega))
  have OB := qz17 (qz17 OO9 OA (by omega)) hO2 (by omega)
  generalize hl9 : laid _ vt _ _ _ = A9
  simp only [List.drop_succ_cons, List.drop_zero]
  have q3 : A9.eval (.tmp 3) = .pointer (some ⟨w.heap.size + 1, 0, none⟩) := by rw [<- hl9]; rfl
  have q86 : A9.eval (.tmp 86) = .agg (hdC { g0 with at_ := rn }).toArray := by rw [<- k2, <- hl9]; rfl
  have r2 : A9.tmps.getD 2 undef = .pointer (some ⟨w.heap.size, 0, none⟩) := by rw [<- hl9]; rfl
  have rd : A9.defers = [] := by rw [<- hl9]; rfl
  have r3 : A9.tmps.getD 3 undef = .pointer (some ⟨w.heap.size + 1, 0, none⟩) := by rw [<- hl9]; rfl
  refine wpList_store_mid rfl 56 (.tmp 3) (.tmp 86) rfl (w.heap.size + 1) 0 (hdC { g0 with at_ := rn }).toArray q3 q86 TB (qzb _) (qzg _) ?_
  clear hl9
  go_wp2
  refine bodyPost_ret (v := .tuple #[.agg #[.int .i64 x, .int .i64 y, .int .i64 z, .int .i64 u], .agg (hdC { g0 with at_ := rn }).toArray]) ?_ (by first | exact rd | simpa using rd) ⟨x, y, z, u, { g0 with at_ := rn }, rfl, ⟨_, _, DB⟩, CB, OB⟩
  exact qz18 Try.results56 _ _ w.heap.size 0 (w.heap.size + 1) 0 (by first | exact r2 | simpa using r2) (by first | exact r3 | simpa using r3) [.int .i64 x, .int .i64 y, .int .i64 z, .int .i64 u] (hdC { g0 with at_ := rn }) _ _ F1 Try.underlying25 rfl qzt F2 Try.underlying56 rfl (qz1 _)
 ·go_wp2_with fail
  refine (qz41 B b a len cap i7 h7 (-1) 8 w7 hB hlen D7 C7 (by omega) (by omega) (by omega)).mono ?_
  rintro e w8 ⟨rv, i8, h8, rfl, _, _, D8, C8, O8⟩
  have H8 := qz5 H7 O8 hy7 (by omega)
  have S8 := qz8 S7 O8 hy7 (by omega)
  have T8 := qz8 T7 O8 (by omega) (by omega)
  have U8 := qz8 U7 O8 (by omega) (by omega)
  have R8 := qz5 R7 O8 (by omega) (by omega)
  have OO8 := OO7.trans O8
  have hy8 := Nat.lt_of_lt_of_le hy7 O8.size
  have hz8 := OO8.size
  have hzq := O8.size
  clear D7 C7 H7 S7 T7 U7 R7 OO7 O8
  have z1 : w8.cell? ⟨bh, 1, none⟩ = some (.int .i64 g0.then_) := by simpa using H8 1 _ rfl
  have v1 : w8.frozen? ⟨bh, 1, none⟩ = false := by simpa using (S8 1 (by decide)).2
  go_upto_region 30 with fail
  clear z1 v1
  have hO9 : Only bh w8 (w8.setCell ⟨bh, 1, none⟩ (.int .i64 rv)) := (Only.refl bh w8).setCell (p := ⟨bh, 1, none⟩) (Or.inl rfl) _
  have H9 : (w8.setCell ⟨bh, 1, none⟩ (.int .i64 rv)).rangeAt bh 0 (hdC { g0 with then_ := rv }) := qza H8 1 (by simp [hdC]) (.int .i64 rv)
  have T9 := qz8 T8 hO9 (by omega) (by omega)
  have U9 := qz8 U8 hO9 (by omega) (by omega)
  have R9 := qz5 R8 hO9 (by omega) (by omega)
  have D9 := D8.only hO9 (by omega)
  have C9 := C8.below (hO9.below (by omega) (by have := D8.blk; omega))
  have OO9 := qz17 OO8 hO9 (by omega)
  have hy9 := Nat.lt_of_lt_of_le hy8 hO9.size
  have hz9 := hO9.size
  clear hO9
  generalize w8.setCell ⟨bh, 1, none⟩ (.int .i64 rv) = w9 at *
  have RP : w9.rangeAt b4 0 [.int .i64 x, .int .i64 y, .int .i64 z, .int .i64 u] := fun j v hv => R9 j v (by match j, hv with | 0, h => exact h | 1, h => exact h | 2, h => exact h | 3, h => exact h)
  refine qz1m 4 (by kernel_rfl) (fun V => Only w.heap.size w9 V /\ V.there w.heap.size 0 4) ?j9x3 (qz88 b4 w.heap.size x y z u ({ g0 with then_ := rv })) (by kernel_rfl) (by kernel_rfl) (by kernel_rfl) (by kernel_rfl) (by rfl) ?step9x3 ?final9x3
  case j9x3 => exact ⟨⟨rfl, rfl, rfl, Nat.le_refl _, fun _ _ _ => rfl⟩, qz6 (B := w9.heap.size) T9 ⟨rfl, rfl, rfl, Nat.le_refl _, fun _ _ => rfl⟩ (by omega)⟩
  case step9x3 =>
   intro i o hik ho' L aa V hLi hLk P hnn hd K hK
   match i, ho' with
   | 0, ho' =>
    obtain rfl := Option.some.inj ho'
    have e4 : aa.eval (.tmp 4) = .pointer (some ⟨b4, 0, none⟩) := hnn 4 rfl
    refine qz2 (v := .pointer (some ⟨b4, 0, none⟩)) (w' := V) ?_ (hK _ _ rfl P (fun j v' _ _ q => qzj j v' V V q (Or.inl rfl)))
    generalize aa.eval = ev at *
    go_simp
   | 1, ho' =>
    obtain rfl := Option.some.inj ho'
    exact qz11 25 (.tmp 84) rfl b4 0 (hd ⟨0, .data⟩ (by simp) rfl 84 rfl).2 [.int .i64 x, .int .i64 y, .int .i64 z, .int .i64 u] _ (qz5 RP P.1 (by omega) (by omega)) Try.underlying25 rfl qzt (hK _ _ rfl P (fun j v' _ _ q => qzj j v' V V q (Or.inl rfl)))
   | 2, ho' =>
    obtain rfl := Option.some.inj ho'
    exact qz11 56 (.tmp 5) rfl bh 0 (hnn 5 rfl) (hdC { g0 with then_ := rv }) _ (qz5 H9 P.1 hy9 (by omega)) Try.underlying56 rfl (qz1 _) (hK _ _ rfl P (fun j v' _ _ q => qzj j v' V V q (Or.inl rfl)))
   | 3, ho' =>
    obtain rfl := Option.some.inj ho'
    exact wp_store_mid 25 (.tmp 2) (.tmp 85) rfl w.heap.size 0 #[.int .i64 x, .int .i64 y, .int .i64 z, .int .i64 u] (hnn 2 rfl) (hd ⟨1, .data⟩ (by simp) rfl 85 rfl).2 P.2 qzt (by simp [Value.oneCell']) (hK undef _ (World.rangeAt_setCells_same V w.heap.size 0 [.int .i64 x, .int .i64 y, .int .i64 z, .int .i64 u] P.2) ⟨P.1.trans (qz9 w.heap.size [.int .i64 x, .int .i64 y, .int .i64 z, .int .i64 u] 0 V), World.there_setCells P.2 _ _ _⟩ (fun j v' hj _ q => qzj j v' V _ q (Or.inr hj)))
   | n + 4, ho' => omega
  intro L9 vt wa _ P9 hG9
  have k2 : vt 2 = .agg (hdC { g0 with then_ := rv }).toArray := hG9 2 (by decide)
  have k3 : wa.rangeAt w.heap.size 0 [.int .i64 x, .int .i64 y, .int .i64 z, .int .i64 u] := hG9 3 (by decide)
  obtain ⟨OA, TA⟩ := P9
  have TB := qz8 U9 OA (by omega) (by omega)
  have hO2 := qz9 (w.heap.size + 1) (hdC { g0 with then_ := rv }) 0 wa
  have zA := OA.size
  have F1 := qz5 k3 hO2 (by omega) (by omega)
  have F2 := World.rangeAt_setCells_same wa (w.heap.size + 1) 0 (hdC { g0 with then_ := rv }) TB
  have DB := (D9.only OA (by omega)).only hO2 (by omega)
  have CB := (C9.below (OA.below (by omega) (by have := D9.blk; omega))).below (hO2.below (by omega) (by have := D9.blk; omega))
  have OB := qz17 (qz17 OO9 OA (by omega)) hO2 (by omega)
  generalize hl9 : laid _ vt _ _ _ = A9
  simp only [List.drop_succ_cons, List.drop_zero]
  have q3 : A9.eval (.tmp 3) = .pointer (some ⟨w.heap.size + 1, 0, none⟩) := by rw [<- hl9]; rfl
  have q86 : A9.eval (.tmp 86) = .agg (hdC { g0 with then_ := rv }).toArray := by rw [<- k2, <- hl9]; rfl
  have r2 : A9.tmps.getD 2 undef = .pointer (some ⟨w.heap.size, 0, none⟩) := by rw [<- hl9]; rfl
  have rd : A9.defers = [] := by rw [<- hl9]; rfl
  have r3 : A9.tmps.getD 3 undef = .pointer (some ⟨w.heap.size + 1, 0, none⟩) := by rw [<- hl9]; rfl
  refine wpList_store_mid rfl 56 (.tmp 3) (.tmp 86) rfl (w.heap.size + 1) 0 (hdC { g0 with then_ := rv }).toArray q3 q86 TB (qzb _) (qzg _) ?_
  clear hl9
  go_wp2
  refine bodyPost_ret (v := .tuple #[.agg #[.int .i64 x, .int .i64 y, .int .i64 z, .int .i64 u], .agg (hdC { g0 with then_ := rv }).toArray]) ?_ (by first | exact rd | simpa using rd) ⟨x, y, z, u, { g0 with then_ := rv }, rfl, ⟨_, _, DB⟩, CB, OB⟩
  exact qz18 Try.results56 _ _ w.heap.size 0 (w.heap.size + 1) 0 (by first | exact r2 | simpa using r2) (by first | exact r3 | simpa using r3) [.int .i64 x, .int .i64 y, .int .i64 z, .int .i64 u] (hdC { g0 with then_ := rv }) _ _ F1 Try.underlying25 rfl qzt F2 Try.underlying56 rfl (qz1 _)
 ·go_wp2_with fail
  refine (qz41 B b a len cap i7 h7 (-1) 9 w7 hB hlen D7 C7 (by omega) (by omega) (by omega)).mono ?_
  rintro e w8 ⟨rv, i8, h8, rfl, _, _, D8, C8, O8⟩
  have H8 := qz5 H7 O8 hy7 (by omega)
  have S8 := qz8 S7 O8 hy7 (by omega)
  have T8 := qz8 T7 O8 (by omega) (by omega)
  have U8 := qz8 U7 O8 (by omega) (by omega)
  have R8 := qz5 R7 O8 (by omega) (by omega)
  have OO8 := OO7.trans O8
  have hy8 := Nat.lt_of_lt_of_le hy7 O8.size
  have hz8 := OO8.size
  have hzq := O8.size
  clear D7 C7 H7 S7 T7 U7 R7 OO7 O8
  have z2 : w8.cell? ⟨bh, 2, none⟩ = some (.int .i64 g0.code) := by simpa using H8 2 _ rfl
  have v2 : w8.frozen? ⟨bh, 2, none⟩ = false := by simpa using (S8 2 (by decide)).2
  go_upto_region 30 with fail
  clear z2 v2
  have hO9 : Only bh w8 (w8.setCell ⟨bh, 2, none⟩ (.int .i64 rv)) := (Only.refl bh w8).setCell (p := ⟨bh, 2, none⟩) (Or.inl rfl) _
  have H9 : (w8.setCell ⟨bh, 2, none⟩ (.int .i64 rv)).rangeAt bh 0 (hdC { g0 with code := rv }) := qza H8 2 (by simp [hdC]) (.int .i64 rv)
  have T9 := qz8 T8 hO9 (by omega) (by omega)
  have U9 := qz8 U8 hO9 (by omega) (by omega)
  have R9 := qz5 R8 hO9 (by omega) (by omega)
  have D9 := D8.only hO9 (by omega)
  have C9 := C8.below (hO9.below (by omega) (by have := D8.blk; omega))
  have OO9 := qz17 OO8 hO9 (by omega)
  have hy9 := Nat.lt_of_lt_of_le hy8 hO9.size
  have hz9 := hO9.size
  clear hO9
  generalize w8.setCell ⟨bh, 2, none⟩ (.int .i64 rv) = w9 at *
  have RP : w9.rangeAt b4 0 [.int .i64 x, .int .i64 y, .int .i64 z, .int .i64 u] := fun j v hv => R9 j v (by match j, hv with | 0, h => exact h | 1, h => exact h | 2, h => exact h | 3, h => exact h)
  refine qz1m 4 (by kernel_rfl) (fun V => Only w.heap.size w9 V /\ V.there w.heap.size 0 4) ?j9x4 (qz88 b4 w.heap.size x y z u ({ g0 with code := rv })) (by kernel_rfl) (by kernel_rfl) (by kernel_rfl) (by kernel_rfl) (by rfl) ?step9x4 ?final9x4
  case j9x4 => exact ⟨⟨rfl, rfl, rfl, Nat.le_refl _, fun _ _ _ => rfl⟩, qz6 (B := w9.heap.size) T9 ⟨rfl, rfl, rfl, Nat.le_refl _, fun _ _ => rfl⟩ (by omega)⟩
  case step9x4 =>
   intro i o hik ho' L aa V hLi hLk P hnn hd K hK
   match i, ho' with
   | 0, ho' =>
    obtain rfl := Option.some.inj ho'
    have e4 : aa.eval (.tmp 4) = .pointer (some ⟨b4, 0, none⟩) := hnn 4 rfl
    refine qz2 (v := .pointer (some ⟨b4, 0, none⟩)) (w' := V) ?_ (hK _ _ rfl P (fun j v' _ _ q => qzj j v' V V q (Or.inl rfl)))
    generalize aa.eval = ev at *
    go_simp
   | 1, ho' =>
    obtain rfl := Option.some.inj ho'
    exact qz11 25 (.tmp 84) rfl b4 0 (hd ⟨0, .data⟩ (by simp) rfl 84 rfl).2 [.int .i64 x, .int .i64 y, .int .i64 z, .int .i64 u] _ (qz5 RP P.1 (by omega) (by omega)) Try.underlying25 rfl qzt (hK _ _ rfl P (fun j v' _ _ q => qzj j v' V V q (Or.inl rfl)))
   | 2, ho' =>
    obtain rfl := Option.some.inj ho'
    exact qz11 56 (.tmp 5) rfl bh 0 (hnn 5 rfl) (hdC { g0 with code := rv }) _ (qz5 H9 P.1 hy9 (by omega)) Try.underlying56 rfl (qz1 _) (hK _ _ rfl P (fun j v' _ _ q => qzj j v' V V q (Or.inl rfl)))
   | 3, ho' =>
    obtain rfl := Option.some.inj ho'
    exact wp_store_mid 25 (.tmp 2) (.tmp 85) rfl w.heap.size 0 #[.int .i64 x, .int .i64 y, .int .i64 z, .int .i64 u] (hnn 2 rfl) (hd ⟨1, .data⟩ (by simp) rfl 85 rfl).2 P.2 qzt (by simp [Value.oneCell']) (hK undef _ (World.rangeAt_setCells_same V w.heap.size 0 [.int .i64 x, .int .i64 y, .int .i64 z, .int .i64 u] P.2) ⟨P.1.trans (qz9 w.heap.size [.int .i64 x, .int .i64 y, .int .i64 z, .int .i64 u] 0 V), World.there_setCells P.2 _ _ _⟩ (fun j v' hj _ q => qzj j v' V _ q (Or.inr hj)))
   | n + 4, ho' => omega
  intro L9 vt wa _ P9 hG9
  have k2 : vt 2 = .agg (hdC { g0 with code := rv }).toArray := hG9 2 (by decide)
  have k3 : wa.rangeAt w.heap.size 0 [.int .i64 x, .int .i64 y, .int .i64 z, .int .i64 u] := hG9 3 (by decide)
  obtain ⟨OA, TA⟩ := P9
  have TB := qz8 U9 OA (by omega) (by omega)
  have hO2 := qz9 (w.heap.size + 1) (hdC { g0 with code := rv }) 0 wa
  have zA := OA.size
  have F1 := qz5 k3 hO2 (by omega) (by omega)
  have F2 := World.rangeAt_setCells_same wa (w.heap.size + 1) 0 (hdC { g0 with code := rv }) TB
  have DB := (D9.only OA (by omega)).only hO2 (by omega)
  have CB := (C9.below (OA.below (by omega) (by have := D9.blk; omega))).below (hO2.below (by omega) (by have := D9.blk; omega))
  have OB := qz17 (qz17 OO9 OA (by omega)) hO2 (by omega)
  generalize hl9 : laid _ vt _ _ _ = A9
  simp only [List.drop_succ_cons, List.drop_zero]
  have q3 : A9.eval (.tmp 3) = .pointer (some ⟨w.heap.size + 1, 0, none⟩) := by rw [<- hl9]; rfl
  have q86 : A9.eval (.tmp 86) = .agg (hdC { g0 with code := rv }).toArray := by rw [<- k2, <- hl9]; rfl
  have r2 : A9.tmps.getD 2 undef = .pointer (some ⟨w.heap.size, 0, none⟩) := by rw [<- hl9]; rfl
  have rd : A9.defers = [] := by rw [<- hl9]; rfl
  have r3 : A9.tmps.getD 3 undef = .pointer (some ⟨w.heap.size + 1, 0, none⟩) := by rw [<- hl9]; rfl
  refine wpList_store_mid rfl 56 (.tmp 3) (.tmp 86) rfl (w.heap.size + 1) 0 (hdC { g0 with code := rv }).toArray q3 q86 TB (qzb _) (qzg _) ?_
  clear hl9
  go_wp2
  refine bodyPost_ret (v := .tuple #[.agg #[.int .i64 x, .int .i64 y, .int .i64 z, .int .i64 u], .agg (hdC { g0 with code := rv }).toArray]) ?_ (by first | exact rd | simpa using rd) ⟨x, y, z, u, { g0 with code := rv }, rfl, ⟨_, _, DB⟩, CB, OB⟩
  exact qz18 Try.results56 _ _ w.heap.size 0 (w.heap.size + 1) 0 (by first | exact r2 | simpa using r2) (by first | exact r3 | simpa using r3) [.int .i64 x, .int .i64 y, .int .i64 z, .int .i64 u] (hdC { g0 with code := rv }) _ _ F1 Try.underlying25 rfl qzt F2 Try.underlying56 rfl (qz1 _)
 ·go_wp2_with fail
  refine (qz4g B b a len cap i7 h7 63 w7 hB hlen D7 C7 (by omega) (by omega)).mono ?_
  rintro e w8 ⟨rv, i8, h8, rfl, D8, C8, O8⟩
  have H8 := qz5 H7 O8 hy7 (by omega)
  have S8 := qz8 S7 O8 hy7 (by omega)
  have T8 := qz8 T7 O8 (by omega) (by omega)
  have U8 := qz8 U7 O8 (by omega) (by omega)
  have R8 := qz5 R7 O8 (by omega) (by omega)
  have OO8 := OO7.trans O8
  have hy8 := Nat.lt_of_lt_of_le hy7 O8.size
  have hz8 := OO8.size
  have hzq := O8.size
  clear D7 C7 H7 S7 T7 U7 R7 OO7 O8
  have z3 : w8.cell? ⟨bh, 3, none⟩ = some (.int .i64 g0.key) := by simpa using H8 3 _ rfl
  have v3 : w8.frozen? ⟨bh, 3, none⟩ = false := by simpa using (S8 3 (by decide)).2
  go_upto_region 30 with fail
  clear z3 v3
  have hO9 : Only bh w8 (w8.setCell ⟨bh, 3, none⟩ (.int .i64 rv)) := (Only.refl bh w8).setCell (p := ⟨bh, 3, none⟩) (Or.inl rfl) _
  have H9 : (w8.setCell ⟨bh, 3, none⟩ (.int .i64 rv)).rangeAt bh 0 (hdC { g0 with key := rv }) := qza H8 3 (by simp [hdC]) (.int .i64 rv)
  have T9 := qz8 T8 hO9 (by omega) (by omega)
  have U9 := qz8 U8 hO9 (by omega) (by omega)
  have R9 := qz5 R8 hO9 (by omega) (by omega)
  have D9 := D8.only hO9 (by omega)
  have C9 := C8.below (hO9.below (by omega) (by have := D8.blk; omega))
  have OO9 := qz17 OO8 hO9 (by omega)
  have hy9 := Nat.lt_of_lt_of_le hy8 hO9.size
  have hz9 := hO9.size
  clear hO9
  generalize w8.setCell ⟨bh, 3, none⟩ (.int .i64 rv) = w9 at *
  have RP : w9.rangeAt b4 0 [.int .i64 x, .int .i64 y, .int .i64 z, .int .i64 u] := fun j v hv => R9 j v (by match j, hv with | 0, h => exact h | 1, h => exact h | 2, h => exact h | 3, h => exact h)
  refine qz1m 4 (by kernel_rfl) (fun V => Only w.heap.size w9 V /\ V.there w.heap.size 0 4) ?j9x5 (qz88 b4 w.heap.size x y z u ({ g0 with key := rv })) (by kernel_rfl) (by kernel_rfl) (by kernel_rfl) (by kernel_rfl) (by rfl) ?step9x5 ?final9x5
  case j9x5 => exact ⟨⟨rfl, rfl, rfl, Nat.le_refl _, fun _ _ _ => rfl⟩, qz6 (B := w9.heap.size) T9 ⟨rfl, rfl, rfl, Nat.le_refl _, fun _ _ => rfl⟩ (by omega)⟩
  case step9x5 =>
   intro i o hik ho' L aa V hLi hLk P hnn hd K hK
   match i, ho' with
   | 0, ho' =>
    obtain rfl := Option.some.inj ho'
    have e4 : aa.eval (.tmp 4) = .pointer (some ⟨b4, 0, none⟩) := hnn 4 rfl
    refine qz2 (v := .pointer (some ⟨b4, 0, none⟩)) (w' := V) ?_ (hK _ _ rfl P (fun j v' _ _ q => qzj j v' V V q (Or.inl rfl)))
    generalize aa.eval = ev at *
    go_simp
   | 1, ho' =>
    obtain rfl := Option.some.inj ho'
    exact qz11 25 (.tmp 84) rfl b4 0 (hd ⟨0, .data⟩ (by simp) rfl 84 rfl).2 [.int .i64 x, .int .i64 y, .int .i64 z, .int .i64 u] _ (qz5 RP P.1 (by omega) (by omega)) Try.underlying25 rfl qzt (hK _ _ rfl P (fun j v' _ _ q => qzj j v' V V q (Or.inl rfl)))
   | 2, ho' =>
    obtain rfl := Option.some.inj ho'
    exact qz11 56 (.tmp 5) rfl bh 0 (hnn 5 rfl) (hdC { g0 with key := rv }) _ (qz5 H9 P.1 hy9 (by omega)) Try.underlying56 rfl (qz1 _) (hK _ _ rfl P (fun j v' _ _ q => qzj j v' V V q (Or.inl rfl)))
   | 3, ho' =>
    obtain rfl := Option.some.inj ho'
    exact wp_store_mid 25 (.tmp 2) (.tmp 85) rfl w.heap.size 0 #[.int .i64 x, .int .i64 y, .int .i64 z, .int .i64 u] (hnn 2 rfl) (hd ⟨1, .data⟩ (by simp) rfl 85 rfl).2 P.2 qzt (by simp [Value.oneCell']) (hK undef _ (World.rangeAt_setCells_same V w.heap.size 0 [.int .i64 x, .int .i64 y, .int .i64 z, .int .i64 u] P.2) ⟨P.1.trans (qz9 w.heap.size [.int .i64 x, .int .i64 y, .int .i64 z, .int .i64 u] 0 V), World.there_setCells P.2 _ _ _⟩ (fun j v' hj _ q => qzj j v' V _ q (Or.inr hj)))
   | n + 4, ho' => omega
  intro L9 vt wa _ P9 hG9
  have k2 : vt 2 = .agg (hdC { g0 with key := rv }).toArray := hG9 2 (by decide)
  have k3 : wa.rangeAt w.heap.size 0 [.int .i64 x, .int .i64 y, .int .i64 z, .int .i64 u] := hG9 3 (by decide)
  obtain ⟨OA, TA⟩ := P9
  have TB := qz8 U9 OA (by omega) (by omega)
  have hO2 := qz9 (w.heap.size + 1) (hdC { g0 with key := rv }) 0 wa
  have zA := OA.size
  have F1 := qz5 k3 hO2 (by omega) (by omega)
  have F2 := World.rangeAt_setCells_same wa (w.heap.size + 1) 0 (hdC { g0 with key := rv }) TB
  have DB := (D9.only OA (by omega)).only hO2 (by omega)
  have CB := (C9.below (OA.below (by omega) (by have := D9.blk; omega))).below (hO2.below (by omega) (by have := D9.blk; omega))
  have OB := qz17 (qz17 OO9 OA (by omega)) hO2 (by omega)
  generalize hl9 : laid _ vt _ _ _ = A9
  simp only [List.drop_succ_cons, List.drop_zero]
  have q3 : A9.eval (.tmp 3) = .pointer (some ⟨w.heap.size + 1, 0, none⟩) := by rw [<- hl9]; rfl
  have q86 : A9.eval (.tmp 86) = .agg (hdC { g0 with key := rv }).toArray := by rw [<- k2, <- hl9]; rfl
  have r2 : A9.tmps.getD 2 undef = .pointer (some ⟨w.heap.size, 0, none⟩) := by rw [<- hl9]; rfl
  have rd : A9.defers = [] := by rw [<- hl9]; rfl
  have r3 : A9.tmps.getD 3 undef = .pointer (some ⟨w.heap.size + 1, 0, none⟩) := by rw [<- hl9]; rfl
  refine wpList_store_mid rfl 56 (.tmp 3) (.tmp 86) rfl (w.heap.size + 1) 0 (hdC { g0 with key := rv }).toArray q3 q86 TB (qzb _) (qzg _) ?_
  clear hl9
  go_wp2
  refine bodyPost_ret (v := .tuple #[.agg #[.int .i64 x, .int .i64 y, .int .i64 z, .int .i64 u], .agg (hdC { g0 with key := rv }).toArray]) ?_ (by first | exact rd | simpa using rd) ⟨x, y, z, u, { g0 with key := rv }, rfl, ⟨_, _, DB⟩, CB, OB⟩
  exact qz18 Try.results56 _ _ w.heap.size 0 (w.heap.size + 1) 0 (by first | exact r2 | simpa using r2) (by first | exact r3 | simpa using r3) [.int .i64 x, .int .i64 y, .int .i64 z, .int .i64 u] (hdC { g0 with key := rv }) _ _ F1 Try.underlying25 rfl qzt F2 Try.underlying56 rfl (qz1 _)
 ·go_wp2_with fail
  refine (qz4g B b a len cap i7 h7 100 w7 hB hlen D7 C7 (by omega) (by omega)).mono ?_
  rintro e w8 ⟨rv, i8, h8, rfl, D8, C8, O8⟩
  have H8 := qz5 H7 O8 hy7 (by omega)
  have S8 := qz8 S7 O8 hy7 (by omega)
  have T8 := qz8 T7 O8 (by omega) (by omega)
  have U8 := qz8 U7 O8 (by omega) (by omega)
  have R8 := qz5 R7 O8 (by omega) (by omega)
  have OO8 := OO7.trans O8
  have hy8 := Nat.lt_of_lt_of_le hy7 O8.size
  have hz8 := OO8.size
  have hzq := O8.size
  clear D7 C7 H7 S7 T7 U7 R7 OO7 O8
  have z9 : w8.cell? ⟨bh, 9, none⟩ = some (.int .i64 g0.held) := by simpa using H8 9 _ rfl
  have v9 : w8.frozen? ⟨bh, 9, none⟩ = false := by simpa using (S8 9 (by decide)).2
  go_upto_region 30 with fail
  clear z9 v9
  have hO9 : Only bh w8 (w8.setCell ⟨bh, 9, none⟩ (.int .i64 rv)) := (Only.refl bh w8).setCell (p := ⟨bh, 9, none⟩) (Or.inl rfl) _
  have H9 : (w8.setCell ⟨bh, 9, none⟩ (.int .i64 rv)).rangeAt bh 0 (hdC { g0 with held := rv }) := qza H8 9 (by simp [hdC]) (.int .i64 rv)
  have T9 := qz8 T8 hO9 (by omega) (by omega)
  have U9 := qz8 U8 hO9 (by omega) (by omega)
  have R9 := qz5 R8 hO9 (by omega) (by omega)
  have D9 := D8.only hO9 (by omega)
  have C9 := C8.below (hO9.below (by omega) (by have := D8.blk; omega))
  have OO9 := qz17 OO8 hO9 (by omega)
  have hy9 := Nat.lt_of_lt_of_le hy8 hO9.size
  have hz9 := hO9.size
  clear hO9
  generalize w8.setCell ⟨bh, 9, none⟩ (.int .i64 rv) = w9 at *
  have RP : w9.rangeAt b4 0 [.int .i64 x, .int .i64 y, .int .i64 z, .int .i64 u] := fun j v hv => R9 j v (by match j, hv with | 0, h => exact h | 1, h => exact h | 2, h => exact h | 3, h => exact h)
  refine qz1m 4 (by kernel_rfl) (fun V => Only w.heap.size w9 V /\ V.there w.heap.size 0 4) ?j9x6 (qz88 b4 w.heap.size x y z u ({ g0 with held := rv })) (by kernel_rfl) (by kernel_rfl) (by kernel_rfl) (by kernel_rfl) (by rfl) ?step9x6 ?final9x6
  case j9x6 => exact ⟨⟨rfl, rfl, rfl, Nat.le_refl _, fun _ _ _ => rfl⟩, qz6 (B := w9.heap.size) T9 ⟨rfl, rfl, rfl, Nat.le_refl _, fun _ _ => rfl⟩ (by omega)⟩
  case step9x6 =>
   intro i o hik ho' L aa V hLi hLk P hnn hd K hK
   match i, ho' with
   | 0, ho' =>
    obtain rfl := Option.some.inj ho'
    have e4 : aa.eval (.tmp 4) = .pointer (some ⟨b4, 0, none⟩) := hnn 4 rfl
    refine qz2 (v := .pointer (some ⟨b4, 0, none⟩)) (w' := V) ?_ (hK _ _ rfl P (fun j v' _ _ q => qzj j v' V V q (Or.inl rfl)))
    generalize aa.eval = ev at *
    go_simp
   | 1, ho' =>
    obtain rfl := Option.some.inj ho'
    exact qz11 25 (.tmp 84) rfl b4 0 (hd ⟨0, .data⟩ (by simp) rfl 84 rfl).2 [.int .i64 x, .int .i64 y, .int .i64 z, .int .i64 u] _ (qz5 RP P.1 (by omega) (by omega)) Try.underlying25 rfl qzt (hK _ _ rfl P (fun j v' _ _ q => qzj j v' V V q (Or.inl rfl)))
   | 2, ho' =>
    obtain rfl := Option.some.inj ho'
    exact qz11 56 (.tmp 5) rfl bh 0 (hnn 5 rfl) (hdC { g0 with held := rv }) _ (qz5 H9 P.1 hy9 (by omega)) Try.underlying56 rfl (qz1 _) (hK _ _ rfl P (fun j v' _ _ q => qzj j v' V V q (Or.inl rfl)))
   | 3, ho' =>
    obtain rfl := Option.some.inj ho'
    exact wp_store_mid 25 (.tmp 2) (.tmp 85) rfl w.heap.size 0 #[.int .i64 x, .int .i64 y, .int .i64 z, .int .i64 u] (hnn 2 rfl) (hd ⟨1, .data⟩ (by simp) rfl 85 rfl).2 P.2 qzt (by simp [Value.oneCell']) (hK undef _ (World.rangeAt_setCells_same V w.heap.size 0 [.int .i64 x, .int .i64 y, .int .i64 z, .int .i64 u] P.2) ⟨P.1.trans (qz9 w.heap.size [.int .i64 x, .int .i64 y, .int .i64 z, .int .i64 u] 0 V), World.there_setCells P.2 _ _ _⟩ (fun j v' hj _ q => qzj j v' V _ q (Or.inr hj)))
   | n + 4, ho' => omega
  intro L9 vt wa _ P9 hG9
  have k2 : vt 2 = .agg (hdC { g0 with held := rv }).toArray := hG9 2 (by decide)
  have k3 : wa.rangeAt w.heap.size 0 [.int .i64 x, .int .i64 y, .int .i64 z, .int .i64 u] := hG9 3 (by decide)
  obtain ⟨OA, TA⟩ := P9
  have TB := qz8 U9 OA (by omega) (by omega)
  have hO2 := qz9 (w.heap.size + 1) (hdC { g0 with held := rv }) 0 wa
  have zA := OA.size
  have F1 := qz5 k3 hO2 (by omega) (by omega)
  have F2 := World.rangeAt_setCells_same wa (w.heap.size + 1) 0 (hdC { g0 with held := rv }) TB
  have DB := (D9.only OA (by omega)).only hO2 (by omega)
  have CB := (C9.below (OA.below (by omega) (by have := D9.blk; omega))).below (hO2.below (by omega) (by have := D9.blk; omega))
  have OB := qz17 (qz17 OO9 OA (by omega)) hO2 (by omega)
  generalize hl9 : laid _ vt _ _ _ = A9
  simp only [List.drop_succ_cons, List.drop_zero]
  have q3 : A9.eval (.tmp 3) = .pointer (some ⟨w.heap.size + 1, 0, none⟩) := by rw [<- hl9]; rfl
  have q86 : A9.eval (.tmp 86) = .agg (hdC { g0 with held := rv }).toArray := by rw [<- k2, <- hl9]; rfl
  have r2 : A9.tmps.getD 2 undef = .pointer (some ⟨w.heap.size, 0, none⟩) := by rw [<- hl9]; rfl
  have rd : A9.defers = [] := by rw [<- hl9]; rfl
  have r3 : A9.tmps.getD 3 undef = .pointer (some ⟨w.heap.size + 1, 0, none⟩) := by rw [<- hl9]; rfl
  refine wpList_store_mid rfl 56 (.tmp 3) (.tmp 86) rfl (w.heap.size + 1) 0 (hdC { g0 with held := rv }).toArray q3 q86 TB (qzb _) (qzg _) ?_
  clear hl9
  go_wp2
  refine bodyPost_ret (v := .tuple #[.agg #[.int .i64 x, .int .i64 y, .int .i64 z, .int .i64 u], .agg (hdC { g0 with held := rv }).toArray]) ?_ (by first | exact rd | simpa using rd) ⟨x, y, z, u, { g0 with held := rv }, rfl, ⟨_, _, DB⟩, CB, OB⟩
  exact qz18 Try.results56 _ _ w.heap.size 0 (w.heap.size + 1) 0 (by first | exact r2 | simpa using r2) (by first | exact r3 | simpa using r3) [.int .i64 x, .int .i64 y, .int .i64 z, .int .i64 u] (hdC { g0 with held := rv }) _ _ F1 Try.underlying25 rfl qzt F2 Try.underlying56 rfl (qz1 _)
 ·have z10 : w7.cell? ⟨bh, 10, none⟩ = some (.int .i64 g0.x_) := by simpa using H7 10 _ rfl
  have v10 : w7.frozen? ⟨bh, 10, none⟩ = false := by simpa using (S7 10 (by decide)).2
  go_upto_region 30 with fail
  clear z10 v10
  have hO9 : Only bh w7 (w7.setCell ⟨bh, 10, none⟩ (.int .i64 rn)) := (Only.refl bh w7).setCell (p := ⟨bh, 10, none⟩) (Or.inl rfl) _
  have H9 : (w7.setCell ⟨bh, 10, none⟩ (.int .i64 rn)).rangeAt bh 0 (hdC { g0 with x_ := rn }) := qza H7 10 (by simp [hdC]) (.int .i64 rn)
  have T9 := qz8 T7 hO9 (by omega) (by omega)
  have U9 := qz8 U7 hO9 (by omega) (by omega)
  have R9 := qz5 R7 hO9 (by omega) (by omega)
  have D9 := D7.only hO9 (by omega)
  have C9 := C7.below (hO9.below (by omega) (by have := D7.blk; omega))
  have OO9 := qz17 OO7 hO9 (by omega)
  have hy9 := Nat.lt_of_lt_of_le hy7 hO9.size
  have hz9 := hO9.size
  clear hO9
  generalize w7.setCell ⟨bh, 10, none⟩ (.int .i64 rn) = w9 at *
  have RP : w9.rangeAt b4 0 [.int .i64 x, .int .i64 y, .int .i64 z, .int .i64 u] := fun j v hv => R9 j v (by match j, hv with | 0, h => exact h | 1, h => exact h | 2, h => exact h | 3, h => exact h)
  refine qz1m 4 (by kernel_rfl) (fun V => Only w.heap.size w9 V /\ V.there w.heap.size 0 4) ?j9x7 (qz88 b4 w.heap.size x y z u ({ g0 with x_ := rn })) (by kernel_rfl) (by kernel_rfl) (by kernel_rfl) (by kernel_rfl) (by rfl) ?step9x7 ?final9x7
  case j9x7 => exact ⟨⟨rfl, rfl, rfl, Nat.le_refl _, fun _ _ _ => rfl⟩, qz6 (B := w9.heap.size) T9 ⟨rfl, rfl, rfl, Nat.le_refl _, fun _ _ => rfl⟩ (by omega)⟩
  case step9x7 =>
   intro i o hik ho' L aa V hLi hLk P hnn hd K hK
   match i, ho' with
   | 0, ho' =>
    obtain rfl := Option.some.inj ho'
    have e4 : aa.eval (.tmp 4) = .pointer (some ⟨b4, 0, none⟩) := hnn 4 rfl
    refine qz2 (v := .pointer (some ⟨b4, 0, none⟩)) (w' := V) ?_ (hK _ _ rfl P (fun j v' _ _ q => qzj j v' V V q (Or.inl rfl)))
    generalize aa.eval = ev at *
    go_simp
   | 1, ho' =>
    obtain rfl := Option.some.inj ho'
    exact qz11 25 (.tmp 84) rfl b4 0 (hd ⟨0, .data⟩ (by simp) rfl 84 rfl).2 [.int .i64 x, .int .i64 y, .int .i64 z, .int .i64 u] _ (qz5 RP P.1 (by omega) (by omega)) Try.underlying25 rfl qzt (hK _ _ rfl P (fun j v' _ _ q => qzj j v' V V q (Or.inl rfl)))
   | 2, ho' =>
    obtain rfl := Option.some.inj ho'
    exact qz11 56 (.tmp 5) rfl bh 0 (hnn 5 rfl) (hdC { g0 with x_ := rn }) _ (qz5 H9 P.1 hy9 (by omega)) Try.underlying56 rfl (qz1 _) (hK _ _ rfl P (fun j v' _ _ q => qzj j v' V V q (Or.inl rfl)))
   | 3, ho' =>
    obtain rfl := Option.some.inj ho'
    exact wp_store_mid 25 (.tmp 2) (.tmp 85) rfl w.heap.size 0 #[.int .i64 x, .int .i64 y, .int .i64 z, .int .i64 u] (hnn 2 rfl) (hd ⟨1, .data⟩ (by simp) rfl 85 rfl).2 P.2 qzt (by simp [Value.oneCell']) (hK undef _ (World.rangeAt_setCells_same V w.heap.size 0 [.int .i64 x, .int .i64 y, .int .i64 z, .int .i64 u] P.2) ⟨P.1.trans (qz9 w.heap.size [.int .i64 x, .int .i64 y, .int .i64 z, .int .i64 u] 0 V), World.there_setCells P.2 _ _ _⟩ (fun j v' hj _ q => qzj j v' V _ q (Or.inr hj)))
   | n + 4, ho' => omega
  intro L9 vt wa _ P9 hG9
  have k2 : vt 2 = .agg (hdC { g0 with x_ := rn }).toArray := hG9 2 (by decide)
  have k3 : wa.rangeAt w.heap.size 0 [.int .i64 x, .int .i64 y, .int .i64 z, .int .i64 u] := hG9 3 (by decide)
  obtain ⟨OA, TA⟩ := P9
  have TB := qz8 U9 OA (by omega) (by omega)
  have hO2 := qz9 (w.heap.size + 1) (hdC { g0 with x_ := rn }) 0 wa
  have zA := OA.size
  have F1 := qz5 k3 hO2 (by omega) (by omega)
  have F2 := World.rangeAt_setCells_same wa (w.heap.size + 1) 0 (hdC { g0 with x_ := rn }) TB
  have DB := (D9.only OA (by omega)).only hO2 (by omega)
  have CB := (C9.below (OA.below (by omega) (by have := D9.blk; omega))).below (hO2.below (by omega) (by have := D9.blk; omega))
  have OB := qz17 (qz17 OO9 OA (by omega)) hO2 (by omega)
  generalize hl9 : laid _ vt _ _ _ = A9
  simp only [List.drop_succ_cons, List.drop_zero]
  have q3 : A9.eval (.tmp 3) = .pointer (some ⟨w.heap.size + 1, 0, none⟩) := by rw [<- hl9]; rfl
  have q86 : A9.eval (.tmp 86) = .agg (hdC { g0 with x_ := rn }).toArray := by rw [<- k2, <- hl9]; rfl
  have r2 : A9.tmps.getD 2 undef = .pointer (some ⟨w.heap.size, 0, none⟩) := by rw [<- hl9]; rfl
  have rd : A9.defers = [] := by rw [<- hl9]; rfl
  have r3 : A9.tmps.getD 3 undef = .pointer (some ⟨w.heap.size + 1, 0, none⟩) := by rw [<- hl9]; rfl
  refine wpList_store_mid rfl 56 (.tmp 3) (.tmp 86) rfl (w.heap.size + 1) 0 (hdC { g0 with x_ := rn }).toArray q3 q86 TB (qzb _) (qzg _) ?_
  clear hl9
  go_wp2
  refine bodyPost_ret (v := .tuple #[.agg #[.int .i64 x, .int .i64 y, .int .i64 z, .int .i64 u], .agg (hdC { g0 with x_ := rn }).toArray]) ?_ (by first | exact rd | simpa using rd) ⟨x, y, z, u, { g0 with x_ := rn }, rfl, ⟨_, _, DB⟩, CB, OB⟩
  exact qz18 Try.results56 _ _ w.heap.size 0 (w.heap.size + 1) 0 (by first | exact r2 | simpa using r2) (by first | exact r3 | simpa using r3) [.int .i64 x, .int .i64 y, .int .i64 z, .int .i64 u] (hdC { g0 with x_ := rn }) _ _ F1 Try.underlying25 rfl qzt F2 Try.underlying56 rfl (qz1 _)
 ·have y2 : w7.cell? ⟨b4, 2, none⟩ = some (.int .i64 z) := by simpa using R7 2 _ rfl
  go_wp2_with fail
  refine (qz4g B b a len cap i7 h7 z w7 hB hlen D7 C7 (by omega) (by omega)).mono ?_
  rintro e w8 ⟨rv, i8, h8, rfl, D8, C8, O8⟩
  have H8 := qz5 H7 O8 hy7 (by omega)
  have S8 := qz8 S7 O8 hy7 (by omega)
  have T8 := qz8 T7 O8 (by omega) (by omega)
  have U8 := qz8 U7 O8 (by omega) (by omega)
  have R8 := qz5 R7 O8 (by omega) (by omega)
  have OO8 := OO7.trans O8
  have hy8 := Nat.lt_of_lt_of_le hy7 O8.size
  have hz8 := OO8.size
  have hzq := O8.size
  clear D7 C7 H7 S7 T7 U7 R7 OO7 O8 y2
  have z11 : w8.cell? ⟨bh, 11, none⟩ = some (.int .i64 g0.ver) := by simpa using H8 11 _ rfl
  have v11 : w8.frozen? ⟨bh, 11, none⟩ = false := by simpa using (S8 11 (by decide)).2
  go_upto_region 30 with fail
  clear z11 v11
  have hO9 : Only bh w8 (w8.setCell ⟨bh, 11, none⟩ (.int .i64 rv)) := (Only.refl bh w8).setCell (p := ⟨bh, 11, none⟩) (Or.inl rfl) _
  have H9 : (w8.setCell ⟨bh, 11, none⟩ (.int .i64 rv)).rangeAt bh 0 (hdC { g0 with ver := rv }) := qza H8 11 (by simp [hdC]) (.int .i64 rv)
  have T9 := qz8 T8 hO9 (by omega) (by omega)
  have U9 := qz8 U8 hO9 (by omega) (by omega)
  have R9 := qz5 R8 hO9 (by omega) (by omega)
  have D9 := D8.only hO9 (by omega)
  have C9 := C8.below (hO9.below (by omega) (by have := D8.blk; omega))
  have OO9 := qz17 OO8 hO9 (by omega)
  have hy9 := Nat.lt_of_lt_of_le hy8 hO9.size
  have hz9 := hO9.size
  clear hO9
  generalize w8.setCell ⟨bh, 11, none⟩ (.int .i64 rv) = w9 at *
  have RP : w9.rangeAt b4 0 [.int .i64 x, .int .i64 y, .int .i64 z, .int .i64 u] := fun j v hv => R9 j v (by match j, hv with | 0, h => exact h | 1, h => exact h | 2, h => exact h | 3, h => exact h)
  refine qz1m 4 (by kernel_rfl) (fun V => Only w.heap.size w9 V /\ V.there w.heap.size 0 4) ?j9x8 (qz88 b4 w.heap.size x y z u ({ g0 with ver := rv })) (by kernel_rfl) (by kernel_rfl) (by kernel_rfl) (by kernel_rfl) (by rfl) ?step9x8 ?final9x8
  case j9x8 => exact ⟨⟨rfl, rfl, rfl, Nat.le_refl _, fun _ _ _ => rfl⟩, qz6 (B := w9.heap.size) T9 ⟨rfl, rfl, rfl, Nat.le_refl _, fun _ _ => rfl⟩ (by omega)⟩
  case step9x8 =>
   intro i o hik ho' L aa V hLi hLk P hnn hd K hK
   match i, ho' with
   | 0, ho' =>
    obtain rfl := Option.some.inj ho'
    have e4 : aa.eval (.tmp 4) = .pointer (some ⟨b4, 0, none⟩) := hnn 4 rfl
    refine qz2 (v := .pointer (some ⟨b4, 0, none⟩)) (w' := V) ?_ (hK _ _ rfl P (fun j v' _ _ q => qzj j v' V V q (Or.inl rfl)))
    generalize aa.eval = ev at *
    go_simp
   | 1, ho' =>
    obtain rfl := Option.some.inj ho'
    exact qz11 25 (.tmp 84) rfl b4 0 (hd ⟨0, .data⟩ (by simp) rfl 84 rfl).2 [.int .i64 x, .int .i64 y, .int .i64 z, .int .i64 u] _ (qz5 RP P.1 (by omega) (by omega)) Try.underlying25 rfl qzt (hK _ _ rfl P (fun j v' _ _ q => qzj j v' V V q (Or.inl rfl)))
   | 2, ho' =>
    obtain rfl := Option.some.inj ho'
    exact qz11 56 (.tmp 5) rfl bh 0 (hnn 5 rfl) (hdC { g0 with ver := rv }) _ (qz5 H9 P.1 hy9 (by omega)) Try.underlying56 rfl (qz1 _) (hK _ _ rfl P (fun j v' _ _ q => qzj j v' V V q (Or.inl rfl)))
   | 3, ho' =>
    obtain rfl := Option.some.inj ho'
    exact wp_store_mid 25 (.tmp 2) (.tmp 85) rfl w.heap.size 0 #[.int .i64 x, .int .i64 y, .int .i64 z, .int .i64 u] (hnn 2 rfl) (hd ⟨1, .data⟩ (by simp) rfl 85 rfl).2 P.2 qzt (by simp [Value.oneCell']) (hK undef _ (World.rangeAt_setCells_same V w.heap.size 0 [.int .i64 x, .int .i64 y, .int .i64 z, .int .i64 u] P.2) ⟨P.1.trans (qz9 w.heap.size [.int .i64 x, .int .i64 y, .int .i64 z, .int .i64 u] 0 V), World.there_setCells P.2 _ _ _⟩ (fun j v' hj _ q => qzj j v' V _ q (Or.inr hj)))
   | n + 4, ho' => omega
  intro L9 vt wa _ P9 hG9
  have k2 : vt 2 = .agg (hdC { g0 with ver := rv }).toArray := hG9 2 (by decide)
  have k3 : wa.rangeAt w.heap.size 0 [.int .i64 x, .int .i64 y, .int .i64 z, .int .i64 u] := hG9 3 (by decide)
  obtain ⟨OA, TA⟩ := P9
  have TB := qz8 U9 OA (by omega) (by omega)
  have hO2 := qz9 (w.heap.size + 1) (hdC { g0 with ver := rv }) 0 wa
  have zA := OA.size
  have F1 := qz5 k3 hO2 (by omega) (by omega)
  have F2 := World.rangeAt_setCells_same wa (w.heap.size + 1) 0 (hdC { g0 with ver := rv }) TB
  have DB := (D9.only OA (by omega)).only hO2 (by omega)
  have CB := (C9.below (OA.below (by omega) (by have := D9.blk; omega))).below (hO2.below (by omega) (by have := D9.blk; omega))
  have OB := qz17 (qz17 OO9 OA (by omega)) hO2 (by omega)
  generalize hl9 : laid _ vt _ _ _ = A9
  simp only [List.drop_succ_cons, List.drop_zero]
  have q3 : A9.eval (.tmp 3) = .pointer (some ⟨w.heap.size + 1, 0, none⟩) := by rw [<- hl9]; rfl
  have q86 : A9.eval (.tmp 86) = .agg (hdC { g0 with ver := rv }).toArray := by rw [<- k2, <- hl9]; rfl
  have r2 : A9.tmps.getD 2 undef = .pointer (some ⟨w.heap.size, 0, none⟩) := by rw [<- hl9]; rfl
  have rd : A9.defers = [] := by rw [<- hl9]; rfl
  have r3 : A9.tmps.getD 3 undef = .pointer (some ⟨w.heap.size + 1, 0, none⟩) := by rw [<- hl9]; rfl
  refine wpList_store_mid rfl 56 (.tmp 3) (.tmp 86) rfl (w.heap.size + 1) 0 (hdC { g0 with ver := rv }).toArray q3 q86 TB (qzb _) (qzg _) ?_
  clear hl9
  go_wp2
  refine bodyPost_ret (v := .tuple #[.agg #[.int .i64 x, .int .i64 y, .int .i64 z, .int .i64 u], .agg (hdC { g0 with ver := rv }).toArray]) ?_ (by first | exact rd | simpa using rd) ⟨x, y, z, u, { g0 with ver := rv }, rfl, ⟨_, _, DB⟩, CB, OB⟩
  exact qz18 Try.results56 _ _ w.heap.size 0 (w.heap.size + 1) 0 (by first | exact r2 | simpa using r2) (by first | exact r3 | simpa using r3) [.int .i64 x, .int .i64 y, .int .i64 z, .int .i64 u] (hdC { g0 with ver := rv }) _ _ F1 Try.underlying25 rfl qzt F2 Try.underlying56 rfl (qz1 _)
 ·have z16 : w7.cell? ⟨bh, 16, none⟩ = some (.int .i64 g0.curr) := by simpa using H7 16 _ rfl
  have v16 : w7.frozen? ⟨bh, 16, none⟩ = false := by simpa using (S7 16 (by decide)).2
  go_upto_region 30 with fail
  clear z16 v16
  have hO9 : Only bh w7 (w7.setCell ⟨bh, 16, none⟩ (.int .i64 rn)) := (Only.refl bh w7).setCell (p := ⟨bh, 16, none⟩) (Or.inl rfl) _
  have H9 : (w7.setCell ⟨bh, 16, none⟩ (.int .i64 rn)).rangeAt bh 0 (hdC { g0 with curr := rn }) := qza H7 16 (by simp [hdC]) (.int .i64 rn)
  have T9 := qz8 T7 hO9 (by omega) (by omega)
  have U9 := qz8 U7 hO9 (by omega) (by omega)
  have R9 := qz5 R7 hO9 (by omega) (by omega)
  have D9 := D7.only hO9 (by omega)
  have C9 := C7.below (hO9.below (by omega) (by have := D7.blk; omega))
  have OO9 := qz17 OO7 hO9 (by omega)
  have hy9 := Nat.lt_of_lt_of_le hy7 hO9.size
  have hz9 := hO9.size
  clear hO9
  generalize w7.setCell ⟨bh, 16, none⟩ (.int .i64 rn) = w9 at *
  have RP : w9.rangeAt b4 0 [.int .i64 x, .int .i64 y, .int .i64 z, .int .i64 u] := fun j v hv => R9 j v (by match j, hv with | 0, h => exact h | 1, h => exact h | 2, h => exact h | 3, h => exact h)
  refine qz1m 4 (by kernel_rfl) (fun V => Only w.heap.size w9 V /\ V.there w.heap.size 0 4) ?j9x9 (qz88 b4 w.heap.size x y z u ({ g0 with curr := rn })) (by kernel_rfl) (by kernel_rfl) (by kernel_rfl) (by kernel_rfl) (by rfl) ?step9x9 ?final9x9
  case j9x9 => exact ⟨⟨rfl, rfl, rfl, Nat.le_refl _, fun _ _ _ => rfl⟩, qz6 (B := w9.heap.size) T9 ⟨rfl, rfl, rfl, Nat.le_refl _, fun _ _ => rfl⟩ (by omega)⟩
  case step9x9 =>
   intro i o hik ho' L aa V hLi hLk P hnn hd K hK
   match i, ho' with
   | 0, ho' =>
    obtain rfl := Option.some.inj ho'
    have e4 : aa.eval (.tmp 4) = .pointer (some ⟨b4, 0, none⟩) := hnn 4 rfl
    refine qz2 (v := .pointer (some ⟨b4, 0, none⟩)) (w' := V) ?_ (hK _ _ rfl P (fun j v' _ _ q => qzj j v' V V q (Or.inl rfl)))
    generalize aa.eval = ev at *
    go_simp
   | 1, ho' =>
    obtain rfl := Option.some.inj ho'
    exact qz11 25 (.tmp 84) rfl b4 0 (hd ⟨0, .data⟩ (by simp) rfl 84 rfl).2 [.int .i64 x, .int .i64 y, .int .i64 z, .int .i64 u] _ (qz5 RP P.1 (by omega) (by omega)) Try.underlying25 rfl qzt (hK _ _ rfl P (fun j v' _ _ q => qzj j v' V V q (Or.inl rfl)))
   | 2, ho' =>
    obtain rfl := Option.some.inj ho'
    exact qz11 56 (.tmp 5) rfl bh 0 (hnn 5 rfl) (hdC { g0 with curr := rn }) _ (qz5 H9 P.1 hy9 (by omega)) Try.underlying56 rfl (qz1 _) (hK _ _ rfl P (fun j v' _ _ q => qzj j v' V V q (Or.inl rfl)))
   | 3, ho' =>
    obtain rfl := Option.some.inj ho'
    exact wp_store_mid 25 (.tmp 2) (.tmp 85) rfl w.heap.size 0 #[.int .i64 x, .int .i64 y, .int .i64 z, .int .i64 u] (hnn 2 rfl) (hd ⟨1, .data⟩ (by simp) rfl 85 rfl).2 P.2 qzt (by simp [Value.oneCell']) (hK undef _ (World.rangeAt_setCells_same V w.heap.size 0 [.int .i64 x, .int .i64 y, .int .i64 z, .int .i64 u] P.2) ⟨P.1.trans (qz9 w.heap.size [.int .i64 x, .int .i64 y, .int .i64 z, .int .i64 u] 0 V), World.there_setCells P.2 _ _ _⟩ (fun j v' hj _ q => qzj j v' V _ q (Or.inr hj)))
   | n + 4, ho' => omega
  intro L9 vt wa _ P9 hG9
  have k2 : vt 2 = .agg (hdC { g0 with curr := rn }).toArray := hG9 2 (by decide)
  have k3 : wa.rangeAt w.heap.size 0 [.int .i64 x, .int .i64 y, .int .i64 z, .int .i64 u] := hG9 3 (by decide)
  obtain ⟨OA, TA⟩ := P9
  have TB := qz8 U9 OA (by omega) (by omega)
  have hO2 := qz9 (w.heap.size + 1) (hdC { g0 with curr := rn }) 0 wa
  have zA := OA.size
  have F1 := qz5 k3 hO2 (by omega) (by omega)
  have F2 := World.rangeAt_setCells_same wa (w.heap.size + 1) 0 (hdC { g0 with curr := rn }) TB
  have DB := (D9.only OA (by omega)).only hO2 (by omega)
  have CB := (C9.below (OA.below (by omega) (by have := D9.blk; omega))).below (hO2.below (by omega) (by have := D9.blk; omega))
  have OB := qz17 (qz17 OO9 OA (by omega)) hO2 (by omega)
  generalize hl9 : laid _ vt _ _ _ = A9
  simp only [List.drop_succ_cons, List.drop_zero]
  have q3 : A9.eval (.tmp 3) = .pointer (some ⟨w.heap.size + 1, 0, none⟩) := by rw [<- hl9]; rfl
  have q86 : A9.eval (.tmp 86) = .agg (hdC { g0 with curr := rn }).toArray := by rw [<- k2, <- hl9]; rfl
  have r2 : A9.tmps.getD 2 undef = .pointer (some ⟨w.heap.size, 0, none⟩) := by rw [<- hl9]; rfl
  have rd : A9.defers = [] := by rw [<- hl9]; rfl
  have r3 : A9.tmps.getD 3 undef = .pointer (some ⟨w.heap.size + 1, 0, none⟩) := by rw [<- hl9]; rfl
  refine wpList_store_mid rfl 56 (.tmp 3) (.tmp 86) rfl (w.heap.size + 1) 0 (hdC { g0 with curr := rn }).toArray q3 q86 TB (qzb _) (qzg _) ?_
  clear hl9
  go_wp2
  refine bodyPost_ret (v := .tuple #[.agg #[.int .i64 x, .int .i64 y, .int .i64 z, .int .i64 u], .agg (hdC { g0 with curr := rn }).toArray]) ?_ (by first | exact rd | simpa using rd) ⟨x, y, z, u, { g0 with curr := rn }, rfl, ⟨_, _, DB⟩, CB, OB⟩
  exact qz18 Try.results56 _ _ w.heap.size 0 (w.heap.size + 1) 0 (by first | exact r2 | simpa using r2) (by first | exact r3 | simpa using r3) [.int .i64 x, .int .i64 y, .int .i64 z, .int .i64 u] (hdC { g0 with curr := rn }) _ _ F1 Try.underlying25 rfl qzt F2 Try.underlying56 rfl (qz1 _)
 ·go_wp2_with fail
  refine (qz41 B b a len cap i7 h7 (-1) 8 w7 hB hlen D7 C7 (by omega) (by omega) (by omega)).mono ?_
  rintro e w8 ⟨rv, i8, h8, rfl, _, _, D8, C8, O8⟩
  have H8 := qz5 H7 O8 hy7 (by omega)
  have S8 := qz8 S7 O8 hy7 (by omega)
  have T8 := qz8 T7 O8 (by omega) (by omega)
  have U8 := qz8 U7 O8 (by omega) (by omega)
  have R8 := qz5 R7 O8 (by omega) (by omega)
  have OO8 := OO7.trans O8
  have hy8 := Nat.lt_of_lt_of_le hy7 O8.size
  have hz8 := OO8.size
  have hzq := O8.size
  clear D7 C7 H7 S7 T7 U7 R7 OO7 O8
  have z6 : w8.cell? ⟨bh, 6, none⟩ = some (.int .i64 g0.reply) := by simpa using H8 6 _ rfl
  have v6 : w8.frozen? ⟨bh, 6, none⟩ = false := by simpa using (S8 6 (by decide)).2
  go_upto_region 30 with fail
  clear z6 v6
  have hO9 : Only bh w8 (w8.setCell ⟨bh, 6, none⟩ (.int .i64 rv)) := (Only.refl bh w8).setCell (p := ⟨bh, 6, none⟩) (Or.inl rfl) _
  have H9 : (w8.setCell ⟨bh, 6, none⟩ (.int .i64 rv)).rangeAt bh 0 (hdC { g0 with reply := rv }) := qza H8 6 (by simp [hdC]) (.int .i64 rv)
  have T9 := qz8 T8 hO9 (by omega) (by omega)
  have U9 := qz8 U8 hO9 (by omega) (by omega)
  have R9 := qz5 R8 hO9 (by omega) (by omega)
  have D9 := D8.only hO9 (by omega)
  have C9 := C8.below (hO9.below (by omega) (by have := D8.blk; omega))
  have OO9 := qz17 OO8 hO9 (by omega)
  have hy9 := Nat.lt_of_lt_of_le hy8 hO9.size
  have hz9 := hO9.size
  clear hO9
  generalize w8.setCell ⟨bh, 6, none⟩ (.int .i64 rv) = w9 at *
  have RP : w9.rangeAt b4 0 [.int .i64 x, .int .i64 y, .int .i64 z, .int .i64 u] := fun j v hv => R9 j v (by match j, hv with | 0, h => exact h | 1, h => exact h | 2, h => exact h | 3, h => exact h)
  refine qz1m 4 (by kernel_rfl) (fun V => Only w.heap.size w9 V /\ V.there w.heap.size 0 4) ?j9x10 (qz88 b4 w.heap.size x y z u ({ g0 with reply := rv })) (by kernel_rfl) (by kernel_rfl) (by kernel_rfl) (by kernel_rfl) (by rfl) ?step9x10 ?final9x10
  case j9x10 => exact ⟨⟨rfl, rfl, rfl, Nat.le_refl _, fun _ _ _ => rfl⟩, qz6 (B := w9.heap.size) T9 ⟨rfl, rfl, rfl, Nat.le_refl _, fun _ _ => rfl⟩ (by omega)⟩
  case step9x10 =>
   intro i o hik ho' L aa V hLi hLk P hnn hd K hK
   match i, ho' with
   | 0, ho' =>
    obtain rfl := Option.some.inj ho'
    have e4 : aa.eval (.tmp 4) = .pointer (some ⟨b4, 0, none⟩) := hnn 4 rfl
    refine qz2 (v := .pointer (some ⟨b4, 0, none⟩)) (w' := V) ?_ (hK _ _ rfl P (fun j v' _ _ q => qzj j v' V V q (Or.inl rfl)))
    generalize aa.eval = ev at *
    go_simp
   | 1, ho' =>
    obtain rfl := Option.some.inj ho'
    exact qz11 25 (.tmp 84) rfl b4 0 (hd ⟨0, .data⟩ (by simp) rfl 84 rfl).2 [.int .i64 x, .int .i64 y, .int .i64 z, .int .i64 u] _ (qz5 RP P.1 (by omega) (by omega)) Try.underlying25 rfl qzt (hK _ _ rfl P (fun j v' _ _ q => qzj j v' V V q (Or.inl rfl)))
   | 2, ho' =>
    obtain rfl := Option.some.inj ho'
    exact qz11 56 (.tmp 5) rfl bh 0 (hnn 5 rfl) (hdC { g0 with reply := rv }) _ (qz5 H9 P.1 hy9 (by omega)) Try.underlying56 rfl (qz1 _) (hK _ _ rfl P (fun j v' _ _ q => qzj j v' V V q (Or.inl rfl)))
   | 3, ho' =>
    obtain rfl := Option.some.inj ho'
    exact wp_store_mid 25 (.tmp 2) (.tmp 85) rfl w.heap.size 0 #[.int .i64 x, .int .i64 y, .int .i64 z, .int .i64 u] (hnn 2 rfl) (hd ⟨1, .data⟩ (by simp) rfl 85 rfl).2 P.2 qzt (by simp [Value.oneCell']) (hK undef _ (World.rangeAt_setCells_same V w.heap.size 0 [.int .i64 x, .int .i64 y, .int .i64 z, .int .i64 u] P.2) ⟨P.1.trans (qz9 w.heap.size [.int .i64 x, .int .i64 y, .int .i64 z, .int .i64 u] 0 V), World.there_setCells P.2 _ _ _⟩ (fun j v' hj _ q => qzj j v' V _ q (Or.inr hj)))
   | n + 4, ho' => omega
  intro L9 vt wa _ P9 hG9
  have k2 : vt 2 = .agg (hdC { g0 with reply := rv }).toArray := hG9 2 (by decide)
  have k3 : wa.rangeAt w.heap.size 0 [.int .i64 x, .int .i64 y, .int .i64 z, .int .i64 u] := hG9 3 (by decide)
  obtain ⟨OA, TA⟩ := P9
  have TB := qz8 U9 OA (by omega) (by omega)
  have hO2 := qz9 (w.heap.size + 1) (hdC { g0 with reply := rv }) 0 wa
  have zA := OA.size
  have F1 := qz5 k3 hO2 (by omega) (by omega)
  have F2 := World.rangeAt_setCells_same wa (w.heap.size + 1) 0 (hdC { g0 with reply := rv }) TB
  have DB := (D9.only OA (by omega)).only hO2 (by omega)
  have CB := (C9.below (OA.below (by omega) (by have := D9.blk; omega))).below (hO2.below (by omega) (by have := D9.blk; omega))
  have OB := qz17 (qz17 OO9 OA (by omega)) hO2 (by omega)
  generalize hl9 : laid _ vt _ _ _ = A9
  simp only [List.drop_succ_cons, List.drop_zero]
  have q3 : A9.eval (.tmp 3) = .pointer (some ⟨w.heap.size + 1, 0, none⟩) := by rw [<- hl9]; rfl
  have q86 : A9.eval (.tmp 86) = .agg (hdC { g0 with reply := rv }).toArray := by rw [<- k2, <- hl9]; rfl
  have r2 : A9.tmps.getD 2 undef = .pointer (some ⟨w.heap.size, 0, none⟩) := by rw [<- hl9]; rfl
  have rd : A9.defers = [] := by rw [<- hl9]; rfl
  have r3 : A9.tmps.getD 3 undef = .pointer (some ⟨w.heap.size + 1, 0, none⟩) := by rw [<- hl9]; rfl
  refine wpList_store_mid rfl 56 (.tmp 3) (.tmp 86) rfl (w.heap.size + 1) 0 (hdC { g0 with reply := rv }).toArray q3 q86 TB (qzb _) (qzg _) ?_
  clear hl9
  go_wp2
  refine bodyPost_ret (v := .tuple #[.agg #[.int .i64 x, .int .i64 y, .int .i64 z, .int .i64 u], .agg (hdC { g0 with reply := rv }).toArray]) ?_ (by first | exact rd | simpa using rd) ⟨x, y, z, u, { g0 with reply := rv }, rfl, ⟨_, _, DB⟩, CB, OB⟩
  exact qz18 Try.results56 _ _ w.heap.size 0 (w.heap.size + 1) 0 (by first | exact r2 | simpa using r2) (by first | exact r3 | simpa using r3) [.int .i64 x, .int .i64 y, .int .i64 z, .int .i64 u] (hdC { g0 with reply := rv }) _ _ F1 Try.underlying25 rfl qzt F2 Try.underlying56 rfl (qz1 _)
 ·go_wp2_with fail
  refine (qz4g B b a len cap i7 h7 1000000 w7 hB hlen D7 C7 (by omega) (by omega)).mono ?_
  rintro e w8 ⟨rv, i8, h8, rfl, D8, C8, O8⟩
  have H8 := qz5 H7 O8 hy7 (by omega)
  have S8 := qz8 S7 O8 hy7 (by omega)
  have T8 := qz8 T7 O8 (by omega) (by omega)
  have U8 := qz8 U7 O8 (by omega) (by omega)
  have R8 := qz5 R7 O8 (by omega) (by omega)
  have OO8 := OO7.trans O8
  have hy8 := Nat.lt_of_lt_of_le hy7 O8.size
  have hz8 := OO8.size
  have hzq := O8.size
  clear D7 C7 H7 S7 T7 U7 R7 OO7 O8
  have z7 : w8.cell? ⟨bh, 7, none⟩ = some (.int .i64 g0.out) := by simpa using H8 7 _ rfl
  have v7 : w8.frozen? ⟨bh, 7, none⟩ = false := by simpa using (S8 7 (by decide)).2
  go_upto_region 30 with fail
  clear z7 v7
  have hO9 : Only bh w8 (w8.setCell ⟨bh, 7, none⟩ (.int .i64 rv)) := (Only.refl bh w8).setCell (p := ⟨bh, 7, none⟩) (Or.inl rfl) _
  have H9 : (w8.setCell ⟨bh, 7, none⟩ (.int .i64 rv)).rangeAt bh 0 (hdC { g0 with out := rv }) := qza H8 7 (by simp [hdC]) (.int .i64 rv)
  have T9 := qz8 T8 hO9 (by omega) (by omega)
  have U9 := qz8 U8 hO9 (by omega) (by omega)
  have R9 := qz5 R8 hO9 (by omega) (by omega)
  have D9 := D8.only hO9 (by omega)
  have C9 := C8.below (hO9.below (by omega) (by have := D8.blk; omega))
  have OO9 := qz17 OO8 hO9 (by omega)
  have hy9 := Nat.lt_of_lt_of_le hy8 hO9.size
  have hz9 := hO9.size
  clear hO9
  generalize w8.setCell ⟨bh, 7, none⟩ (.int .i64 rv) = w9 at *
  have RP : w9.rangeAt b4 0 [.int .i64 x, .int .i64 y, .int .i64 z, .int .i64 u] := fun j v hv => R9 j v (by match j, hv with | 0, h => exact h | 1, h => exact h | 2, h => exact h | 3, h => exact h)
  refine qz1m 4 (by kernel_rfl) (fun V => Only w.heap.size w9 V /\ V.there w.heap.size 0 4) ?j9x11 (qz88 b4 w.heap.size x y z u ({ g0 with out := rv })) (by kernel_rfl) (by kernel_rfl) (by kernel_rfl) (by kernel_rfl) (by rfl) ?step9x11 ?final9x11
  case j9x11 => exact ⟨⟨rfl, rfl, rfl, Nat.le_refl _, fun _ _ _ => rfl⟩, qz6 (B := w9.heap.size) T9 ⟨rfl, rfl, rfl, Nat.le_refl _, fun _ _ => rfl⟩ (by omega)⟩
  case step9x11 =>
   intro i o hik ho' L aa V hLi hLk P hnn hd K hK
   match i, ho' with
   | 0, ho' =>
    obtain rfl := Option.some.inj ho'
    have e4 : aa.eval (.tmp 4) = .pointer (some ⟨b4, 0, none⟩) := hnn 4 rfl
    refine qz2 (v := .pointer (some ⟨b4, 0, none⟩)) (w' := V) ?_ (hK _ _ rfl P (fun j v' _ _ q => qzj j v' V V q (Or.inl rfl)))
    generalize aa.eval = ev at *
    go_simp
   | 1, ho' =>
    obtain rfl := Option.some.inj ho'
    exact qz11 25 (.tmp 84) rfl b4 0 (hd ⟨0, .data⟩ (by simp) rfl 84 rfl).2 [.int .i64 x, .int .i64 y, .int .i64 z, .int .i64 u] _ (qz5 RP P.1 (by omega) (by omega)) Try.underlying25 rfl qzt (hK _ _ rfl P (fun j v' _ _ q => qzj j v' V V q (Or.inl rfl)))
   | 2, ho' =>
    obtain rfl := Option.some.inj ho'
    exact qz11 56 (.tmp 5) rfl bh 0 (hnn 5 rfl) (hdC { g0 with out := rv }) _ (qz5 H9 P.1 hy9 (by omega)) Try.underlying56 rfl (qz1 _) (hK _ _ rfl P (fun j v' _ _ q => qzj j v' V V q (Or.inl rfl)))
   | 3, ho' =>
    obtain rfl := Option.some.inj ho'
    exact wp_store_mid 25 (.tmp 2) (.tmp 85) rfl w.heap.size 0 #[.int .i64 x, .int .i64 y, .int .i64 z, .int .i64 u] (hnn 2 rfl) (hd ⟨1, .data⟩ (by simp) rfl 85 rfl).2 P.2 qzt (by simp [Value.oneCell']) (hK undef _ (World.rangeAt_setCells_same V w.heap.size 0 [.int .i64 x, .int .i64 y, .int .i64 z, .int .i64 u] P.2) ⟨P.1.trans (qz9 w.heap.size [.int .i64 x, .int .i64 y, .int .i64 z, .int .i64 u] 0 V), World.there_setCells P.2 _ _ _⟩ (fun j v' hj _ q => qzj j v' V _ q (Or.inr hj)))
   | n + 4, ho' => omega
  intro L9 vt wa _ P9 hG9
  have k2 : vt 2 = .agg (hdC { g0 with out := rv }).toArray := hG9 2 (by decide)
  have k3 : wa.rangeAt w.heap.size 0 [.int .i64 x, .int .i64 y, .int .i64 z, .int .i64 u] := hG9 3 (by decide)
  obtain ⟨OA, TA⟩ := P9
  have TB := qz8 U9 OA (by omega) (by omega)
  have hO2 := qz9 (w.heap.size + 1) (hdC { g0 with out := rv }) 0 wa
  have zA := OA.size
  have F1 := qz5 k3 hO2 (by omega) (by omega)
  have F2 := World.rangeAt_setCells_same wa (w.heap.size + 1) 0 (hdC { g0 with out := rv }) TB
  have DB := (D9.only OA (by omega)).only hO2 (by omega)
  have CB := (C9.below (OA.below (by omega) (by have := D9.blk; omega))).below (hO2.below (by omega) (by have := D9.blk; omega))
  have OB := qz17 (qz17 OO9 OA (by omega)) hO2 (by omega)
  generalize hl9 : laid _ vt _ _ _ = A9
  simp only [List.drop_succ_cons, List.drop_zero]
  have q3 : A9.eval (.tmp 3) = .pointer (some ⟨w.heap.size + 1, 0, none⟩) := by rw [<- hl9]; rfl
  have q86 : A9.eval (.tmp 86) = .agg (hdC { g0 with out := rv }).toArray := by rw [<- k2, <- hl9]; rfl
  have r2 : A9.tmps.getD 2 undef = .pointer (some ⟨w.heap.size, 0, none⟩) := by rw [<- hl9]; rfl
  have rd : A9.defers = [] := by rw [<- hl9]; rfl
  have r3 : A9.tmps.getD 3 undef = .pointer (some ⟨w.heap.size + 1, 0, none⟩) := by rw [<- hl9]; rfl
  refine wpList_store_mid rfl 56 (.tmp 3) (.tmp 86) rfl (w.heap.size + 1) 0 (hdC { g0 with out := rv }).toArray q3 q86 TB (qzb _) (qzg _) ?_
  clear hl9
  go_wp2
  refine bodyPost_ret (v := .tuple #[.agg #[.int .i64 x, .int .i64 y, .int .i64 z, .int .i64 u], .agg (hdC { g0 with out := rv }).toArray]) ?_ (by first | exact rd | simpa using rd) ⟨x, y, z, u, { g0 with out := rv }, rfl, ⟨_, _, DB⟩, CB, OB⟩
  exact qz18 Try.results56 _ _ w.heap.size 0 (w.heap.size + 1) 0 (by first | exact r2 | simpa using r2) (by first | exact r3 | simpa using r3) [.int .i64 x, .int .i64 y, .int .i64 z, .int .i64 u] (hdC { g0 with out := rv }) _ _ F1 Try.underlying25 rfl qzt F2 Try.underlying56 rfl (qz1 _)
 ·go_wp2_with fail
  refine (qz4g B b a len cap i7 h7 60 w7 hB hlen D7 C7 (by omega) (by omega)).mono ?_
  rintro e w8 ⟨rv, i8, h8, rfl, D8, C8, O8⟩
  have H8 := qz5 H7 O8 hy7 (by omega)
  have S8 := qz8 S7 O8 hy7 (by omega)
  have T8 := qz8 T7 O8 (by omega) (by omega)
  have U8 := qz8 U7 O8 (by omega) (by omega)
  have R8 := qz5 R7 O8 (by omega) (by omega)
  have OO8 := OO7.trans O8
  have hy8 := Nat.lt_of_lt_of_le hy7 O8.size
  have hz8 := OO8.size
  have hzq := O8.size
  clear D7 C7 H7 S7 T7 U7 R7 OO7 O8
  have z20 : w8.cell? ⟨bh, 20, none⟩ = some (.int .i64 g0.index) := by simpa using H8 20 _ rfl
  have v20 : w8.frozen? ⟨bh, 20, none⟩ = false := by simpa using (S8 20 (by decide)).2
  go_upto_region 30 with fail
  clear z20 v20
  have hO9 : Only bh w8 (w8.setCell ⟨bh, 20, none⟩ (.int .i64 rv)) := (Only.refl bh w8).setCell (p := ⟨bh, 20, none⟩) (Or.inl rfl) _
  have H9 : (w8.setCell ⟨bh, 20, none⟩ (.int .i64 rv)).rangeAt bh 0 (hdC { g0 with index := rv }) := qza H8 20 (by simp [hdC]) (.int .i64 rv)
  have T9 := qz8 T8 hO9 (by omega) (by omega)
  have U9 := qz8 U8 hO9 (by omega) (by omega)
  have R9 := qz5 R8 hO9 (by omega) (by omega)
  have D9 := D8.only hO9 (by omega)
  have C9 := C8.below (hO9.below (by omega) (by have := D8.blk; omega))
  have OO9 := qz17 OO8 hO9 (by omega)
  have hy9 := Nat.lt_of_lt_of_le hy8 hO9.size
  have hz9 := hO9.size
  clear hO9
  generalize w8.setCell ⟨bh, 20, none⟩ (.int .i64 rv) = w9 at *
  have RP : w9.rangeAt b4 0 [.int .i64 x, .int .i64 y, .int .i64 z, .int .i64 u] := fun j v hv => R9 j v (by match j, hv with | 0, h => exact h | 1, h => exact h | 2, h => exact h | 3, h => exact h)
  refine qz1m 4 (by kernel_rfl) (fun V => Only w.heap.size w9 V /\ V.there w.heap.size 0 4) ?j9x12 (qz88 b4 w.heap.size x y z u ({ g0 with index := rv })) (by kernel_rfl) (by kernel_rfl) (by kernel_rfl) (by kernel_rfl) (by rfl) ?step9x12 ?final9x12
  case j9x12 => exact ⟨⟨rfl, rfl, rfl, Nat.le_refl _, fun _ _ _ => rfl⟩, qz6 (B := w9.heap.size) T9 ⟨rfl, rfl, rfl, Nat.le_refl _, fun _ _ => rfl⟩ (by omega)⟩
  case step9x12 =>
   intro i o hik ho' L aa V hLi hLk P hnn hd K hK
   match i, ho' with
   | 0, ho' =>
    obtain rfl := Option.some.inj ho'
    have e4 : aa.eval (.tmp 4) = .pointer (some ⟨b4, 0, none⟩) := hnn 4 rfl
    refine qz2 (v := .pointer (some ⟨b4, 0, none⟩)) (w' := V) ?_ (hK _ _ rfl P (fun j v' _ _ q => qzj j v' V V q (Or.inl rfl)))
    generalize aa.eval = ev at *
    go_simp
   | 1, ho' =>
    obtain rfl := Option.some.inj ho'
    exact qz11 25 (.tmp 84) rfl b4 0 (hd ⟨0, .data⟩ (by simp) rfl 84 rfl).2 [.int .i64 x, .int .i64 y, .int .i64 z, .int .i64 u] _ (qz5 RP P.1 (by omega) (by omega)) Try.underlying25 rfl qzt (hK _ _ rfl P (fun j v' _ _ q => qzj j v' V V q (Or.inl rfl)))
   | 2, ho' =>
    obtain rfl := Option.some.inj ho'
    exact qz11 56 (.tmp 5) rfl bh 0 (hnn 5 rfl) (hdC { g0 with index := rv }) _ (qz5 H9 P.1 hy9 (by omega)) Try.underlying56 rfl (qz1 _) (hK _ _ rfl P (fun j v' _ _ q => qzj j v' V V q (Or.inl rfl)))
   | 3, ho' =>
    obtain rfl := Option.some.inj ho'
    exact wp_store_mid 25 (.tmp 2) (.tmp 85) rfl w.heap.size 0 #[.int .i64 x, .int .i64 y, .int .i64 z, .int .i64 u] (hnn 2 rfl) (hd ⟨1, .data⟩ (by simp) rfl 85 rfl).2 P.2 qzt (by simp [Value.oneCell']) (hK undef _ (World.rangeAt_setCells_same V w.heap.size 0 [.int .i64 x, .int .i64 y, .int .i64 z, .int .i64 u] P.2) ⟨P.1.trans (qz9 w.heap.size [.int .i64 x, .int .i64 y, .int .i64 z, .int .i64 u] 0 V), World.there_setCells P.2 _ _ _⟩ (fun j v' hj _ q => qzj j v' V _ q (Or.inr hj)))
   | n + 4, ho' => omega
  intro L9 vt wa _ P9 hG9
  have k2 : vt 2 = .agg (hdC { g0 with index := rv }).toArray := hG9 2 (by decide)
  have k3 : wa.rangeAt w.heap.size 0 [.int .i64 x, .int .i64 y, .int .i64 z, .int .i64 u] := hG9 3 (by decide)
  obtain ⟨OA, TA⟩ := P9
  have TB := qz8 U9 OA (by omega) (by omega)
  have hO2 := qz9 (w.heap.size + 1) (hdC { g0 with index := rv }) 0 wa
  have zA := OA.size
  have F1 := qz5 k3 hO2 (by omega) (by omega)
  have F2 := World.rangeAt_setCells_same wa (w.heap.size + 1) 0 (hdC { g0 with index := rv }) TB
  have DB := (D9.only OA (by omega)).only hO2 (by omega)
  have CB := (C9.below (OA.below (by omega) (by have := D9.blk; omega))).below (hO2.below (by omega) (by have := D9.blk; omega))
  have OB := qz17 (qz17 OO9 OA (by omega)) hO2 (by omega)
  generalize hl9 : laid _ vt _ _ _ = A9
  simp only [List.drop_succ_cons, List.drop_zero]
  have q3 : A9.eval (.tmp 3) = .pointer (some ⟨w.heap.size + 1, 0, none⟩) := by rw [<- hl9]; rfl
  have q86 : A9.eval (.tmp 86) = .agg (hdC { g0 with index := rv }).toArray := by rw [<- k2, <- hl9]; rfl
  have r2 : A9.tmps.getD 2 undef = .pointer (some ⟨w.heap.size, 0, none⟩) := by rw [<- hl9]; rfl
  have rd : A9.defers = [] := by rw [<- hl9]; rfl
  have r3 : A9.tmps.getD 3 undef = .pointer (some ⟨w.heap.size + 1, 0, none⟩) := by rw [<- hl9]; rfl
  refine wpList_store_mid rfl 56 (.tmp 3) (.tmp 86) rfl (w.heap.size + 1) 0 (hdC { g0 with index := rv }).toArray q3 q86 TB (qzb _) (qzg _) ?_
  clear hl9
  go_wp2
  refine bodyPost_ret (v := .tuple #[.agg #[.int .i64 x, .int .i64 y, .int .i64 z, .int .i64 u], .agg (hdC { g0 with index := rv }).toArray]) ?_ (by first | exact rd | simpa using rd) ⟨x, y, z, u, { g0 with index := rv }, rfl, ⟨_, _, DB⟩, CB, OB⟩
  exact qz18 Try.results56 _ _ w.heap.size 0 (w.heap.size + 1) 0 (by first | exact r2 | simpa using r2) (by first | exact r3 | simpa using r3) [.int .i64 x, .int .i64 y, .int .i64 z, .int .i64 u] (hdC { g0 with index := rv }) _ _ F1 Try.underlying25 rfl qzt F2 Try.underlying56 rfl (qz1 _)
 ·go_wp2_with fail
  refine (qz4g B b a len cap i7 h7 20000 w7 hB hlen D7 C7 (by omega) (by omega)).mono ?_
  rintro e w8 ⟨rv, i8, h8, rfl, D8, C8, O8⟩
  have H8 := qz5 H7 O8 hy7 (by omega)
  have S8 := qz8 S7 O8 hy7 (by omega)
  have T8 := qz8 T7 O8 (by omega) (by omega)
  have U8 := qz8 U7 O8 (by omega) (by omega)
  have R8 := qz5 R7 O8 (by omega) (by omega)
  have OO8 := OO7.trans O8
  have hy8 := Nat.lt_of_lt_of_le hy7 O8.size
  have hz8 := OO8.size
  have hzq := O8.size
  clear D7 C7 H7 S7 T7 U7 R7 OO7 O8
  have z13 : w8.cell? ⟨bh, 13, none⟩ = some (.int .i64 g0.camAt) := by simpa using H8 13 _ rfl
  have v13 : w8.frozen? ⟨bh, 13, none⟩ = false := by simpa using (S8 13 (by decide)).2
  go_upto_region 30 with fail
  clear z13 v13
  have hO9 : Only bh w8 (w8.setCell ⟨bh, 13, none⟩ (.int .i64 rv)) := (Only.refl bh w8).setCell (p := ⟨bh, 13, none⟩) (Or.inl rfl) _
  have H9 : (w8.setCell ⟨bh, 13, none⟩ (.int .i64 rv)).rangeAt bh 0 (hdC { g0 with camAt := rv }) := qza H8 13 (by simp [hdC]) (.int .i64 rv)
  have T9 := qz8 T8 hO9 (by omega) (by omega)
  have U9 := qz8 U8 hO9 (by omega) (by omega)
  have R9 := qz5 R8 hO9 (by omega) (by omega)
  have D9 := D8.only hO9 (by omega)
  have C9 := C8.below (hO9.below (by omega) (by have := D8.blk; omega))
  have OO9 := qz17 OO8 hO9 (by omega)
  have hy9 := Nat.lt_of_lt_of_le hy8 hO9.size
  have hz9 := hO9.size
  clear hO9
  generalize w8.setCell ⟨bh, 13, none⟩ (.int .i64 rv) = w9 at *
  have RP : w9.rangeAt b4 0 [.int .i64 x, .int .i64 y, .int .i64 z, .int .i64 u] := fun j v hv => R9 j v (by match j, hv with | 0, h => exact h | 1, h => exact h | 2, h => exact h | 3, h => exact h)
  refine qz1m 4 (by kernel_rfl) (fun V => Only w.heap.size w9 V /\ V.there w.heap.size 0 4) ?j9x13 (qz88 b4 w.heap.size x y z u ({ g0 with camAt := rv })) (by kernel_rfl) (by kernel_rfl) (by kernel_rfl) (by kernel_rfl) (by rfl) ?step9x13 ?final9x13
  case j9x13 => exact ⟨⟨rfl, rfl, rfl, Nat.le_refl _, fun _ _ _ => rfl⟩, qz6 (B := w9.heap.size) T9 ⟨rfl, rfl, rfl, Nat.le_refl _, fun _ _ => rfl⟩ (by omega)⟩
  case step9x13 =>
   intro i o hik ho' L aa V hLi hLk P hnn hd K hK
   match i, ho' with
   | 0, ho' =>
    obtain rfl := Option.some.inj ho'
    have e4 : aa.eval (.tmp 4) = .pointer (some ⟨b4, 0, none⟩) := hnn 4 rfl
    refine qz2 (v := .pointer (some ⟨b4, 0, none⟩)) (w' := V) ?_ (hK _ _ rfl P (fun j v' _ _ q => qzj j v' V V q (Or.inl rfl)))
    generalize aa.eval = ev at *
    go_simp
   | 1, ho' =>
    obtain rfl := Option.some.inj ho'
    exact qz11 25 (.tmp 84) rfl b4 0 (hd ⟨0, .data⟩ (by simp) rfl 84 rfl).2 [.int .i64 x, .int .i64 y, .int .i64 z, .int .i64 u] _ (qz5 RP P.1 (by omega) (by omega)) Try.underlying25 rfl qzt (hK _ _ rfl P (fun j v' _ _ q => qzj j v' V V q (Or.inl rfl)))
   | 2, ho' =>
    obtain rfl := Option.some.inj ho'
    exact qz11 56 (.tmp 5) rfl bh 0 (hnn 5 rfl) (hdC { g0 with camAt := rv }) _ (qz5 H9 P.1 hy9 (by omega)) Try.underlying56 rfl (qz1 _) (hK _ _ rfl P (fun j v' _ _ q => qzj j v' V V q (Or.inl rfl)))
   | 3, ho' =>
    obtain rfl := Option.some.inj ho'
    exact wp_store_mid 25 (.tmp 2) (.tmp 85) rfl w.heap.size 0 #[.int .i64 x, .int .i64 y, .int .i64 z, .int .i64 u] (hnn 2 rfl) (hd ⟨1, .data⟩ (by simp) rfl 85 rfl).2 P.2 qzt (by simp [Value.oneCell']) (hK undef _ (World.rangeAt_setCells_same V w.heap.size 0 [.int .i64 x, .int .i64 y, .int .i64 z, .int .i64 u] P.2) ⟨P.1.trans (qz9 w.heap.size [.int .i64 x, .int .i64 y, .int .i64 z, .int .i64 u] 0 V), World.there_setCells P.2 _ _ _⟩ (fun j v' hj _ q => qzj j v' V _ q (Or.inr hj)))
   | n + 4, ho' => omega
  intro L9 vt wa _ P9 hG9
  have k2 : vt 2 = .agg (hdC { g0 with camAt := rv }).toArray := hG9 2 (by decide)
  have k3 : wa.rangeAt w.heap.size 0 [.int .i64 x, .int .i64 y, .int .i64 z, .int .i64 u] := hG9 3 (by decide)
  obtain ⟨OA, TA⟩ := P9
  have TB := qz8 U9 OA (by omega) (by omega)
  have hO2 := qz9 (w.heap.size + 1) (hdC { g0 with camAt := rv }) 0 wa
  have zA := OA.size
  have F1 := qz5 k3 hO2 (by omega) (by omega)
  have F2 := World.rangeAt_setCells_same wa (w.heap.size + 1) 0 (hdC { g0 with camAt := rv }) TB
  have DB := (D9.only OA (by omega)).only hO2 (by omega)
  have CB := (C9.below (OA.below (by omega) (by have := D9.blk; omega))).below (hO2.below (by omega) (by have := D9.blk; omega))
  have OB := qz17 (qz17 OO9 OA (by omega)) hO2 (by omega)
  generalize hl9 : laid _ vt _ _ _ = A9
  simp only [List.drop_succ_cons, List.drop_zero]
  have q3 : A9.eval (.tmp 3) = .pointer (some ⟨w.heap.size + 1, 0, none⟩) := by rw [<- hl9]; rfl
  have q86 : A9.eval (.tmp 86) = .agg (hdC { g0 with camAt := rv }).toArray := by rw [<- k2, <- hl9]; rfl
  have r2 : A9.tmps.getD 2 undef = .pointer (some ⟨w.heap.size, 0, none⟩) := by rw [<- hl9]; rfl
  have rd : A9.defers = [] := by rw [<- hl9]; rfl
  have r3 : A9.tmps.getD 3 undef = .pointer (some ⟨w.heap.size + 1, 0, none⟩) := by rw [<- hl9]; rfl
  refine wpList_store_mid rfl 56 (.tmp 3) (.tmp 86) rfl (w.heap.size + 1) 0 (hdC { g0 with camAt := rv }).toArray q3 q86 TB (qzb _) (qzg _) ?_
  clear hl9
  go_wp2
  refine bodyPost_ret (v := .tuple #[.agg #[.int .i64 x, .int .i64 y, .int .i64 z, .int .i64 u], .agg (hdC { g0 with camAt := rv }).toArray]) ?_ (by first | exact rd | simpa using rd) ⟨x, y, z, u, { g0 with camAt := rv }, rfl, ⟨_, _, DB⟩, CB, OB⟩
  exact qz18 Try.results56 _ _ w.heap.size 0 (w.heap.size + 1) 0 (by first | exact r2 | simpa using r2) (by first | exact r3 | simpa using r3) [.int .i64 x, .int .i64 y, .int .i64 z, .int .i64 u] (hdC { g0 with camAt := rv }) _ _ F1 Try.underlying25 rfl qzt F2 Try.underlying56 rfl (qz1 _)
end
end Go.Proofs.Ythjkdnlmopafkaa
