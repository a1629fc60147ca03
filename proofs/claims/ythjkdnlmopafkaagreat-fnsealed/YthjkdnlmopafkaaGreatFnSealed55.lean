/-
  One step of a stamp changes the list in no way but that one version that was not stamped is: at every list of bytes the law of stamping returns true and leaves its argument as it was. No condition.
-/
import Derived.Test.YthjkdnlmopafkaaGreatFnSealed00
import Derived.Test.YthjkdnlmopafkaaGreatFnSealed02
import Derived.Test.YthjkdnlmopafkaaGreatFnSealed40
import Derived.Test.YthjkdnlmopafkaaGreatFnSealed50
import Derived.Test.YthjkdnlmopafkaaGreatFnSealed51
import Derived.Test.YthjkdnlmopafkaaGreatFnSealed53
import Derived.Test.YthjkdnlmopafkaaGreatFnSealed54
namespace Go.Proofs.YthjkdnlmopafkaaGreat
open Go.ChangeShapes Go.WideShapes Go.ChangeAt Go.RowKit
set_option maxRecDepth 100000
set_option maxHeartbeats 16000000
set_option linter.unusedVariables false
set_option linter.unusedSimpArgs false
set_option linter.unnecessarySimpa false
set_option linter.unusedSectionVars false
section
open Go.ChangeShapes Go.WideShapes Go.ChangeAt Go.RowKit Go.Sort
attribute [local go_sem ↓] Go.wp_at_zero Go.wp_at_succ
theorem qze0 {H : Type} {enc : TypeId × Value -> H} {W : World} {r : Reach} {b0 base : Nat} {spare : Nat -> Bool} {held : Bool} {v : Value} {d : DataW H} {p : List MemPlace} (hv : Value.okWide Tryz.prog W r b0 22 v) (h : DataW.Trod enc Tryz.prog W base spare held 22 v d p) :
  ∃ a len cap, v = .slice a len cap /\ qz1p W.heap.size W a len := by
 obtain ⟨a, len, cap, rfl⟩ := okWide_slice Tryz.underlying22 hv
 obtain ⟨fuel, hf⟩ := h
 refine ⟨a, len, cap, rfl, ?_⟩
 rcases open_ints Tryz.underlying22 Tryz.underlying5 (by kernel_rfl) hf with ⟨hcs, _⟩ | ⟨x, l, c, zs, hcs, _, hl, hm, hz, _, hcell, hwz⟩
 ·simp [Value.cells] at hcs
  obtain ⟨rfl, rfl, rfl⟩ := hcs
  intro j hj
  omega
 ·simp [Value.cells] at hcs
  obtain ⟨rfl, rfl, rfl⟩ := hcs
  intro j hj
  have hj2 : j < zs.length := by
   rw [hz]
   split <;> omega
  have hc := hcell j hj2
  obtain ⟨bb, off, spot⟩ := x
  have hspot : spot = none := by simpa [Addr.add] using World.cell?_spot (hcell 0 (by omega))
  subst hspot
  rw [Addr.add_mid] at hc
  have hw := hwz (zs.getD j 0) (by rw [List.getD_eq_getElem?_getD, List.getElem?_eq_getElem hj2]; exact List.getElem_mem hj2)
  have hb := bounds_u8 hw
  exact ⟨bb, off, zs.getD j 0, rfl, World.block_lt_of_cell? W _ hc, hc, hb.1, hb.2⟩
theorem qzes {A A9 : Ar} {h : Hd} {d : Dd} (S : qzaq A A9 h d) : A9.vers.length = Q7h /\ ∃ c : Nat -> Nat, c 0 = 0 /\ (∀ i, c i <= 1) /\ (c Q7h = 1 ∨ (c Q7h = 0 /\ d = qz21)) /\ (∀ i (hi : i < Q7h) (h9 : i < A9.vers.length), ((A9.vers[i].stamp = A.vers[i].stamp /\ c (i + 1) = c i) ∨ (A9.vers[i].stamp ≠ A.vers[i].stamp /\ c i = 0 /\ c (i + 1) = 1 /\ A.vers[i].stamp = -1 /\ 0 <= A9.vers[i].stamp /\ A9.vers[i].stamp <= Q7m /\ h.at_ = 5 /\ d.kind = A9.vers[i].kind)) /\ ({ A9.vers[i] with stamp := A.vers[i].stamp } : Vr) = A.vers[i]) := by
 rcases S with ⟨e, rfl⟩ | ⟨p, hp, s, e, e1, s0, s1, e5, ek⟩
 ·refine ⟨by rw [e], fun _ => 0, rfl, fun _ => Nat.zero_le 1, Or.inr ⟨rfl, rfl⟩, fun i hi h9 => ?_⟩
  have e9 : A9.vers[i] = A.vers[i] := by simp [e]
  exact ⟨Or.inl ⟨by rw [e9], rfl⟩, by rw [e9]⟩
 ·refine ⟨by rw [e]; simp, fun i => if p < i then 1 else 0, by simp, fun i => by show (if p < i then 1 else 0) <= 1; split <;> omega, Or.inl (by show (if p < A.vers.length then 1 else 0) = 1; rw [if_pos hp]), fun i hi h9 => ?_⟩
  by_cases hip : i = p
  ·subst hip
   have e9 : A9.vers[i] = { A.vers[i] with stamp := s } := by simp [e]
   refine ⟨Or.inr ⟨?_, by show (if i < i then 1 else 0) = 0; rw [if_neg (by omega)], by show (if i < i + 1 then 1 else 0) = 1; rw [if_pos (by omega)], e1, ?_, ?_, e5, ?_⟩, ?_⟩
   ·rw [e9, e1]; show s ≠ -1; omega
   ·rw [e9]; exact s0
   ·rw [e9]; exact s1
   ·rw [e9]; exact ek
   ·rw [e9]
  ·have e9 : A9.vers[i] = A.vers[i] := by simp [e, List.getElem_set, Ne.symm hip]
   refine ⟨Or.inl ⟨by rw [e9], ?_⟩, by rw [e9]⟩
   show (if p < i + 1 then 1 else 0) = (if p < i then 1 else 0)
   by_cases q : p < i
   ·rw [if_pos q, if_pos (by omega)]
   ·rw [if_neg q, if_neg (by omega)]
theorem qza7 (a : Option Addr) (len cap : Nat) (w : World) (C : qz1p Q7b w a len) :
  Calls Tryz.prog 4 #[.slice a len cap] w fun e w' => e = .returned (.bool true) /\ Below Q7b w w' := by
 by_cases hbig : (4096 : Int) < (len : Int)
 ·go_enter Tryz.func4, Tryz.ntmps4
  go_wp2_with (go_at_call 5; refine (qzfm _ _ _ _).mono ?_; rintro e w' ⟨rfl, rfl⟩)
  go_ret
  exact ⟨rfl, Q7g _ _⟩
 have hlen : len <= 4096 := by omega
 have hbf : decide ((4096 : Int) < (len : Int)) = false := by simpa using hbig
 go_enter Tryz.func4, Tryz.ntmps4
 go_wp2_with fail
 refine (qzfm _ _ _ _).mono ?_
 rintro e w0 ⟨rfl, hw⟩
 obtain rfl := hw.symm
 rw [hbf]
 go_wp2_with fail
 refine (qz79 a len cap w hlen C).mono ?_
 rintro e w1 ⟨x, y, z, u, A, a0, a1, a2, a3, c0, c1, c2, c3, k, hd, clk, rfl, hAs, hx, hnl, hvl, I1, far1, K1⟩
 have T1 := Q80 (Q80 (qza w1 Q4o 28 4 (by decide)) (.cells Q0h 33)) (.cells Q00 53)
 have T2 := Q80 (qza (w1.alloc Q15) Q0h 33 5 (by decide)) (.cells Q00 53)
 have T3 := qza Q74 Q00 53 22 (by decide)
 have al := (((Q7g Q7k w1).alloc (Q7l _) Q15).alloc (by simp) (.cells Q0h 33)).alloc (by simp; omega) (.cells Q00 53)
 have hzA : (Q5j).heap.size = Q7k + 1 + 1 + 1 := by simp
 simp only [World.size_alloc] at T2 T3
 have tok : True := trivial
 go_wp2_with (clear tok; refine qz1q Q5j ?_)
 generalize hwA : (Q74).alloc (.cells Q00 53) = wA at *
 clear hwA
 show wpList _ _ _ _ _ wA
 have hzA' : Q7k + 1 + 1 < wA.heap.size := by omega
 clear hzA
 have T2' := Q81 T2 (Q7k) 0 Q0q
 have T3' := Q81 (Q81 T3 (Q7k) 0 Q0q) (Q7k + 1) 0 Q0j
 have al5 : Below Q7k w1 ((((wA).setCells (Q7k) 0 Q0q).setCells (Q7k + 1) 0 Q0j).setCells (Q7k + 1 + 1) 0 (hdC hd)) := Below.setCells (by omega) _ _ _ (Below.setCells (by omega) _ _ _ (Below.setCells (by omega) _ _ _ al))
 have hz2 : Q7k + 1 + 1 < (((((wA).setCells (Q7k) 0 Q0q).setCells (Q7k + 1) 0 Q0j).setCells (Q7k + 1 + 1) 0 (hdC hd))).heap.size := by rw [qzn, qzn, qzn]; omega
 have Pbp : (((((wA).setCells (Q7k) 0 Q0q).setCells (Q7k + 1) 0 Q0j).setCells (Q7k + 1 + 1) 0 (hdC hd))).rangeAt (Q7k) 0 Q0q := Q7t (Q7t (Q7c _ _ _ _ T1) _ _ _ (Or.inl (by omega))) _ _ _ (Or.inl (by omega))
 have Pba : (((((wA).setCells (Q7k) 0 Q0q).setCells (Q7k + 1) 0 Q0j).setCells (Q7k + 1 + 1) 0 (hdC hd))).rangeAt (Q7k + 1) 0 Q0j := Q7t (Q7c _ _ _ _ (Q81 T2 _ _ _)) _ _ _ (Or.inl (by omega))
 have Pbh : (((((wA).setCells (Q7k) 0 Q0q).setCells (Q7k + 1) 0 Q0j).setCells (Q7k + 1 + 1) 0 (hdC hd))).rangeAt (Q7k + 1 + 1) 0 (hdC hd) := Q7c _ _ _ _ T3'
 have K2 := K1.trans (al5.mono (by have := K1.size; omega))
 have I2 : qzv (((((wA).setCells (Q7k) 0 Q0q).setCells (Q7k + 1) 0 Q0j).setCells (Q7k + 1 + 1) 0 (hdC hd))).heap.size ((((wA).setCells (Q7k) 0 Q0q).setCells (Q7k + 1) 0 Q0j).setCells (Q7k + 1 + 1) 0 (hdC hd)) Q0u Q0s Q0v Q14 A := (I1.below al5).weaken al5.size
 have lo2 : Q7b <= Q7k := by have := K1.size; omega
 refine Q7e rfl 28 (.tmp 3) (.tmp 20) rfl (Q7k) 0 Q06 rfl rfl T1 qz3g (by simp [Value.oneCell']) ?_
 refine Q7e rfl 33 (.tmp 4) (.tmp 21) rfl (Q7k + 1) 0 Q02 rfl rfl T2' qz2x (by simp [Value.oneCell']) ?_
 go_wp2_with (first | ((refine Q7e rfl 53 (.tmp 6) (.tmp 23) rfl (Q7k + 1 + 1) 0 ((hdC hd)).toArray ?s3x ?s3y ?s3t (qz7 hd) (qzd hd) ?_); all_goals (have tkA : True := trivial)) | (clear tkA; refine qz1q _ ?_))
 try (case s3x => rfl)
 try (case s3y => rfl)
 try (case s3t => exact T3')
 clear al5 al T1 T2 T3 T2' T3' hzA' I1 K1 far1
 show wpList _ _ _ _ _ ((((wA).setCells (Q7k) 0 Q0q).setCells (Q7k + 1) 0 Q0j).setCells (Q7k + 1 + 1) 0 (hdC hd))
 generalize ((((wA).setCells (Q7k) 0 Q0q).setCells (Q7k + 1) 0 Q0j).setCells (Q7k + 1 + 1) 0 (hdC hd)) = w2 at *
 show wpList _ _ _ _ _ w2
 have or2 : Q7b <= Q7k /\ Q7k < Q7k + 1 /\ Q7k + 1 < Q7k + 1 + 1 := by omega
 skip
 generalize hbh : Q7k + 1 + 1 = bh at *
 generalize hba : Q7k + 1 = ba at *
 generalize hbp : Q7k = bp at *
 clear hbh hba hbp
 clear lo2
 obtain ⟨bI, hbI⟩ : ∃ r, Hid (qz1z x y z u A k hd clk = r) := ⟨_, rfl⟩
 obtain ⟨⟨A9, h9, d9⟩, hR⟩ : ∃ R, Hid (qz35 x y z u A k hd clk = R) := ⟨_, rfl⟩
 have hA9 : A9.size <= 1048576 := by
  have := qz96 x y z u A k hd clk
  rw [hR.out] at this
  exact Q7u this (by omega)
 have qp0 : w2.cell? ⟨bp, 0, none⟩ = some (.int .i64 x) := by simpa using Pbp 0 (.int .i64 x) rfl
 have qp1 : w2.cell? ⟨bp, 1, none⟩ = some (.int .i64 y) := by simpa using Pbp 1 (.int .i64 y) rfl
 have qp2 : w2.cell? ⟨bp, 2, none⟩ = some (.int .i64 z) := by simpa using Pbp 2 (.int .i64 z) rfl
 have qp3 : w2.cell? ⟨bp, 3, none⟩ = some (.int .i64 u) := by simpa using Pbp 3 (.int .i64 u) rfl
 have qa0 : w2.cell? ⟨ba, 0, none⟩ = some (.int .i64 Q7m) := by simpa using Pba 0 (.int .i64 Q7m) rfl
 have qa1 : w2.cell? ⟨ba, 1, none⟩ = some Q0u := by simpa using Pba 1 Q0u rfl
 have qa2 : w2.cell? ⟨ba, 2, none⟩ = some Q0s := by simpa using Pba 2 Q0s rfl
 have qa3 : w2.cell? ⟨ba, 3, none⟩ = some Q0v := by simpa using Pba 3 Q0v rfl
 have qa4 : w2.cell? ⟨ba, 4, none⟩ = some Q14 := by simpa using Pba 4 Q14 rfl
 go_wp2_with (refine Q7j rfl 53 (.tmp 6) rfl bh 0 ?l2a (hdC hd) _ ?l2b Q7d rfl (qz1 _) ?_)
 try (case l2a => rfl)
 try (case l2b => exact Pbh)
 refine (qzan Q7x A x y z u k hd clk a0 a1 a2 a3 c0 c1 c2 c3 w2 (Q7l _) (by omega) I2).mono ?_
 intro e w3 hans
 rw [hR.out, hbI.out] at hans
 obtain ⟨_, _, _, _, b0, b1, b2, b3, rfl, NA, -, b2⟩ := hans
 obtain ⟨s0, t0, rfl⟩ := qz1y NA.s
 obtain ⟨s1, t1, rfl⟩ := qz1y NA.g
 obtain ⟨s2, t2, rfl⟩ := qz1y NA.n
 obtain ⟨s3, t3, rfl⟩ := qz1y NA.r
 have JA := NA.is
 clear qp0 qp1 qp2 qp3 qa0 qa1 qa2 qa3 qa4
 go_wp2_with (first | ((refine Q7e rfl 59 (.tmp 8) (.tmp 32) rfl (w3.heap.size) 0 (Q19).toArray ?sx2 ?sy2 ?st2 (qzp _ _ _ _ _ _ _ _) Q0w ?_); all_goals (have tk2 : True := trivial)) | (clear tk2; refine qz1q _ ?_))
 try (case sx2 => rfl)
 try (case sy2 => rfl)
 try (case st2 => exact qza w3 Q01 59 33 (by decide))
 show wpList _ _ _ _ _ _
 have F2 := qza w3 Q01 59 33 (by decide)
 have al2 : Below w3.heap.size w3 (((w3).alloc (.cells Q01 59)).setCells w3.heap.size 0 Q19) := Below.setCells (Q7l _) _ _ _ ((Q7g _ _).alloc (Q7l _) _)
 have KK : Below Q7x w2 (((w3).alloc (.cells Q01 59)).setCells w3.heap.size 0 Q19) := b2.trans (al2.mono b2.size)
 have Pbx : (((w3).alloc (.cells Q01 59)).setCells w3.heap.size 0 Q19).rangeAt w3.heap.size 0 Q19 := Q7c _ _ _ _ F2
 have z2 : Q7x <= w3.heap.size := b2.size
 have hz4 : w3.heap.size < (((w3).alloc (.cells Q01 59)).setCells w3.heap.size 0 Q19).heap.size := by rw [qzn]; simp
 have K4 := K2.trans (KK.mono (by have := K2.size; omega))
 have I4 : qzv (((w3).alloc (.cells Q01 59)).setCells w3.heap.size 0 Q19).heap.size (((w3).alloc (.cells Q01 59)).setCells w3.heap.size 0 Q19) Q0u Q0s Q0v Q14 A := (I2.below KK).weaken KK.size
 replace Pbp := qz0 Pbp KK (by omega)
 replace Pba := qz0 Pba KK (by omega)
 replace Pbh := qz0 Pbh KK (by omega)
 replace JA := (JA.below al2).weaken al2.size
 clear KK I2 b2 al2 K2 F2 NA
 generalize ((w3).alloc (.cells Q01 59)).setCells w3.heap.size 0 Q19 = w4 at *
 show wpList _ _ _ _ _ w4
 have gbx : bh < w3.heap.size := by omega
 clear z2 hz2
 generalize w3.heap.size = bx at *
 have qp0 : w4.cell? ⟨bp, 0, none⟩ = some (.int .i64 x) := by simpa using Pbp 0 (.int .i64 x) rfl
 have qp1 : w4.cell? ⟨bp, 1, none⟩ = some (.int .i64 y) := by simpa using Pbp 1 (.int .i64 y) rfl
 have qp2 : w4.cell? ⟨bp, 2, none⟩ = some (.int .i64 z) := by simpa using Pbp 2 (.int .i64 z) rfl
 have qp3 : w4.cell? ⟨bp, 3, none⟩ = some (.int .i64 u) := by simpa using Pbp 3 (.int .i64 u) rfl
 have qa0 : w4.cell? ⟨ba, 0, none⟩ = some (.int .i64 Q7m) := by simpa using Pba 0 (.int .i64 Q7m) rfl
 have qa1 : w4.cell? ⟨ba, 1, none⟩ = some Q0u := by simpa using Pba 1 Q0u rfl
 have qa2 : w4.cell? ⟨ba, 2, none⟩ = some Q0s := by simpa using Pba 2 Q0s rfl
 have qa3 : w4.cell? ⟨ba, 3, none⟩ = some Q0v := by simpa using Pba 3 Q0v rfl
 have qa4 : w4.cell? ⟨ba, 4, none⟩ = some Q14 := by simpa using Pba 4 Q14 rfl
 go_wp2_with (refine Q7j rfl 53 (.tmp 6) rfl bh 0 ?l4a (hdC hd) _ ?l4b Q7d rfl (qz1 _) ?_)
 try (case l4a => rfl)
 try (case l4b => exact Pbh)
 refine (qz7g w4.heap.size A x y z u k hd clk a0 a1 a2 a3 c0 c1 c2 c3 w4 (Q7l _) (by omega) I4).mono ?_
 intro e w5 hans
 rw [hR.out, hbI.out] at hans
 obtain ⟨_, _, _, _, rfl, OA, b4⟩ := hans
 obtain ⟨f0, e0, rfl⟩ := qzh OA.rs
 obtain ⟨f1, e1, rfl⟩ := qzh OA.rg
 obtain ⟨f2, e2, rfl⟩ := qzh OA.rn
 obtain ⟨f3, e3, rfl⟩ := qzh OA.rr
 have JB := OA.is
 clear qp0 qp1 qp2 qp3 qa0 qa1 qa2 qa3 qa4
 go_wp2_with (first | ((refine Q7e rfl 59 (.tmp 10) (.tmp 41) rfl (Q84) 0 (Q1a).toArray ?sx4 ?sy4 ?st4 (qzp _ _ _ _ _ _ _ _) Q0w ?_); all_goals (have tk4 : True := trivial)) | (clear tk4; refine qz1q _ ?_))
 try (case sx4 => rfl)
 try (case sy4 => rfl)
 try (case st4 => exact qza w5 Q01 59 33 (by decide))
 have F4 := qza w5 Q01 59 33 (by decide)
 have al4 : Below Q84 w5 (((w5).alloc (.cells Q01 59)).setCells Q84 0 Q1a) := Below.setCells (Q7l _) _ _ _ ((Q7g _ _).alloc (Q7l _) _)
 have KK : Below w4.heap.size w4 (((w5).alloc (.cells Q01 59)).setCells Q84 0 Q1a) := b4.trans (al4.mono b4.size)
 have Pbz : (((w5).alloc (.cells Q01 59)).setCells Q84 0 Q1a).rangeAt Q84 0 Q1a := Q7c _ _ _ _ F4
 have z4 : w4.heap.size <= Q84 := b4.size
 have hz6 : Q84 < (((w5).alloc (.cells Q01 59)).setCells Q84 0 Q1a).heap.size := by rw [qzn]; simp
 have K6 := K4.trans (KK.mono (by have := K4.size; omega))
 have I6 : qzv (((w5).alloc (.cells Q01 59)).setCells Q84 0 Q1a).heap.size (((w5).alloc (.cells Q01 59)).setCells Q84 0 Q1a) Q0u Q0s Q0v Q14 A := (I4.below KK).weaken KK.size
 replace Pbp := qz0 Pbp KK (by omega)
 replace Pba := qz0 Pba KK (by omega)
 replace Pbh := qz0 Pbh KK (by omega)
 replace Pbx := qz0 Pbx KK (by omega)
 replace JA := (JA.below KK).weaken KK.size
 replace JB := (JB.below al4).weaken al4.size
 clear KK I4 b4 al4 K4 F4 OA
 generalize ((w5).alloc (.cells Q01 59)).setCells Q84 0 Q1a = w6 at *
 have gbz : bx < Q84 := by omega
 clear z4 hz4
 generalize Q84 = bz at *
 have hz6 : bz < w6.heap.size := by omega
 have o6 : bp < w6.heap.size /\ ba < w6.heap.size /\ bh < w6.heap.size /\ bx < w6.heap.size := by omega
 have k1 : ∀ (dq : Nat) (os : Array Obj), Calls Tryz.prog 24 #[.agg (Q19).toArray, .agg (Q1a).toArray] (grow (redrawn w6 dq) os) fun e w'' => e = .returned (.bool true) /\ ∃ q : Regrown, w'' = grow (redrawn w6 q.d) q.os := fun dq os => Calls.regrown_of (qzau w6.heap.size A9 h9 d9 false _ _ _ _ _ _ _ _ (grow (redrawn w6 dq) os) (below_regrown w6 dq os).size hA9 (JA.below (below_regrown w6 dq os)) (JB.below (below_regrown w6 dq os)))
 have k2 : ∀ (dq : Nat) (os : Array Obj), Calls Tryz.prog 25 Q54 (grow (redrawn w6 dq) os) fun e w'' => e = .returned (.bool (fitB x y z u A k hd clk)) /\ ∃ q : Regrown, w'' = grow (redrawn w6 q.d) q.os := fun dq os => Calls.regrown_of (qzfk w6.heap.size A x y z u k hd clk a0 a1 a2 a3 c0 c1 c2 c3 (grow (redrawn w6 dq) os) (below_regrown w6 dq os).size (by omega) (I6.below (below_regrown w6 dq os)))
 have k3 : ∀ (dq : Nat) (os : Array Obj), Calls Tryz.prog 26 Q54 (grow (redrawn w6 dq) os) fun e w'' => e = .returned (.bool (fitB x y z u A k hd clk)) /\ ∃ q : Regrown, w'' = grow (redrawn w6 q.d) q.os := fun dq os => Calls.regrown_of (qz8g w6.heap.size A x y z u k hd clk a0 a1 a2 a3 c0 c1 c2 c3 (grow (redrawn w6 dq) os) (below_regrown w6 dq os).size (by omega) (I6.below (below_regrown w6 dq os)))
 obtain ⟨fI, hfI⟩ : ∃ r, Hid (fitB x y z u A k hd clk = r) := ⟨_, rfl⟩
 rw [hfI.out] at k2 k3
 have ff1 : (bI != bI) = false := by simp
 have ff2 : (fI != fI) = false := by simp
 refine wp_region_quiet_below (by kernel_rfl) (by kernel_rfl) ?_
 iterate 2 (go_big_quiet_step (fail))
 refine qz1j (by first | rfl | kernel_rfl) (.bool false) (fun w' _ => by clear k1 k2 k3; go_simp) ?_
 simp only [Act.put, List.setIfInBounds_toArray, List.set_cons_succ, List.set_cons_zero]
 iterate 1 (go_big_quiet_step (fail))
 refine qzm (by first | rfl | kernel_rfl) 59 (.tmp 8) rfl bx 0 rfl (Q19) _ (fun w' hw' => by obtain ⟨⟨dq, os⟩, rfl⟩ := hw'; exact qz0 Pbx (below_regrown w6 dq os) (by omega)) Q7p rfl (qz8 _ _ _ _ _ _ _ _) ?_
 simp only [Act.put, List.setIfInBounds_toArray, List.set_cons_succ, List.set_cons_zero]
 refine qzm (by first | rfl | kernel_rfl) 59 (.tmp 10) rfl bz 0 rfl (Q1a) _ (fun w' hw' => by obtain ⟨⟨dq, os⟩, rfl⟩ := hw'; exact qz0 Pbz (below_regrown w6 dq os) (by omega)) Q7p rfl (qz8 _ _ _ _ _ _ _ _) ?_
 simp only [Act.put, List.setIfInBounds_toArray, List.set_cons_succ, List.set_cons_zero]
 iterate 1 (go_big_quiet_step (exact k1 _ _))
 iterate 3 (go_big_quiet_step (fail))
 refine qzm (by first | rfl | kernel_rfl) 28 (.tmp 3) rfl bp 0 rfl (Q0q) _ (fun w' hw' => by obtain ⟨⟨dq, os⟩, rfl⟩ := hw'; exact qz0 Pbp (below_regrown w6 dq os) (by omega)) Tryz.underlying28 rfl qz3g ?_
 simp only [Act.put, List.setIfInBounds_toArray, List.set_cons_succ, List.set_cons_zero]
 refine qzm (by first | rfl | kernel_rfl) 33 (.tmp 4) rfl ba 0 rfl (Q0j) _ (fun w' hw' => by obtain ⟨⟨dq, os⟩, rfl⟩ := hw'; exact qz0 Pba (below_regrown w6 dq os) (by omega)) Tryz.underlying33 rfl qz2x ?_
 simp only [Act.put, List.setIfInBounds_toArray, List.set_cons_succ, List.set_cons_zero]
 iterate 1 (go_big_quiet_step (fail))
 refine qzm (by first | rfl | kernel_rfl) 53 (.tmp 6) rfl bh 0 rfl (hdC hd) _ (fun w' hw' => by obtain ⟨⟨dq, os⟩, rfl⟩ := hw'; exact qz0 Pbh (below_regrown w6 dq os) (by omega)) Q7d rfl (qz1 _) ?_
 simp only [Act.put, List.setIfInBounds_toArray, List.set_cons_succ, List.set_cons_zero]
 iterate 1 (go_big_quiet_step (fail))
 iterate 1 (go_big_quiet_step (exact k2 _ _))
 refine qzm (by first | rfl | kernel_rfl) 28 (.tmp 3) rfl bp 0 rfl (Q0q) _ (fun w' hw' => by obtain ⟨⟨dq, os⟩, rfl⟩ := hw'; exact qz0 Pbp (below_regrown w6 dq os) (by omega)) Tryz.underlying28 rfl qz3g ?_
 simp only [Act.put, List.setIfInBounds_toArray, List.set_cons_succ, List.set_cons_zero]
 refine qzm (by first | rfl | kernel_rfl) 33 (.tmp 4) rfl ba 0 rfl (Q0j) _ (fun w' hw' => by obtain ⟨⟨dq, os⟩, rfl⟩ := hw'; exact qz0 Pba (below_regrown w6 dq os) (by omega)) Tryz.underlying33 rfl qz2x ?_
 simp only [Act.put, List.setIfInBounds_toArray, List.set_cons_succ, List.set_cons_zero]
 iterate 1 (go_big_quiet_step (fail))
 refine qzm (by first | rfl | kernel_rfl) 53 (.tmp 6) rfl bh 0 rfl (hdC hd) _ (fun w' hw' => by obtain ⟨⟨dq, os⟩, rfl⟩ := hw'; exact qz0 Pbh (below_regrown w6 dq os) (by omega)) Q7d rfl (qz1 _) ?_
 simp only [Act.put, List.setIfInBounds_toArray, List.set_cons_succ, List.set_cons_zero]
 iterate 1 (go_big_quiet_step (fail))
 iterate 1 (go_big_quiet_step (exact k3 _ _))
 refine qz1j (by first | rfl | kernel_rfl) (.bool false) (fun w' _ => by clear k1 k2 k3; go_simp) ?_
 simp only [Act.put, List.setIfInBounds_toArray, List.set_cons_succ, List.set_cons_zero]
 iterate 1 (go_big_quiet_step (fail))
 refine wpQuiet_nil ?_
 intro _ hw'
 obtain ⟨⟨dq, osq⟩, hw''⟩ := hw'
 subst hw''
 have b6 := below_regrown w6 dq osq
 generalize grow (redrawn w6 dq) osq = w7 at *
 clear k1 k2 k3 ff1 ff2 hfI Pbp Pbz JB
 replace Pba := qz0 Pba b6 (by omega)
 replace Pbh := qz0 Pbh b6 (by omega)
 replace Pbx := qz0 Pbx b6 (by omega)
 replace JA := (JA.below b6).weaken b6.size
 have I7 := (I6.below b6).weaken b6.size
 have K7 := K6.trans (b6.mono K6.size)
 have hz7 := b6.size
 clear b6 K6 I6
 by_cases hbt : bI = true
 case neg =>
  obtain rfl : bI = false := by simpa using hbt
  have e := (qz5n hbI.out).symm.trans hR.out
  obtain rfl : qzge = A9 := congrArg (·.1) e
  have x4 : w7.cell? ⟨bx, 4, none⟩ = some (.slice s3 0 t3) := by simpa using Pbx 4 (.slice s3 0 t3) rfl
  clear e hR hbI hbt Pba Pbh Pbx JA I7 C
  go_wp2
  go_ret
  exact ⟨rfl, K7⟩
 obtain rfl : bI = true := hbt
 have S := qzeb hbI.out
 have e := (qz5a hbI.out).symm.trans hR.out
 rw [e] at S
 obtain ⟨hl9, c, c00, cle, cend, cv⟩ := qzes (show qzaq A A9 hd d9 from S)
 clear e S hR hbI C
 obtain ⟨_, _, e1, R1⟩ := id JA.r
 cases e1
 obtain ⟨_, _, e2, R2⟩ := id I7.r
 cases e2
 have hvA : Q7h <= 400 := hvl
 clear JA I7
 go_wp2
 go_loopw [12, 13] (fun n' i' wr => ∃ q : Nat, q <= Q7h /\ n' = .int .i64 (c q : Nat) /\ i' = .int .i64 q /\ Below w7.heap.size w7 wr) (fun n' i' _ => Q7h - (intOf i').toNat)
 case atStart => exact ⟨0, Nat.zero_le _, by rw [c00]; rfl, rfl, Below.refl _ _⟩
 case round =>
  obtain ⟨q, hq, rfl, rfl, bel⟩ := hrel
  have hsz := bel.size
  have XW := qz0 Pbx bel (by omega)
  have AW := qz0 Pba bel (by omega)
  have HW := qz0 Pbh bel (by omega)
  have ca4 : wr.cell? ⟨ba, 4, none⟩ = some Q14 := by simpa using AW 4 _ rfl
  by_cases hlt : q < Q7h
  ·rcases R1 with h0 | ⟨b1, o1, rfl, hb1, R1⟩
   ·omega
   rcases R2 with h0 | ⟨b2, o2, rfl, hb2, R2⟩
   ·omega
   have hlt9 : q < A9.vers.length := by omega
   have E1 := qze (f := vrC) (sz := 5) (fun _ => rfl) (qz0 R1 bel (by omega)) q hlt9
   have E2 := qze (f := vrC) (sz := 5) (fun _ => rfl) (qz0 R2 bel (by omega)) q hlt
   obtain ⟨cw, cv1⟩ := cv q hlt hlt9
   have hcq := cle q
   have cx4 : wr.cell? ⟨bx, 4, none⟩ = some (.slice (some ⟨b1, o1, none⟩) A9.vers.length t3) := by simpa using XW 4 _ rfl
   generalize A9.vers[q] = x9 at *
   generalize A.vers[q] = xa at *
   have hlti : (q : Int) < (Q7h : Int) := by omega
   have hlti9 : (q : Int) < (A9.vers.length : Int) := by omega
   have hq0 : (0 : Int) <= (q : Int) := by omega
   clear R1 R2 cv cend cle c00 Pbx Pba Pbh
   have FN := qza wr Q24 65 5 (by decide)
   go_wp2_with (first | (refine wpList_load_mid rfl 65 (.tmp 85) rfl b1 (o1 + q * 5) ?v1a (vrC x9) _ ?v1b Tryz.underlying65 rfl (qz5u x9) ?_) | (refine wpList_store_mid rfl 65 (.tmp 14) (.tmp 86) rfl wr.heap.size 0 (vrC x9).toArray ?v2a ?v2b ?v2c (qzfi x9) (by simp [vrC, Value.oneCell']) ?_; all_goals (have tkV : True := trivial)) | (clear tkV; refine qz1q _ ?_))
   try (case v1a => rfl)
   try (case v1b => exact E1)
   try (case v2a => rfl)
   try (case v2b => rfl)
   try (case v2c => exact FN)
   have BV : Below wr.heap.size wr Q6u := Below.setCells (Q7l _) _ _ _ ((Q7g _ _).alloc (Q7l _) _)
   have V0 : (Q6u).rangeAt wr.heap.size 0 (vrC x9) := Q7c _ _ _ _ FN
   have F0 := Q81 FN (wr.heap.size) 0 (vrC x9)
   have hzV : wr.heap.size < (Q6u).heap.size := by rw [qzn]; simp
   generalize (wr.alloc (.cells Q24 65)).setCells wr.heap.size 0 (vrC x9) = wv at *
   obtain ⟨bv, hbv⟩ : ∃ b, b = wr.heap.size := ⟨_, rfl⟩
   rw [<- hbv] at V0 F0 hzV
   rw [<- hbv]
   obtain ⟨s9, hs9⟩ : ∃ s, x9.stamp = s := ⟨_, rfl⟩
   obtain ⟨sa, hsa⟩ : ∃ s, xa.stamp = s := ⟨_, rfl⟩
   rw [hs9, hsa] at cw
   rw [hsa] at cv1
   have AV := qz0 AW BV (by omega)
   have EV := qz0 E2 BV (by omega)
   have yv2 : ∀ (dq : Nat) (os : Array Obj), (grow (redrawn wv dq) os).cell? ⟨bv, 2, none⟩ = some (.int .i64 s9) := fun dq os => cell_regrown (by simpa using V0 2 (.int .i64 s9) (by rw [<- hs9]; rfl)) dq os
   have ya4 : ∀ (dq : Nat) (os : Array Obj), (grow (redrawn wv dq) os).cell? ⟨ba, 4, none⟩ = some Q43 := fun dq os => cell_regrown (by simpa using AV 4 _ rfl) dq os
   have ye2 : ∀ (dq : Nat) (os : Array Obj), (grow (redrawn wv dq) os).cell? ⟨b2, o2 + q * 5 + 2, none⟩ = some (.int .i64 sa) := fun dq os => cell_regrown (by simpa using EV 2 (.int .i64 sa) (by rw [<- hsa]; rfl)) dq os
   clear ca4 cx4 FN E1
   have hb2' : b2 < wr.heap.size := by omega
   have hbs : bv ≥ wr.heap.size := by omega
   clear hbv
   refine wp_region_quiet_below (by kernel_rfl) (by kernel_rfl) ?_
   simp only [Act.put]
   iterate 8 (go_big_quiet_step (fail))
   rcases cw with ⟨es, ec⟩ | ⟨es, ec0, ec, ea, e0, e1, e5, ek⟩
   ·have hne : (s9 != sa) = false := by simp [es]
    go_big_quiet_step (fail)
    refine wpQuiet_nil ?_
    intro _ hw'
    obtain ⟨⟨dq, osq⟩, hw''⟩ := hw'
    subst hw''
    have bq := below_regrown wv dq osq
    have hzq := bq.size
    have VQ := qz0 V0 bq (by omega)
    have FQ := qz2 F0 bq (by omega)
    have AQ := qz0 AV bq (by omega)
    have EQ := qz0 EV bq (by omega)
    have bvq : Below wr.heap.size wr (grow (redrawn wv dq) osq) := BV.trans (bq.mono BV.size)
    have ca4q : (grow (redrawn wv dq) osq).cell? ⟨ba, 4, none⟩ = some Q43 := by simpa using AQ 4 _ rfl
    generalize grow (redrawn wv dq) osq = wq at *
    clear yv2 ya4 ye2 V0 F0 AV EV BV bq
    have hv2 : wq.cell? ⟨bv, 2, none⟩ = some (.int .i64 s9) := by simpa using VQ 2 (.int .i64 s9) (by rw [<- hs9]; rfl)
    have hvf : wq.frozen? ⟨bv, 2, none⟩ = false := by simpa using (FQ 2 (by decide)).2
    have RS : (Q5q).rangeAt bv 0 (vrC xa) := by
     have h := qz50 (p := [.int .i64 x9.next, .bool x9.gone]) (h := .int .i64 x9.stamp) (q := [.int .i64 x9.prev, .int .i64 x9.kind]) (b := bv) (o := 0) VQ (.int .i64 sa)
     rw [<- cv1]
     exact h
    have BS : Below wr.heap.size wr Q5q := bvq.setCell (by show wr.heap.size <= bv; omega) _
    have ES : (Q5q).rangeAt b2 (o2 + q * 5) (vrC xa) := qz0 E2 BS (by omega)
    have ce : wq.cell? ⟨b2, o2 + q * 5 + 2, none⟩ = some (.int .i64 sa) := by simpa using EQ 2 (.int .i64 sa) (by rw [<- hsa]; rfl)
    have cs4 : (Q5q).cell? ⟨ba, 4, none⟩ = some Q43 := by simpa using (qz0 AW BS (by omega)) 4 _ rfl
    have hbvs : bv < (Q5q).heap.size := by first | (simp; omega) | omega
    go_wp2
    generalize wq.setCell ⟨bv, 2, none⟩ (.int .i64 sa) = ws at *
    have zS := BS.size
    have ys4 : ∀ (dq : Nat) (os : Array Obj), (grow (redrawn ws dq) os).cell? ⟨ba, 4, none⟩ = some Q43 := fun dq os => cell_regrown cs4 dq os
    clear cs4 ce hv2 hvf ca4q
    refine wp_region_quiet_below (by kernel_rfl) (by kernel_rfl) ?_
    refine qzm (by first | rfl | kernel_rfl) 65 (.tmp 14) rfl bv 0 rfl (vrC xa) _ (fun w' hw' => by obtain ⟨⟨dq, os⟩, rfl⟩ := hw'; exact qz0 RS (below_regrown ws dq os) (by omega)) Tryz.underlying65 rfl (qz5u _) ?_
    simp only [Act.put, List.setIfInBounds_toArray, List.set_cons_succ, List.set_cons_zero]
    iterate 4 (go_big_quiet_step (fail))
    refine qzm (by first | rfl | kernel_rfl) 65 (.tmp 141) rfl b2 (o2 + q * 5) rfl (vrC xa) _ (fun w' hw' => by obtain ⟨⟨dq, os⟩, rfl⟩ := hw'; exact qz0 ES (below_regrown ws dq os) (by omega)) Tryz.underlying65 rfl (qz5u _) ?_
    refine qz1j (by first | rfl | kernel_rfl) (.bool false) (fun w' _ => qz6i _ _ (.tmp 137) (.tmp 142) _ rfl xa rfl rfl w') ?_
    simp only [Act.put, List.setIfInBounds_toArray, List.set_cons_succ, List.set_cons_zero]
    refine wpQuiet_nil ?_
    intro _ hw'
    obtain ⟨⟨dq2, osq2⟩, hw''⟩ := hw'
    subst hw''
    have bq2 := below_regrown ws dq2 osq2
    go_wp2
    go_roundw
    case rel => exact ⟨q + 1, by omega, by rw [ec], by go_num, bel.trans ((BS.trans (bq2.mono zS)).mono hsz)⟩
    case measure => simp [intOf]; omega
   ·obtain rfl : sa = -1 := ea
    have hne : (s9 != -1) = true := by simpa using es
    go_big_quiet_step (fail)
    refine wpQuiet_nil ?_
    intro _ hw'
    obtain ⟨⟨dq, osq⟩, hw''⟩ := hw'
    subst hw''
    have bq := below_regrown wv dq osq
    have hzq := bq.size
    have VQ := qz0 V0 bq (by omega)
    have FQ := qz2 F0 bq (by omega)
    have AQ := qz0 AV bq (by omega)
    have EQ := qz0 EV bq (by omega)
    have bvq : Below wr.heap.size wr (grow (redrawn wv dq) osq) := BV.trans (bq.mono BV.size)
    have ca4q : (grow (redrawn wv dq) osq).cell? ⟨ba, 4, none⟩ = some Q43 := by simpa using AQ 4 _ rfl
    generalize grow (redrawn wv dq) osq = wq at *
    clear yv2 ya4 ye2 V0 F0 AV EV BV bq
    have HQ := qz0 HW bvq (by omega)
    have XQ := qz0 XW bvq (by omega)
    have m0 : wq.cell? ⟨ba, 0, none⟩ = some (.int .i64 Q7m) := by simpa using AQ 0 _ rfl
    have m1 : wq.cell? ⟨bh, 0, none⟩ = some (.int .i64 5) := by rw [<- e5]; simpa using HQ 0 _ rfl
    have m2 : wq.cell? ⟨bx, 27, none⟩ = some (.int .i64 x9.kind) := by rw [<- ek]; simpa using XQ 27 (.int .i64 d9.kind) rfl
    have m3 : wq.cell? ⟨bv, 4, none⟩ = some (.int .i64 x9.kind) := by simpa using VQ 4 _ rfl
    have m4 : ¬ s9 < 0 := by omega
    have m5 : ¬ Q7m < s9 := by omega
    rw [ec0]
    have hv2 : wq.cell? ⟨bv, 2, none⟩ = some (.int .i64 s9) := by simpa using VQ 2 (.int .i64 s9) (by rw [<- hs9]; rfl)
    have hvf : wq.frozen? ⟨bv, 2, none⟩ = false := by simpa using (FQ 2 (by decide)).2
    have RS : (Q5k).rangeAt bv 0 (vrC xa) := by
     have h := qz50 (p := [.int .i64 x9.next, .bool x9.gone]) (h := .int .i64 x9.stamp) (q := [.int .i64 x9.prev, .int .i64 x9.kind]) (b := bv) (o := 0) VQ (.int .i64 (-1))
     rw [<- cv1]
     exact h
    have BS : Below wr.heap.size wr Q5k := bvq.setCell (by show wr.heap.size <= bv; omega) _
    have ES : (Q5k).rangeAt b2 (o2 + q * 5) (vrC xa) := qz0 E2 BS (by omega)
    have ce : wq.cell? ⟨b2, o2 + q * 5 + 2, none⟩ = some (.int .i64 (-1)) := by simpa using EQ 2 (.int .i64 (-1)) (by rw [<- hsa]; rfl)
    have cs4 : (Q5k).cell? ⟨ba, 4, none⟩ = some Q43 := by simpa using (qz0 AW BS (by omega)) 4 _ rfl
    have hbvs : bv < (Q5k).heap.size := by first | (simp; omega) | omega
    go_wp2
    clear m0 m1 m2 m3 m4 m5
    generalize wq.setCell ⟨bv, 2, none⟩ (.int .i64 (-1)) = ws at *
    have zS := BS.size
    have ys4 : ∀ (dq : Nat) (os : Array Obj), (grow (redrawn ws dq) os).cell? ⟨ba, 4, none⟩ = some Q43 := fun dq os => cell_regrown cs4 dq os
    clear cs4 ce hv2 hvf ca4q
    refine wp_region_quiet_below (by kernel_rfl) (by kernel_rfl) ?_
    refine qzm (by first | rfl | kernel_rfl) 65 (.tmp 14) rfl bv 0 rfl (vrC xa) _ (fun w' hw' => by obtain ⟨⟨dq, os⟩, rfl⟩ := hw'; exact qz0 RS (below_regrown ws dq os) (by omega)) Tryz.underlying65 rfl (qz5u _) ?_
    simp only [Act.put, List.setIfInBounds_toArray, List.set_cons_succ, List.set_cons_zero]
    iterate 4 (go_big_quiet_step (fail))
    refine qzm (by first | rfl | kernel_rfl) 65 (.tmp 141) rfl b2 (o2 + q * 5) rfl (vrC xa) _ (fun w' hw' => by obtain ⟨⟨dq, os⟩, rfl⟩ := hw'; exact qz0 ES (below_regrown ws dq os) (by omega)) Tryz.underlying65 rfl (qz5u _) ?_
    refine qz1j (by first | rfl | kernel_rfl) (.bool false) (fun w' _ => qz6i _ _ (.tmp 137) (.tmp 142) _ rfl xa rfl rfl w') ?_
    simp only [Act.put, List.setIfInBounds_toArray, List.set_cons_succ, List.set_cons_zero]
    refine wpQuiet_nil ?_
    intro _ hw'
    obtain ⟨⟨dq2, osq2⟩, hw''⟩ := hw'
    subst hw''
    have bq2 := below_regrown ws dq2 osq2
    go_wp2
    go_roundw
    case rel => exact ⟨q + 1, by omega, by rw [ec]; rfl, by go_num, bel.trans ((BS.trans (bq2.mono zS)).mono hsz)⟩
    case measure => simp [intOf]; omega
  ·obtain rfl : q = Q7h := by omega
   clear cv R1 R2
   rcases cend with ce | ⟨ce, ed⟩
   ·rw [ce]
    go_wp2
    go_ret
    exact ⟨rfl, K7.trans (bel.mono (by omega))⟩
   ·rw [ce]
    have PD := (qzu XW).2.2.1
    rw [ed] at PD
    go_wp2_with (first | ((refine qz11 ?lz0 57 (.tmp 150) rfl bx 27 ?lz1 (ddC qz21) _ ?lz2 Tryz.underlying57 rfl (qz3c qz21) ?_); all_goals (have tkZ : True := trivial)) | (clear tkZ; refine qz1q _ ?_))
    try (case lz0 => first | rfl | kernel_rfl)
    try (case lz1 => rfl)
    try (case lz2 => exact PD)
    show wpList _ _ _ _ _ _
    go_wp2_with (refine qz4c (by first | rfl | kernel_rfl) (.bool true) (qz8k _ _ (.tmp 151) (.tmp 152) _ rfl qz21 rfl rfl _) ?_)
    go_ret
    exact ⟨rfl, K7.trans (bel.mono (by omega))⟩
theorem qz86 (os : Os) (started : os.Started) (H : Type) (enc : TypeId × Value -> H) :
  ReturnsInHanded {} Tryz.checked os 4 .any (Rows.fnSealedSpec.pre6 enc Tryz.prog Tryz.f4 Rows.fnSealedRow.domain false) (Rows.fnSealedSpec.post enc Tryz.prog Tryz.f4 false true false false) := by
 refine returnsInHanded_of_change (C := Tryz.checked) own started (by kernel_rfl) Tryz.func4
  (ChangeSpec.witness6 (enc := enc) (C := Tryz.checked) false ⟨#[], #[.slice none 0 0], []⟩ 8 (by kernel_rfl) (by kernel_rfl) (by kernel_rfl) (by kernel_rfl)) ?_
 intro W base args ds gs before hval0 hW hcnd _
 have hval : ∀ (j : Nat) t v, Tryz.f4.params[j]? = some t -> args[j]? = some v -> Value.okWide Tryz.prog W .any base t v := hval0
 have hW' := hW
 obtain ⟨p, q, hA0, hV, rfl, hfz, hnd⟩ := hW
 have hA : DataW.TrodAll enc Tryz.prog W 0 (fun _ => true) true Tryz.f4.params.toList args.toList ds p := hA0
 rw [Tryz.params4] at hA hval
 obtain ⟨v0, vs0, d0, ds0, p0, q0, hargs, rfl, rfl, h0, r0⟩ := trodAll_cons hA
 obtain ⟨rfl, rfl, rfl⟩ := trodAll_nil r0
 obtain rfl : args = #[v0] := by cases args; simp_all
 obtain ⟨rfl, rfl⟩ := trodVars_none hV
 have k0 := h0
 have lt0 : ∀ x ∈ p0, x.block < W.heap.size := by obtain ⟨m, hm⟩ := k0; exact DataW.trod_lt m _ _ _ hm
 obtain ⟨a0, len0, cap0, hv0, w0⟩ := qze0 (hval 0 22 v0 rfl rfl) h0
 subst hv0
 clear hA0 hval0
 refine (qza7 a0 len0 cap0 W w0).mono fun e W' ⟨he, bel⟩ => ?_
 subst he
 exact ⟨_, rfl, _, _, _, [], _, [], hW', trodAll_mk1 (shut_bool Tryz.underlying4 _), (trodAll_cons_mk (Below.trod qzgx (by kernel_rfl) (of_decide_eq_true (by kernel_rfl)) k0 bel lt0) trodAll_mk0), rfl, bel.frame _, fun h => by cases h⟩
theorem fnSealed_holds : Rows.FnSealedSaid :=
 OpenClaim.holds_of_wide 4 Tryz.f4 rfl rfl rfl rfl rfl rfl rfl ⟨rfl, rfl, rfl, rfl, rfl⟩ rfl rfl rfl rfl rfl (by kernel_rfl) Tryz.func4 (by kernel_rfl)
  (of_decide_eq_true (by kernel_rfl)) (by unfold Func.isWrapper; first | (rw [if_pos (by decide +kernel)]; kernel_rfl) | (rw [if_neg (by decide +kernel)]; exact ⟨rfl, rfl⟩))
  (fun os started H enc _ => qz86 os started H enc)
#print axioms fnSealed_holds
end
end Go.Proofs.YthjkdnlmopafkaaGreat
