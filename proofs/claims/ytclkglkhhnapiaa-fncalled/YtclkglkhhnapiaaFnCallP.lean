/-
  What the law's proof goes by, part 16.
-/
import Derived.Test.YtclkglkhhnapiaaFnCallO
namespace Go.Proofs.Ytclkglkhhnapiaa
open Go.ChangeShapes Go.WideShapes Go.ChangeAt Go.RowKit
set_option maxRecDepth 100000
set_option maxHeartbeats 16000000
set_option linter.unusedVariables false
set_option linter.unusedSimpArgs false
set_option linter.unnecessarySimpa false
set_option linter.unusedSectionVars false
section
attribute [local go_sem ↓] Go.wp_at_zero Go.wp_at_succ
theorem qz75 (a : Option Addr) (len cap : Nat) (w : World) (hlen : len <= 4096) (C : qz1p w.heap.size w a len) :
  Calls Try.prog 7 #[.slice a len cap] w fun e w' => ∃ x y z u g c q v, e = .returned (.tuple #[.agg #[.int .i64 x, .int .i64 y, .int .i64 z, .int .i64 u], .agg (hdC g).toArray, .int .i64 c, .int .i64 q, .int .i64 v]) /\ Below w.heap.size w w' := by
 have T0 := World.there_alloc (qzh w #[.int .i64 0, .int .i64 0, .int .i64 0, .int .i64 0] 25 4 (by decide)) (.cells #[.int .i64 0, .int .i64 0, .int .i64 0, .int .i64 0, .int .i64 0, .int .i64 0, .int .i64 0, .int .i64 0, .int .i64 0, .int .i64 0, .int .i64 0, .int .i64 0, .int .i64 0, .int .i64 0, .int .i64 0, .int .i64 0, .int .i64 0, .int .i64 0, .int .i64 0, .int .i64 0, .int .i64 0, .int .i64 0] 27)
 have U0 := qzh (w.alloc (.cells #[.int .i64 0, .int .i64 0, .int .i64 0, .int .i64 0] 25)) #[.int .i64 0, .int .i64 0, .int .i64 0, .int .i64 0, .int .i64 0, .int .i64 0, .int .i64 0, .int .i64 0, .int .i64 0, .int .i64 0, .int .i64 0, .int .i64 0, .int .i64 0, .int .i64 0, .int .i64 0, .int .i64 0, .int .i64 0, .int .i64 0, .int .i64 0, .int .i64 0, .int .i64 0, .int .i64 0] 27 22 (by decide)
 have K0 := ((Below.refl w.heap.size w).alloc (Nat.le_refl _) (.cells #[.int .i64 0, .int .i64 0, .int .i64 0, .int .i64 0] 25)).alloc (by simp) (.cells #[.int .i64 0, .int .i64 0, .int .i64 0, .int .i64 0, .int .i64 0, .int .i64 0, .int .i64 0, .int .i64 0, .int .i64 0, .int .i64 0, .int .i64 0, .int .i64 0, .int .i64 0, .int .i64 0, .int .i64 0, .int .i64 0, .int .i64 0, .int .i64 0, .int .i64 0, .int .i64 0, .int .i64 0, .int .i64 0] 27)
 have C0 := (C.alloc (Nat.le_refl _) (.cells #[.int .i64 0, .int .i64 0, .int .i64 0, .int .i64 0] 25)).alloc (by simp) (.cells #[.int .i64 0, .int .i64 0, .int .i64 0, .int .i64 0, .int .i64 0, .int .i64 0, .int .i64 0, .int .i64 0, .int .i64 0, .int .i64 0, .int .i64 0, .int .i64 0, .int .i64 0, .int .i64 0, .int .i64 0, .int .i64 0, .int .i64 0, .int .i64 0, .int .i64 0, .int .i64 0, .int .i64 0, .int .i64 0] 27)
 have hz0 : ((w.alloc (.cells #[.int .i64 0, .int .i64 0, .int .i64 0, .int .i64 0] 25)).alloc (.cells #[.int .i64 0, .int .i64 0, .int .i64 0, .int .i64 0, .int .i64 0, .int .i64 0, .int .i64 0, .int .i64 0, .int .i64 0, .int .i64 0, .int .i64 0, .int .i64 0, .int .i64 0, .int .i64 0, .int .i64 0, .int .i64 0, .int .i64 0, .int .i64 0, .int .i64 0, .int .i64 0, .int .i64 0, .int .i64 0] 27)).heap.size = w.heap.size + 2 := by simp
 simp only [World.size_alloc] at U0
 go_enter Try.func7, Try.ntmps7
 go_wp2_with fail
 generalize hw0 : (w.alloc (.cells #[.int .i64 0, .int .i64 0, .int .i64 0, .int .i64 0] 25)).alloc (.cells #[.int .i64 0, .int .i64 0, .int .i64 0, .int .i64 0, .int .i64 0, .int .i64 0, .int .i64 0, .int .i64 0, .int .i64 0, .int .i64 0, .int .i64 0, .int .i64 0, .int .i64 0, .int .i64 0, .int .i64 0, .int .i64 0, .int .i64 0, .int .i64 0, .int .i64 0, .int .i64 0, .int .i64 0, .int .i64 0] 27) = w0 at *
 clear hw0
 refine (qz90 a len cap w0 hlen (C0.weaken (by omega))).mono ?_
 rintro e w1 ⟨rfl, ⟨h1, D1⟩, b1⟩
 have T1 := qz6 T0 b1 (by omega)
 have U1 := qz6 U0 b1 (by omega)
 have C1 := C0.below (b1.mono (by omega))
 have K1 := K0.trans (b1.mono (by omega))
 have hz1 := b1.size
 have hzl : w.heap.size + 2 <= w0.heap.size := by omega
 clear T0 U0 C0 K0 b1 C hz0
 generalize hb : w0.heap.size = b at *
 clear hb
 go_wp2_with fail
 refine (qz7g w.heap.size b a len cap 0 h1 w1 (by omega) hlen D1 C1).mono ?_
 rintro e w2 ⟨x, y, z, u, g0, rfl, ⟨i2, h2, D2⟩, C2, O2⟩
 have hb1 := D1.blk
 have hb2 := D2.blk
 have T2 := qz7 T1 O2 (by omega) (by omega)
 have U2 := qz7 U1 O2 (by omega) (by omega)
 have K2 := K1.trans (O2.below (by omega) (by omega))
 have hz2 := O2.size
 clear T1 U1 C1 K1 O2 D1
 have TP := World.there_alloc (qzh w2 #[.int .i64 0, .int .i64 0, .int .i64 0, .int .i64 0] 25 4 (by decide)) (.cells #[.int .i64 0, .int .i64 0, .int .i64 0, .int .i64 0, .int .i64 0, .int .i64 0, .int .i64 0, .int .i64 0, .int .i64 0, .int .i64 0, .int .i64 0, .int .i64 0, .int .i64 0, .int .i64 0, .int .i64 0, .int .i64 0, .int .i64 0, .int .i64 0, .int .i64 0, .int .i64 0, .int .i64 0, .int .i64 0] 27)
 have TH := World.there_setCells (qzh (w2.alloc (.cells #[.int .i64 0, .int .i64 0, .int .i64 0, .int .i64 0] 25)) #[.int .i64 0, .int .i64 0, .int .i64 0, .int .i64 0, .int .i64 0, .int .i64 0, .int .i64 0, .int .i64 0, .int .i64 0, .int .i64 0, .int .i64 0, .int .i64 0, .int .i64 0, .int .i64 0, .int .i64 0, .int .i64 0, .int .i64 0, .int .i64 0, .int .i64 0, .int .i64 0, .int .i64 0, .int .i64 0] 27 22 (by decide)) w2.heap.size 0 [.int .i64 x, .int .i64 y, .int .i64 z, .int .i64 u]
 simp only [World.size_alloc] at TH
 have KA : Below w2.heap.size w2 ((((w2.alloc (.cells #[.int .i64 0, .int .i64 0, .int .i64 0, .int .i64 0] 25)).alloc (.cells #[.int .i64 0, .int .i64 0, .int .i64 0, .int .i64 0, .int .i64 0, .int .i64 0, .int .i64 0, .int .i64 0, .int .i64 0, .int .i64 0, .int .i64 0, .int .i64 0, .int .i64 0, .int .i64 0, .int .i64 0, .int .i64 0, .int .i64 0, .int .i64 0, .int .i64 0, .int .i64 0, .int .i64 0, .int .i64 0] 27)).setCells w2.heap.size 0 [.int .i64 x, .int .i64 y, .int .i64 z, .int .i64 u]).setCells (w2.heap.size + 1) 0 (hdC g0)) := Below.setCells (by omega) _ _ _ (Below.setCells (Nat.le_refl _) _ _ _ (((Below.refl _ _).alloc (Nat.le_refl _) _).alloc (by simp) _))
 have RA : ((((w2.alloc (.cells #[.int .i64 0, .int .i64 0, .int .i64 0, .int .i64 0] 25)).alloc (.cells #[.int .i64 0, .int .i64 0, .int .i64 0, .int .i64 0, .int .i64 0, .int .i64 0, .int .i64 0, .int .i64 0, .int .i64 0, .int .i64 0, .int .i64 0, .int .i64 0, .int .i64 0, .int .i64 0, .int .i64 0, .int .i64 0, .int .i64 0, .int .i64 0, .int .i64 0, .int .i64 0, .int .i64 0, .int .i64 0] 27)).setCells w2.heap.size 0 [.int .i64 x, .int .i64 y, .int .i64 z, .int .i64 u]).setCells (w2.heap.size + 1) 0 (hdC g0)).rangeAt (w2.heap.size + 1) 0 (hdC g0) := World.rangeAt_setCells_same _ _ _ _ TH
 have VA : ((((w2.alloc (.cells #[.int .i64 0, .int .i64 0, .int .i64 0, .int .i64 0] 25)).alloc (.cells #[.int .i64 0, .int .i64 0, .int .i64 0, .int .i64 0, .int .i64 0, .int .i64 0, .int .i64 0, .int .i64 0, .int .i64 0, .int .i64 0, .int .i64 0, .int .i64 0, .int .i64 0, .int .i64 0, .int .i64 0, .int .i64 0, .int .i64 0, .int .i64 0, .int .i64 0, .int .i64 0, .int .i64 0, .int .i64 0] 27)).setCells w2.heap.size 0 [.int .i64 x, .int .i64 y, .int .i64 z, .int .i64 u]).setCells (w2.heap.size + 1) 0 (hdC g0)).there (w2.heap.size + 1) 0 22 := World.there_setCells TH _ _ _
 have PA : ((((w2.alloc (.cells #[.int .i64 0, .int .i64 0, .int .i64 0, .int .i64 0] 25)).alloc (.cells #[.int .i64 0, .int .i64 0, .int .i64 0, .int .i64 0, .int .i64 0, .int .i64 0, .int .i64 0, .int .i64 0, .int .i64 0, .int .i64 0, .int .i64 0, .int .i64 0, .int .i64 0, .int .i64 0, .int .i64 0, .int .i64 0, .int .i64 0, .int .i64 0, .int .i64 0, .int .i64 0, .int .i64 0, .int .i64 0] 27)).setCells w2.heap.size 0 [.int .i64 x, .int .i64 y, .int .i64 z, .int .i64 u]).setCells (w2.heap.size + 1) 0 (hdC g0)).rangeAt w2.heap.size 0 [.int .i64 x, .int .i64 y, .int .i64 z, .int .i64 u] := qz3 (World.rangeAt_setCells_same _ _ _ _ TP) (qz8 (w2.heap.size + 1) (hdC g0) 0 _) (by rw [qzj]; simp; omega) (by omega)
 have zA : w2.heap.size + 2 <= ((((w2.alloc (.cells #[.int .i64 0, .int .i64 0, .int .i64 0, .int .i64 0] 25)).alloc (.cells #[.int .i64 0, .int .i64 0, .int .i64 0, .int .i64 0, .int .i64 0, .int .i64 0, .int .i64 0, .int .i64 0, .int .i64 0, .int .i64 0, .int .i64 0, .int .i64 0, .int .i64 0, .int .i64 0, .int .i64 0, .int .i64 0, .int .i64 0, .int .i64 0, .int .i64 0, .int .i64 0, .int .i64 0, .int .i64 0] 27)).setCells w2.heap.size 0 [.int .i64 x, .int .i64 y, .int .i64 z, .int .i64 u]).setCells (w2.heap.size + 1) 0 (hdC g0)).heap.size := by rw [qzj, qzj]; simp
 go_upto_region 3 with (first | (refine wpList_store_mid rfl 25 (.tmp 8) (.tmp 18) rfl w2.heap.size 0 #[.int .i64 x, .int .i64 y, .int .i64 z, .int .i64 u] ?sx1 ?sy1 ?st1 qzn (by simp [Value.oneCell']) ?_) | (refine wpList_store_mid rfl 27 (.tmp 9) (.tmp 19) rfl (w2.heap.size + 1) 0 (hdC g0).toArray ?sx2 ?sy2 ?st2 (qza g0) (qzf g0) ?_))
 try (case sx1 => rfl)
 try (case sy1 => rfl)
 try (case st1 => exact TP)
 try (case sx2 => rfl)
 try (case sy2 => rfl)
 try (case st2 => exact TH)
 clear TP TH
 generalize (((w2.alloc (.cells #[.int .i64 0, .int .i64 0, .int .i64 0, .int .i64 0] 25)).alloc (.cells #[.int .i64 0, .int .i64 0, .int .i64 0, .int .i64 0, .int .i64 0, .int .i64 0, .int .i64 0, .int .i64 0, .int .i64 0, .int .i64 0, .int .i64 0, .int .i64 0, .int .i64 0, .int .i64 0, .int .i64 0, .int .i64 0, .int .i64 0, .int .i64 0, .int .i64 0, .int .i64 0, .int .i64 0, .int .i64 0] 27)).setCells w2.heap.size 0 [.int .i64 x, .int .i64 y, .int .i64 z, .int .i64 u]).setCells (w2.heap.size + 1) 0 (hdC g0) = wa at *
 have D3 := D2.below KA
 have C3 := C2.below (KA.mono (by omega))
 have T3 := qz6 T2 KA (by omega)
 have U3 := qz6 U2 KA (by omega)
 have K3 := K2.trans (KA.mono (by omega))
 clear D2 C2 T2 U2 K2 KA
 have hPH1 : w2.heap.size < w2.heap.size + 1 := by omega
 have hPH2 : w2.heap.size + 1 < wa.heap.size := by omega
 have hPH3 : b < w2.heap.size := by omega
 clear zA hz2
 generalize hbH : w2.heap.size + 1 = bH at *
 generalize hbP : w2.heap.size = bP at *
 clear hbH hbP
 go_wp2_with fail
 refine (qz2z w.heap.size b a len cap i2 h2 2 wa (by omega) hlen D3 C3 (by omega) (by omega)).mono ?_
 rintro e wb ⟨r4, i4, h4, rfl, D4, C4, O4⟩
 have T4 := qz7 T3 O4 (by omega) (by omega)
 have U4 := qz7 U3 O4 (by omega) (by omega)
 have R4 := qz3 RA O4 (by omega) (by omega)
 have V4 := qz7 VA O4 (by omega) (by omega)
 have P4 := qz3 PA O4 (by omega) (by omega)
 have K4 := K3.trans (O4.below (by omega) (by omega))
 have z4 := O4.size
 clear D3 C3 T3 U3 RA VA PA K3 O4
 cases r4
 case false =>
  go_wp2_with (refine wpList_load_mid rfl 27 (.tmp 9) rfl bH 0 rfl (hdC g0) _ ?l5 Try.underlying27 rfl (qz1 _) ?_)
  try (case l5 => exact R4)
  refine (qz3k w.heap.size b a len cap i4 h4 (g0) wb (by omega) hlen D4 C4).mono ?_
  rintro e wc ⟨c, q, v, i5, h5, rfl, D5, C5, O5⟩
  have z5 := O5.size
  have T5 := qz7 T4 O5 (by omega) (by omega)
  have U5 := qz7 U4 O5 (by omega) (by omega)
  have R5 := qz3 R4 O5 (by omega) (by omega)
  have P5 := qz3 P4 O5 (by omega) (by omega)
  have K5 := K4.trans (O5.below (by omega) (by omega))
  clear D4 C4 T4 U4 R4 P4 K4 V4 O5
  go_wp2_with fail
  refine (qz2z w.heap.size b a len cap i5 h5 8 wc (by omega) hlen D5 C5 (by omega) (by omega)).mono ?_
  rintro e wd ⟨r6, i6, h6, rfl, D6, C6, O6⟩
  have z6 := O6.size
  have T9 := qz7 T5 O6 (by omega) (by omega)
  have U9 := qz7 U5 O6 (by omega) (by omega)
  have R9 := qz3 R5 O6 (by omega) (by omega)
  have P9 := qz3 P5 O6 (by omega) (by omega)
  have K9 := K5.trans (O6.below (by omega) (by omega))
  clear T5 U5 R5 P5 K5 O6 D5 C5 D6
  cases r6
  case false =>
   go_upto_region 8 with fail
   refine qz1k 9 (by kernel_rfl) (fun V => V.there w.heap.size 0 4 /\ V.there (w.heap.size + 1) 0 22 /\ V.rangeAt bP 0 [.int .i64 x, .int .i64 y, .int .i64 z, .int .i64 u] /\ V.rangeAt bH 0 (hdC g0) /\ Below w.heap.size w V /\ wd.heap.size <= V.heap.size) ?j1 (qzcr w.heap.size (w.heap.size + 1) x y z u (g0) c q v) (by kernel_rfl) (by kernel_rfl) (by kernel_rfl) (by kernel_rfl) (by rfl) ?step1 ?final1
   case j1 =>
    have bd : Below wd.heap.size wd { wd with drawn := wd.drawn + 1 } := ⟨rfl, rfl, rfl, Nat.le_refl _, fun _ _ => rfl⟩
    exact ⟨qz6 T9 bd (by omega), qz6 U9 bd (by omega), qz0 P9 bd (by omega), qz0 R9 bd (by omega), K9.trans (bd.mono (by omega)), Nat.le_refl _⟩
   case step1 =>
    intro i o hik ho' L aa V hLi hLk P hnn hd K hK
    obtain ⟨TV, UV, PV, RV, KV, hsV⟩ := id P
    match i, ho' with
    | 0, ho' =>
     obtain rfl := Option.some.inj ho'
     exact qzz 25 (.tmp 8) rfl bP 0 (hnn 8 rfl) [.int .i64 x, .int .i64 y, .int .i64 z, .int .i64 u] _ PV Try.underlying25 rfl qzn (hK _ _ rfl P (fun j v' _ _ q => qzy j v' V V q (Or.inl rfl)))
    | 1, ho' =>
     obtain rfl := Option.some.inj ho'
     exact qzz 27 (.tmp 9) rfl bH 0 (hnn 9 rfl) (hdC g0) _ RV Try.underlying27 rfl (qz1 _) (hK _ _ rfl P (fun j v' _ _ q => qzy j v' V V q (Or.inl rfl)))
    | 2, ho' =>
     obtain rfl := Option.some.inj ho'
     have e10 : aa.eval (.tmp 10) = .int .i64 c := hnn 10 rfl
     refine qz2 (v := .int .i64 c) (w' := V) ?_ (hK _ _ rfl P (fun j v' _ _ q => qzy j v' V V q (Or.inl rfl)))
     generalize aa.eval = ev at *
     go_simp
    | 3, ho' =>
     obtain rfl := Option.some.inj ho'
     have e11 : aa.eval (.tmp 11) = .int .i64 q := hnn 11 rfl
     refine qz2 (v := .int .i64 q) (w' := V) ?_ (hK _ _ rfl P (fun j v' _ _ q => qzy j v' V V q (Or.inl rfl)))
     generalize aa.eval = ev at *
     go_simp
    | 4, ho' =>
     obtain rfl := Option.some.inj ho'
     have e12 : aa.eval (.tmp 12) = .int .i64 v := hnn 12 rfl
     refine qz2 (v := .int .i64 v) (w' := V) ?_ (hK _ _ rfl P (fun j v' _ _ q => qzy j v' V V q (Or.inl rfl)))
     generalize aa.eval = ev at *
     go_simp
    | 5, ho' =>
     obtain rfl := Option.some.inj ho'
     have hOs := qz8 w.heap.size [.int .i64 x, .int .i64 y, .int .i64 z, .int .i64 u] 0 V
     exact wp_store_mid 25 (.tmp 2) (.tmp 39) rfl w.heap.size 0 #[.int .i64 x, .int .i64 y, .int .i64 z, .int .i64 u] (hnn 2 rfl) (hd ⟨0, .data⟩ (by simp) rfl 39 rfl).2 TV qzn (by simp [Value.oneCell']) (hK undef _ ⟨by show _ < (V.setCells _ _ _).heap.size; rw [qzj]; omega, World.rangeAt_setCells_same V w.heap.size 0 [.int .i64 x, .int .i64 y, .int .i64 z, .int .i64 u] TV⟩ ⟨World.there_setCells TV _ _ _, World.there_setCells UV _ _ _, qz3 PV hOs (by omega) (by omega), qz3 RV hOs (by omega) (by omega), KV.trans (hOs.below (Nat.le_refl _) (by omega)), by show _ <= (V.setCells _ _ _).heap.size; rw [qzj]; exact hsV⟩ (fun j v' hj _ q => qzy j v' V _ q (Or.inr ⟨_, hOs, fun e => absurd e hj, fun _ => by omega⟩)))
    | 6, ho' =>
     obtain rfl := Option.some.inj ho'
     have hOs := qz8 (w.heap.size + 1) (hdC g0) 0 V
     exact wp_store_mid 27 (.tmp 3) (.tmp 40) rfl (w.heap.size + 1) 0 (hdC g0).toArray (hnn 3 rfl) (hd ⟨1, .data⟩ (by simp) rfl 40 rfl).2 UV (qza _) (qzf _) (hK undef _ ⟨by rw [List.toList_toArray, qzj]; omega, World.rangeAt_setCells_same V (w.heap.size + 1) 0 (hdC g0) UV⟩ ⟨World.there_setCells TV _ _ _, World.there_setCells UV _ _ _, qz3 PV hOs (by omega) (by omega), qz3 RV hOs (by omega) (by omega), KV.trans (hOs.below (by omega) (by omega)), by rw [List.toList_toArray, qzj]; exact hsV⟩ (fun j v' hj _ q => qzy j v' V _ q (Or.inr ⟨_, hOs, fun _ => by omega, fun e => absurd e hj⟩)))
    | 7, ho' =>
     obtain rfl := Option.some.inj ho'
     have e41 : aa.eval (.tmp 41) = .int .i64 c := (hd ⟨2, .data⟩ (by simp) rfl 41 rfl).2
     refine qz2 (v := .int .i64 c) (w' := V) ?_ (hK _ _ rfl P (fun j v' _ _ q => qzy j v' V V q (Or.inl rfl)))
     generalize aa.eval = ev at *
     go_simp
    | 8, ho' =>
     obtain rfl := Option.some.inj ho'
     have e42 : aa.eval (.tmp 42) = .int .i64 q := (hd ⟨3, .data⟩ (by simp) rfl 42 rfl).2
     refine qz2 (v := .int .i64 q) (w' := V) ?_ (hK _ _ rfl P (fun j v' _ _ q => qzy j v' V V q (Or.inl rfl)))
     generalize aa.eval = ev at *
     go_simp
    | n + 9, ho' => omega
   intro L vs V hLall P10 hG
   obtain ⟨_, _, _, _, K10, _⟩ := P10
   have g4 : vs 4 = .int .i64 v := hG 4 (by decide)
   have g5 : _ /\ V.rangeAt w.heap.size 0 [.int .i64 x, .int .i64 y, .int .i64 z, .int .i64 u] := hG 5 (by decide)
   have g6 : _ /\ V.rangeAt (w.heap.size + 1) 0 (hdC g0) := hG 6 (by decide)
   have g7 : vs 7 = .int .i64 c := hG 7 (by decide)
   have g8 : vs 8 = .int .i64 q := hG 8 (by decide)
   generalize hl : laid _ vs _ _ _ = A9
   simp only [List.drop_succ_cons, List.drop_zero]
   have q43 : A9.eval (.tmp 43) = .int .i64 v := by rw [<- g4, <- hl]; kernel_rfl
   refine qz4n rfl (v := .int .i64 v) ?last1 ?_
   case last1 =>
    generalize A9.eval = ev at *
    go_simp
   have r2 : (A9.put (some 6) (.int .i64 v)).tmps.getD 2 undef = .pointer (some ⟨w.heap.size, 0, none⟩) := by rw [<- hl]; kernel_rfl
   have r3 : (A9.put (some 6) (.int .i64 v)).tmps.getD 3 undef = .pointer (some ⟨w.heap.size + 1, 0, none⟩) := by rw [<- hl]; kernel_rfl
   have r4 : (A9.put (some 6) (.int .i64 v)).tmps.getD 4 undef = .int .i64 c := by rw [<- g7, <- hl]; kernel_rfl
   have r5 : (A9.put (some 6) (.int .i64 v)).tmps.getD 5 undef = .int .i64 q := by rw [<- g8, <- hl]; kernel_rfl
   have r6 : (A9.put (some 6) (.int .i64 v)).tmps.getD 6 undef = .int .i64 v := by rw [<- hl]; kernel_rfl
   have rd : (A9.put (some 6) (.int .i64 v)).defers = [] := by rw [<- hl]; kernel_rfl
   generalize A9.put _ _ = A10 at *
   clear hl q43
   go_wp2
   refine bodyPost_ret (v := .tuple #[.agg #[.int .i64 x, .int .i64 y, .int .i64 z, .int .i64 u], .agg (hdC g0).toArray, .int .i64 c, .int .i64 q, .int .i64 v]) ?_ (by first | exact rd | simpa using rd) ⟨x, y, z, u, g0, c, q, v, rfl, K10⟩
   have fin := qz2l (P := Try.prog) Try.results7 A10.tmps V w.heap.size 0 (w.heap.size + 1) 0 r2 r3 [.int .i64 x, .int .i64 y, .int .i64 z, .int .i64 u] (hdC g0) _ _ g5.2 Try.underlying25 rfl qzn g6.2 Try.underlying27 rfl (qz1 _)
   rw [r4, r5, r6] at fin
   first | exact fin | simpa using fin
  case true =>
   go_wp2_with fail
   refine (qz4j a len cap wd hlen (C6.weaken (by omega))).mono ?_
   rintro e we ⟨c', q', v', rfl, bE⟩
   have zE := bE.size
   replace T9 := qz6 T9 bE (by omega)
   replace U9 := qz6 U9 bE (by omega)
   replace R9 := qz0 R9 bE (by omega)
   replace P9 := qz0 P9 bE (by omega)
   replace K9 := K9.trans (bE.mono (by omega))
   clear bE C6
   go_upto_region 8 with fail
   refine qz1k 9 (by kernel_rfl) (fun V => V.there w.heap.size 0 4 /\ V.there (w.heap.size + 1) 0 22 /\ V.rangeAt bP 0 [.int .i64 x, .int .i64 y, .int .i64 z, .int .i64 u] /\ V.rangeAt bH 0 (hdC g0) /\ Below w.heap.size w V /\ we.heap.size <= V.heap.size) ?j2 (qzcr w.heap.size (w.heap.size + 1) x y z u (g0) c' q' v') (by kernel_rfl) (by kernel_rfl) (by kernel_rfl) (by kernel_rfl) (by rfl) ?step2 ?final2
   case j2 =>
    have bd : Below we.heap.size we { we with drawn := we.drawn + 1 } := ⟨rfl, rfl, rfl, Nat.le_refl _, fun _ _ => rfl⟩
    exact ⟨qz6 T9 bd (by omega), qz6 U9 bd (by omega), qz0 P9 bd (by omega), qz0 R9 bd (by omega), K9.trans (bd.mono (by omega)), Nat.le_refl _⟩
   case step2 =>
    intro i o hik ho' L aa V hLi hLk P hnn hd K hK
    obtain ⟨TV, UV, PV, RV, KV, hsV⟩ := id P
    match i, ho' with
    | 0, ho' =>
     obtain rfl := Option.some.inj ho'
     exact qzz 25 (.tmp 8) rfl bP 0 (hnn 8 rfl) [.int .i64 x, .int .i64 y, .int .i64 z, .int .i64 u] _ PV Try.underlying25 rfl qzn (hK _ _ rfl P (fun j v' _ _ q => qzy j v' V V q (Or.inl rfl)))
    | 1, ho' =>
     obtain rfl := Option.some.inj ho'
     exact qzz 27 (.tmp 9) rfl bH 0 (hnn 9 rfl) (hdC g0) _ RV Try.underlying27 rfl (qz1 _) (hK _ _ rfl P (fun j v' _ _ q => qzy j v' V V q (Or.inl rfl)))
    | 2, ho' =>
     obtain rfl := Option.some.inj ho'
     have e10 : aa.eval (.tmp 10) = .int .i64 c' := hnn 10 rfl
     refine qz2 (v := .int .i64 c') (w' := V) ?_ (hK _ _ rfl P (fun j v' _ _ q => qzy j v' V V q (Or.inl rfl)))
     generalize aa.eval = ev at *
     go_simp
    | 3, ho' =>
     obtain rfl := Option.some.inj ho'
     have e11 : aa.eval (.tmp 11) = .int .i64 q' := hnn 11 rfl
     refine qz2 (v := .int .i64 q') (w' := V) ?_ (hK _ _ rfl P (fun j v' _ _ q => qzy j v' V V q (Or.inl rfl)))
     generalize aa.eval = ev at *
     go_simp
    | 4, ho' =>
     obtain rfl := Option.some.inj ho'
     have e12 : aa.eval (.tmp 12) = .int .i64 v' := hnn 12 rfl
     refine qz2 (v := .int .i64 v') (w' := V) ?_ (hK _ _ rfl P (fun j v' _ _ q => qzy j v' V V q (Or.inl rfl)))
     generalize aa.eval = ev at *
     go_simp
    | 5, ho' =>
     obtain rfl := Option.some.inj ho'
     have hOs := qz8 w.heap.size [.int .i64 x, .int .i64 y, .int .i64 z, .int .i64 u] 0 V
     exact wp_store_mid 25 (.tmp 2) (.tmp 39) rfl w.heap.size 0 #[.int .i64 x, .int .i64 y, .int .i64 z, .int .i64 u] (hnn 2 rfl) (hd ⟨0, .data⟩ (by simp) rfl 39 rfl).2 TV qzn (by simp [Value.oneCell']) (hK undef _ ⟨by show _ < (V.setCells _ _ _).heap.size; rw [qzj]; omega, World.rangeAt_setCells_same V w.heap.size 0 [.int .i64 x, .int .i64 y, .int .i64 z, .int .i64 u] TV⟩ ⟨World.there_setCells TV _ _ _, World.there_setCells UV _ _ _, qz3 PV hOs (by omega) (by omega), qz3 RV hOs (by omega) (by omega), KV.trans (hOs.below (Nat.le_refl _) (by omega)), by show _ <= (V.setCells _ _ _).heap.size; rw [qzj]; exact hsV⟩ (fun j v' hj _ q => qzy j v' V _ q (Or.inr ⟨_, hOs, fun e => absurd e hj, fun _ => by omega⟩)))
    | 6, ho' =>
     obtain rfl := Option.some.inj ho'
     have hOs := qz8 (w.heap.size + 1) (hdC g0) 0 V
     exact wp_store_mid 27 (.tmp 3) (.tmp 40) rfl (w.heap.size + 1) 0 (hdC g0).toArray (hnn 3 rfl) (hd ⟨1, .data⟩ (by simp) rfl 40 rfl).2 UV (qza _) (qzf _) (hK undef _ ⟨by rw [List.toList_toArray, qzj]; omega, World.rangeAt_setCells_same V (w.heap.size + 1) 0 (hdC g0) UV⟩ ⟨World.there_setCells TV _ _ _, World.there_setCells UV _ _ _, qz3 PV hOs (by omega) (by omega), qz3 RV hOs (by omega) (by omega), KV.trans (hOs.below (by omega) (by omega)), by rw [List.toList_toArray, qzj]; exact hsV⟩ (fun j v' hj _ q => qzy j v' V _ q (Or.inr ⟨_, hOs, fun _ => by omega, fun e => absurd e hj⟩)))
    | 7, ho' =>
     obtain rfl := Option.some.inj ho'
     have e41 : aa.eval (.tmp 41) = .int .i64 c' := (hd ⟨2, .data⟩ (by simp) rfl 41 rfl).2
     refine qz2 (v := .int .i64 c') (w' := V) ?_ (hK _ _ rfl P (fun j v' _ _ q => qzy j v' V V q (Or.inl rfl)))
     generalize aa.eval = ev at *
     go_simp
    | 8, ho' =>
     obtain rfl := Option.some.inj ho'
     have e42 : aa.eval (.tmp 42) = .int .i64 q' := (hd ⟨3, .data⟩ (by simp) rfl 42 rfl).2
     refine qz2 (v := .int .i64 q') (w' := V) ?_ (hK _ _ rfl P (fun j v' _ _ q => qzy j v' V V q (Or.inl rfl)))
     generalize aa.eval = ev at *
     go_simp
    | n + 9, ho' => omega
   intro L vs V hLall P10 hG
   obtain ⟨_, _, _, _, K10, _⟩ := P10
   have g4 : vs 4 = .int .i64 v' := hG 4 (by decide)
   have g5 : _ /\ V.rangeAt w.heap.size 0 [.int .i64 x, .int .i64 y, .int .i64 z, .int .i64 u] := hG 5 (by decide)
   have g6 : _ /\ V.rangeAt (w.heap.size + 1) 0 (hdC g0) := hG 6 (by decide)
   have g7 : vs 7 = .int .i64 c' := hG 7 (by decide)
   have g8 : vs 8 = .int .i64 q' := hG 8 (by decide)
   generalize hl : laid _ vs _ _ _ = A9
   simp only [List.drop_succ_cons, List.drop_zero]
   have q43 : A9.eval (.tmp 43) = .int .i64 v' := by rw [<- g4, <- hl]; kernel_rfl
   refine qz4n rfl (v := .int .i64 v') ?last2 ?_
   case last2 =>
    generalize A9.eval = ev at *
    go_simp
   have r2 : (A9.put (some 6) (.int .i64 v')).tmps.getD 2 undef = .pointer (some ⟨w.heap.size, 0, none⟩) := by rw [<- hl]; kernel_rfl
   have r3 : (A9.put (some 6) (.int .i64 v')).tmps.getD 3 undef = .pointer (some ⟨w.heap.size + 1, 0, none⟩) := by rw [<- hl]; kernel_rfl
   have r4 : (A9.put (some 6) (.int .i64 v')).tmps.getD 4 undef = .int .i64 c' := by rw [<- g7, <- hl]; kernel_rfl
   have r5 : (A9.put (some 6) (.int .i64 v')).tmps.getD 5 undef = .int .i64 q' := by rw [<- g8, <- hl]; kernel_rfl
   have r6 : (A9.put (some 6) (.int .i64 v')).tmps.getD 6 undef = .int .i64 v' := by rw [<- hl]; kernel_rfl
   have rd : (A9.put (some 6) (.int .i64 v')).defers = [] := by rw [<- hl]; kernel_rfl
   generalize A9.put _ _ = A10 at *
   clear hl q43
   go_wp2
   refine bodyPost_ret (v := .tuple #[.agg #[.int .i64 x, .int .i64 y, .int .i64 z, .int .i64 u], .agg (hdC g0).toArray, .int .i64 c', .int .i64 q', .int .i64 v']) ?_ (by first | exact rd | simpa using rd) ⟨x, y, z, u, g0, c', q', v', rfl, K10⟩
   have fin := qz2l (P := Try.prog) Try.results7 A10.tmps V w.heap.size 0 (w.heap.size + 1) 0 r2 r3 [.int .i64 x, .int .i64 y, .int .i64 z, .int .i64 u] (hdC g0) _ _ g5.2 Try.underlying25 rfl qzn g6.2 Try.underlying27 rfl (qz1 _)
   rw [r4, r5, r6] at fin
   first | exact fin | simpa using fin
 case true =>
  go_upto_region 4 with fail
  go_wp2_with (refine wpList_load_mid rfl 27 (.tmp 9) rfl bH 0 rfl (hdC g0) _ ?l4 Try.underlying27 rfl (qz1 _) ?_)
  try (case l4 => exact R4)
  refine (qz42 g0 0 0 0 wb).mono ?_
  rintro e wx ⟨rfl, bX⟩
  have zX := bX.size
  replace T4 := qz6 T4 bX (by omega)
  replace U4 := qz6 U4 bX (by omega)
  replace V4 := qz6 V4 bX (by omega)
  replace P4 := qz0 P4 bX (by omega)
  replace K4 := K4.trans (bX.mono (by omega))
  replace D4 := D4.below bX
  replace C4 := C4.below (bX.mono (by omega))
  clear R4 bX
  have oX := qz8 bH (hdC (qzb g0 0 0 0)) 0 wx
  have R4 := World.rangeAt_setCells_same wx bH 0 (hdC (qzb g0 0 0 0)) V4
  have zY : (wx.setCells bH 0 (hdC (qzb g0 0 0 0))).heap.size = wx.heap.size := qzj _ _ _ _
  have tok : True := trivial
  go_wp2_with (first | (refine wpList_store_mid rfl 27 (.tmp 9) (.tmp 23) rfl bH 0 (hdC (qzb g0 0 0 0)).toArray ?sx ?sy ?st (qza _) (qzf _) ?_) | (clear tok; refine qz2e (wx.setCells bH 0 (hdC (qzb g0 0 0 0))) ?_))
  try (case sx => rfl)
  try (case sy => rfl)
  try (case st => exact V4)
  have KY := K4.trans (oX.below (by omega) (by omega))
  have DY := D4.only oX (by omega)
  have CY := C4.below (oX.below (by omega) (by omega))
  have TY := qz7 T4 oX (by omega) (by omega)
  have UY := qz7 U4 oX (by omega) (by omega)
  have PY := qz3 P4 oX (by omega) (by omega)
  clear T4 U4 V4 P4 K4 D4 C4 oX
  generalize wx.setCells bH 0 (hdC (qzb g0 0 0 0)) = wy at *
  show wpList _ _ _ _ _ wy
  have T4 := TY
  have U4 := UY
  have P4 := PY
  have K4 := KY
  have D4 := DY
  have C4 := CY
  have V4 : True := trivial
  clear TY UY PY KY DY CY
  go_wp2_with (refine wpList_load_mid rfl 27 (.tmp 9) rfl bH 0 rfl (hdC (qzb g0 0 0 0)) _ ?l5 Try.underlying27 rfl (qz1 _) ?_)
  try (case l5 => exact R4)
  refine (qz3k w.heap.size b a len cap i4 h4 ((qzb g0 0 0 0)) wy (by omega) hlen D4 C4).mono ?_
  rintro e wc ⟨c, q, v, i5, h5, rfl, D5, C5, O5⟩
  have z5 := O5.size
  have T5 := qz7 T4 O5 (by omega) (by omega)
  have U5 := qz7 U4 O5 (by omega) (by omega)
  have R5 := qz3 R4 O5 (by omega) (by omega)
  have P5 := qz3 P4 O5 (by omega) (by omega)
  have K5 := K4.trans (O5.below (by omega) (by omega))
  clear D4 C4 T4 U4 R4 P4 K4 V4 O5
  go_wp2_with fail
  refine (qz2z w.heap.size b a len cap i5 h5 8 wc (by omega) hlen D5 C5 (by omega) (by omega)).mono ?_
  rintro e wd ⟨r6, i6, h6, rfl, D6, C6, O6⟩
  have z6 := O6.size
  have T9 := qz7 T5 O6 (by omega) (by omega)
  have U9 := qz7 U5 O6 (by omega) (by omega)
  have R9 := qz3 R5 O6 (by omega) (by omega)
  have P9 := qz3 P5 O6 (by omega) (by omega)
  have K9 := K5.trans (O6.below (by omega) (by omega))
  clear T5 U5 R5 P5 K5 O6 D5 C5 D6
  cases r6
  case false =>
   go_upto_region 8 with fail
   refine qz1k 9 (by kernel_rfl) (fun V => V.there w.heap.size 0 4 /\ V.there (w.heap.size + 1) 0 22 /\ V.rangeAt bP 0 [.int .i64 x, .int .i64 y, .int .i64 z, .int .i64 u] /\ V.rangeAt bH 0 (hdC (qzb g0 0 0 0)) /\ Below w.heap.size w V /\ wd.heap.size <= V.heap.size) ?j3 (qzcr w.heap.size (w.heap.size + 1) x y z u ((qzb g0 0 0 0)) c q v) (by kernel_rfl) (by kernel_rfl) (by kernel_rfl) (by kernel_rfl) (by rfl) ?step3 ?final3
   case j3 =>
    have bd : Below wd.heap.size wd { wd with drawn := wd.drawn + 1 } := ⟨rfl, rfl, rfl, Nat.le_refl _, fun _ _ => rfl⟩
    exact ⟨qz6 T9 bd (by omega), qz6 U9 bd (by omega), qz0 P9 bd (by omega), qz0 R9 bd (by omega), K9.trans (bd.mono (by omega)), Nat.le_refl _⟩
   case step3 =>
    intro i o hik ho' L aa V hLi hLk P hnn hd K hK
    obtain ⟨TV, UV, PV, RV, KV, hsV⟩ := id P
    match i, ho' with
    | 0, ho' =>
     obtain rfl := Option.some.inj ho'
     exact qzz 25 (.tmp 8) rfl bP 0 (hnn 8 rfl) [.int .i64 x, .int .i64 y, .int .i64 z, .int .i64 u] _ PV Try.underlying25 rfl qzn (hK _ _ rfl P (fun j v' _ _ q => qzy j v' V V q (Or.inl rfl)))
    | 1, ho' =>
     obtain rfl := Option.some.inj ho'
     exact qzz 27 (.tmp 9) rfl bH 0 (hnn 9 rfl) (hdC (qzb g0 0 0 0)) _ RV Try.underlying27 rfl (qz1 _) (hK _ _ rfl P (fun j v' _ _ q => qzy j v' V V q (Or.inl rfl)))
    | 2, ho' =>
     obtain rfl := Option.some.inj ho'
     have e10 : aa.eval (.tmp 10) = .int .i64 c := hnn 10 rfl
     refine qz2 (v := .int .i64 c) (w' := V) ?_ (hK _ _ rfl P (fun j v' _ _ q => qzy j v' V V q (Or.inl rfl)))
     generalize aa.eval = ev at *
     go_simp
    | 3, ho' =>
     obtain rfl := Option.some.inj ho'
     have e11 : aa.eval (.tmp 11) = .int .i64 q := hnn 11 rfl
     refine qz2 (v := .int .i64 q) (w' := V) ?_ (hK _ _ rfl P (fun j v' _ _ q => qzy j v' V V q (Or.inl rfl)))
     generalize aa.eval = ev at *
     go_simp
    | 4, ho' =>
     obtain rfl := Option.some.inj ho'
     have e12 : aa.eval (.tmp 12) = .int .i64 v := hnn 12 rfl
     refine qz2 (v := .int .i64 v) (w' := V) ?_ (hK _ _ rfl P (fun j v' _ _ q => qzy j v' V V q (Or.inl rfl)))
     generalize aa.eval = ev at *
     go_simp
    | 5, ho' =>
     obtain rfl := Option.some.inj ho'
     have hOs := qz8 w.heap.size [.int .i64 x, .int .i64 y, .int .i64 z, .int .i64 u] 0 V
     exact wp_store_mid 25 (.tmp 2) (.tmp 39) rfl w.heap.size 0 #[.int .i64 x, .int .i64 y, .int .i64 z, .int .i64 u] (hnn 2 rfl) (hd ⟨0, .data⟩ (by simp) rfl 39 rfl).2 TV qzn (by simp [Value.oneCell']) (hK undef _ ⟨by show _ < (V.setCells _ _ _).heap.size; rw [qzj]; omega, World.rangeAt_setCells_same V w.heap.size 0 [.int .i64 x, .int .i64 y, .int .i64 z, .int .i64 u] TV⟩ ⟨World.there_setCells TV _ _ _, World.there_setCells UV _ _ _, qz3 PV hOs (by omega) (by omega), qz3 RV hOs (by omega) (by omega), KV.trans (hOs.below (Nat.le_refl _) (by omega)), by show _ <= (V.setCells _ _ _).heap.size; rw [qzj]; exact hsV⟩ (fun j v' hj _ q => qzy j v' V _ q (Or.inr ⟨_, hOs, fun e => absurd e hj, fun _ => by omega⟩)))
    | 6, ho' =>
     obtain rfl := Option.some.inj ho'
     have hOs := qz8 (w.heap.size + 1) (hdC (qzb g0 0 0 0)) 0 V
     exact wp_store_mid 27 (.tmp 3) (.tmp 40) rfl (w.heap.size + 1) 0 (hdC (qzb g0 0 0 0)).toArray (hnn 3 rfl) (hd ⟨1, .data⟩ (by simp) rfl 40 rfl).2 UV (qza _) (qzf _) (hK undef _ ⟨by rw [List.toList_toArray, qzj]; omega, World.rangeAt_setCells_same V (w.heap.size + 1) 0 (hdC (qzb g0 0 0 0)) UV⟩ ⟨World.there_setCells TV _ _ _, World.there_setCells UV _ _ _, qz3 PV hOs (by omega) (by omega), qz3 RV hOs (by omega) (by omega), KV.trans (hOs.below (by omega) (by omega)), by rw [List.toList_toArray, qzj]; exact hsV⟩ (fun j v' hj _ q => qzy j v' V _ q (Or.inr ⟨_, hOs, fun _ => by omega, fun e => absurd e hj⟩)))
    | 7, ho' =>
     obtain rfl := Option.some.inj ho'
     have e41 : aa.eval (.tmp 41) = .int .i64 c := (hd ⟨2, .data⟩ (by simp) rfl 41 rfl).2
     refine qz2 (v := .int .i64 c) (w' := V) ?_ (hK _ _ rfl P (fun j v' _ _ q => qzy j v' V V q (Or.inl rfl)))
     generalize aa.eval = ev at *
     go_simp
    | 8, ho' =>
     obtain rfl := Option.some.inj ho'
     have e42 : aa.eval (.tmp 42) = .int .i64 q := (hd ⟨3, .data⟩ (by simp) rfl 42 rfl).2
     refine qz2 (v := .int .i64 q) (w' := V) ?_ (hK _ _ rfl P (fun j v' _ _ q => qzy j v' V V q (Or.inl rfl)))
     generalize aa.eval = ev at *
     go_simp
    | n + 9, ho' => omega
   intro L vs V hLall P10 hG
   obtain ⟨_, _, _, _, K10, _⟩ := P10
   have g4 : vs 4 = .int .i64 v := hG 4 (by decide)
   have g5 : _ /\ V.rangeAt w.heap.size 0 [.int .i64 x, .int .i64 y, .int .i64 z, .int .i64 u] := hG 5 (by decide)
   have g6 : _ /\ V.rangeAt (w.heap.size + 1) 0 (hdC (qzb g0 0 0 0)) := hG 6 (by decide)
   have g7 : vs 7 = .int .i64 c := hG 7 (by decide)
   have g8 : vs 8 = .int .i64 q := hG 8 (by decide)
   generalize hl : laid _ vs _ _ _ = A9
   simp only [List.drop_succ_cons, List.drop_zero]
   have q43 : A9.eval (.tmp 43) = .int .i64 v := by rw [<- g4, <- hl]; kernel_rfl
   refine qz4n rfl (v := .int .i64 v) ?last3 ?_
   case last3 =>
    generalize A9.eval = ev at *
    go_simp
   have r2 : (A9.put (some 6) (.int .i64 v)).tmps.getD 2 undef = .pointer (some ⟨w.heap.size, 0, none⟩) := by rw [<- hl]; kernel_rfl
   have r3 : (A9.put (some 6) (.int .i64 v)).tmps.getD 3 undef = .pointer (some ⟨w.heap.size + 1, 0, none⟩) := by rw [<- hl]; kernel_rfl
   have r4 : (A9.put (some 6) (.int .i64 v)).tmps.getD 4 undef = .int .i64 c := by rw [<- g7, <- hl]; kernel_rfl
   have r5 : (A9.put (some 6) (.int .i64 v)).tmps.getD 5 undef = .int .i64 q := by rw [<- g8, <- hl]; kernel_rfl
   have r6 : (A9.put (some 6) (.int .i64 v)).tmps.getD 6 undef = .int .i64 v := by rw [<- hl]; kernel_rfl
   have rd : (A9.put (some 6) (.int .i64 v)).defers = [] := by rw [<- hl]; kernel_rfl
   generalize A9.put _ _ = A10 at *
   clear hl q43
   go_wp2
   refine bodyPost_ret (v := .tuple #[.agg #[.int .i64 x, .int .i64 y, .int .i64 z, .int .i64 u], .agg (hdC (qzb g0 0 0 0)).toArray, .int .i64 c, .int .i64 q, .int .i64 v]) ?_ (by first | exact rd | simpa using rd) ⟨x, y, z, u, (qzb g0 0 0 0), c, q, v, rfl, K10⟩
   have fin := qz2l (P := Try.prog) Try.results7 A10.tmps V w.heap.size 0 (w.heap.size + 1) 0 r2 r3 [.int .i64 x, .int .i64 y, .int .i64 z, .int .i64 u] (hdC (qzb g0 0 0 0)) _ _ g5.2 Try.underlying25 rfl qzn g6.2 Try.underlying27 rfl (qz1 _)
   rw [r4, r5, r6] at fin
   first | exact fin | simpa using fin
  case true =>
   go_wp2_with fail
   refine (qz4j a len cap wd hlen (C6.weaken (by omega))).mono ?_
   rintro e we ⟨c', q', v', rfl, bE⟩
   have zE := bE.size
   replace T9 := qz6 T9 bE (by omega)
   replace U9 := qz6 U9 bE (by omega)
   replace R9 := qz0 R9 bE (by omega)
   replace P9 := qz0 P9 bE (by omega)
   replace K9 := K9.trans (bE.mono (by omega))
   clear bE C6
   go_upto_region 8 with fail
   refine qz1k 9 (by kernel_rfl) (fun V => V.there w.heap.size 0 4 /\ V.there (w.heap.size + 1) 0 22 /\ V.rangeAt bP 0 [.int .i64 x, .int .i64 y, .int .i64 z, .int .i64 u] /\ V.rangeAt bH 0 (hdC (qzb g0 0 0 0)) /\ Below w.heap.size w V /\ we.heap.size <= V.heap.size) ?j4 (qzcr w.heap.size (w.heap.size + 1) x y z u ((qzb g0 0 0 0)) c' q' v') (by kernel_rfl) (by kernel_rfl) (by kernel_rfl) (by kernel_rfl) (by rfl) ?step4 ?final4
   case j4 =>
    have bd : Below we.heap.size we { we with drawn := we.drawn + 1 } := ⟨rfl, rfl, rfl, Nat.le_refl _, fun _ _ => rfl⟩
    exact ⟨qz6 T9 bd (by omega), qz6 U9 bd (by omega), qz0 P9 bd (by omega), qz0 R9 bd (by omega), K9.trans (bd.mono (by omega)), Nat.le_refl _⟩
   case step4 =>
    intro i o hik ho' L aa V hLi hLk P hnn hd K hK
    obtain ⟨TV, UV, PV, RV, KV, hsV⟩ := id P
    match i, ho' with
    | 0, ho' =>
     obtain rfl := Option.some.inj ho'
     exact qzz 25 (.tmp 8) rfl bP 0 (hnn 8 rfl) [.int .i64 x, .int .i64 y, .int .i64 z, .int .i64 u] _ PV Try.underlying25 rfl qzn (hK _ _ rfl P (fun j v' _ _ q => qzy j v' V V q (Or.inl rfl)))
    | 1, ho' =>
     obtain rfl := Option.some.inj ho'
     exact qzz 27 (.tmp 9) rfl bH 0 (hnn 9 rfl) (hdC (qzb g0 0 0 0)) _ RV Try.underlying27 rfl (qz1 _) (hK _ _ rfl P (fun j v' _ _ q => qzy j v' V V q (Or.inl rfl)))
    | 2, ho' =>
     obtain rfl := Option.some.inj ho'
     have e10 : aa.eval (.tmp 10) = .int .i64 c' := hnn 10 rfl
     refine qz2 (v := .int .i64 c') (w' := V) ?_ (hK _ _ rfl P (fun j v' _ _ q => qzy j v' V V q (Or.inl rfl)))
     generalize aa.eval = ev at *
     go_simp
    | 3, ho' =>
     obtain rfl := Option.some.inj ho'
     have e11 : aa.eval (.tmp 11) = .int .i64 q' := hnn 11 rfl
     refine qz2 (v := .int .i64 q') (w' := V) ?_ (hK _ _ rfl P (fun j v' _ _ q => qzy j v' V V q (Or.inl rfl)))
     generalize aa.eval = ev at *
     go_simp
    | 4, ho' =>
     obtain rfl := Option.some.inj ho'
     have e12 : aa.eval (.tmp 12) = .int .i64 v' := hnn 12 rfl
     refine qz2 (v := .int .i64 v') (w' := V) ?_ (hK _ _ rfl P (fun j v' _ _ q => qzy j v' V V q (Or.inl rfl)))
     generalize aa.eval = ev at *
     go_simp
    | 5, ho' =>
     obtain rfl := Option.some.inj ho'
     have hOs := qz8 w.heap.size [.int .i64 x, .int .i64 y, .int .i64 z, .int .i64 u] 0 V
     exact wp_store_mid 25 (.tmp 2) (.tmp 39) rfl w.heap.size 0 #[.int .i64 x, .int .i64 y, .int .i64 z, .int .i64 u] (hnn 2 rfl) (hd ⟨0, .data⟩ (by simp) rfl 39 rfl).2 TV qzn (by simp [Value.oneCell']) (hK undef _ ⟨by show _ < (V.setCells _ _ _).heap.size; rw [qzj]; omega, World.rangeAt_setCells_same V w.heap.size 0 [.int .i64 x, .int .i64 y, .int .i64 z, .int .i64 u] TV⟩ ⟨World.there_setCells TV _ _ _, World.there_setCells UV _ _ _, qz3 PV hOs (by omega) (by omega), qz3 RV hOs (by omega) (by omega), KV.trans (hOs.below (Nat.le_refl _) (by omega)), by show _ <= (V.setCells _ _ _).heap.size; rw [qzj]; exact hsV⟩ (fun j v' hj _ q => qzy j v' V _ q (Or.inr ⟨_, hOs, fun e => absurd e hj, fun _ => by omega⟩)))
    | 6, ho' =>
     obtain rfl := Option.some.inj ho'
     have hOs := qz8 (w.heap.size + 1) (hdC (qzb g0 0 0 0)) 0 V
     exact wp_store_mid 27 (.tmp 3) (.tmp 40) rfl (w.heap.size + 1) 0 (hdC (qzb g0 0 0 0)).toArray (hnn 3 rfl) (hd ⟨1, .data⟩ (by simp) rfl 40 rfl).2 UV (qza _) (qzf _) (hK undef _ ⟨by rw [List.toList_toArray, qzj]; omega, World.rangeAt_setCells_same V (w.heap.size + 1) 0 (hdC (qzb g0 0 0 0)) UV⟩ ⟨World.there_setCells TV _ _ _, World.there_setCells UV _ _ _, qz3 PV hOs (by omega) (by omega), qz3 RV hOs (by omega) (by omega), KV.trans (hOs.below (by omega) (by omega)), by rw [List.toList_toArray, qzj]; exact hsV⟩ (fun j v' hj _ q => qzy j v' V _ q (Or.inr ⟨_, hOs, fun _ => by omega, fun e => absurd e hj⟩)))
    | 7, ho' =>
     obtain rfl := Option.some.inj ho'
     have e41 : aa.eval (.tmp 41) = .int .i64 c' := (hd ⟨2, .data⟩ (by simp) rfl 41 rfl).2
     refine qz2 (v := .int .i64 c') (w' := V) ?_ (hK _ _ rfl P (fun j v' _ _ q => qzy j v' V V q (Or.inl rfl)))
     generalize aa.eval = ev at *
     go_simp
    | 8, ho' =>
     obtain rfl := Option.some.inj ho'
     have e42 : aa.eval (.tmp 42) = .int .i64 q' := (hd ⟨3, .data⟩ (by simp) rfl 42 rfl).2
     refine qz2 (v := .int .i64 q') (w' := V) ?_ (hK _ _ rfl P (fun j v' _ _ q => qzy j v' V V q (Or.inl rfl)))
     generalize aa.eval = ev at *
     go_simp
    | n + 9, ho' => omega
   intro L vs V hLall P10 hG
   obtain ⟨_, _, _, _, K10, _⟩ := P10
   have g4 : vs 4 = .int .i64 v' := hG 4 (by decide)
   have g5 : _ /\ V.rangeAt w.heap.size 0 [.int .i64 x, .int .i64 y, .int .i64 z, .int .i64 u] := hG 5 (by decide)
   have g6 : _ /\ V.rangeAt (w.heap.size + 1) 0 (hdC (qzb g0 0 0 0)) := hG 6 (by decide)
   have g7 : vs 7 = .int .i64 c' := hG 7 (by decide)
   have g8 : vs 8 = .int .i64 q' := hG 8 (by decide)
   generalize hl : laid _ vs _ _ _ = A9
   simp only [List.drop_succ_cons, List.drop_zero]
   have q43 : A9.eval (.tmp 43) = .int .i64 v' := by rw [<- g4, <- hl]; kernel_rfl
   refine qz4n rfl (v := .int .i64 v') ?last4 ?_
   case last4 =>
    generalize A9.eval = ev at *
    go_simp
   have r2 : (A9.put (some 6) (.int .i64 v')).tmps.getD 2 undef = .pointer (some ⟨w.heap.size, 0, none⟩) := by rw [<- hl]; kernel_rfl
   have r3 : (A9.put (some 6) (.int .i64 v')).tmps.getD 3 undef = .pointer (some ⟨w.heap.size + 1, 0, none⟩) := by rw [<- hl]; kernel_rfl
   have r4 : (A9.put (some 6) (.int .i64 v')).tmps.getD 4 undef = .int .i64 c' := by rw [<- g7, <- hl]; kernel_rfl
   have r5 : (A9.put (some 6) (.int .i64 v')).tmps.getD 5 undef = .int .i64 q' := by rw [<- g8, <- hl]; kernel_rfl
   have r6 : (A9.put (some 6) (.int .i64 v')).tmps.getD 6 undef = .int .i64 v' := by rw [<- hl]; kernel_rfl
   have rd : (A9.put (some 6) (.int .i64 v')).defers = [] := by rw [<- hl]; kernel_rfl
   generalize A9.put _ _ = A10 at *
   clear hl q43
   go_wp2
   refine bodyPost_ret (v := .tuple #[.agg #[.int .i64 x, .int .i64 y, .int .i64 z, .int .i64 u], .agg (hdC (qzb g0 0 0 0)).toArray, .int .i64 c', .int .i64 q', .int .i64 v']) ?_ (by first | exact rd | simpa using rd) ⟨x, y, z, u, (qzb g0 0 0 0), c', q', v', rfl, K10⟩
   have fin := qz2l (P := Try.prog) Try.results7 A10.tmps V w.heap.size 0 (w.heap.size + 1) 0 r2 r3 [.int .i64 x, .int .i64 y, .int .i64 z, .int .i64 u] (hdC (qzb g0 0 0 0)) _ _ g5.2 Try.underlying25 rfl qzn g6.2 Try.underlying27 rfl (qz1 _)
   rw [r4, r5, r6] at fin
   first | exact fin | simpa using fin
end
section
attribute [local go_sem ↓] Go.wp_at_zero Go.wp_at_succ
def grC (h : Hd) : List Value := [.int .i64 h.x_, .int .i64 h.ver, .int .i64 h.cam, .int .i64 h.camAt, .int .i64 h.pred, .int .i64 h.predVer, .int .i64 h.curr, .int .i64 h.currVer, .int .i64 h.new_, .int .i64 h.least, .int .i64 h.index, .int .i64 h.round, .int .i64 h.at_, .int .i64 h.then_, .int .i64 h.code, .int .i64 h.key, .int .i64 h.value, .int .i64 h.begin, .int .i64 h.reply, .int .i64 h.out, .int .i64 h.sum, .int .i64 h.held]
def rgC (h : Hd) : List Value := [.int .i64 h.x_, .int .i64 h.ver, .int .i64 h.cam, .int .i64 h.camAt, .int .i64 h.pred, .int .i64 h.predVer, .int .i64 h.curr, .int .i64 h.currVer, .int .i64 h.new_, .int .i64 h.least, .int .i64 h.index, .int .i64 h.round]
theorem qza7 (h : Hd) : (Try.prog.info? 80).map (fun i => i.size) = some (grC h).toArray.size := by
 show _ = some 22
 kernel_rfl
theorem qz5t (h : Hd) : (Try.prog.info? 80).map (fun i => i.size) = some (grC h).length := by
 show _ = some 22
 kernel_rfl
theorem qzc1 (h : Hd) : (grC h).toArray.all (·.oneCell') = true := by simp [grC, Value.oneCell']
theorem qzbp (h : Hd) : (Try.prog.info? 78).map (fun i => i.size) = some (rgC h).length := by
 show _ = some 12
 kernel_rfl
theorem qzbt {w : World} {b : Nat} {h : Hd} (X : w.rangeAt b 0 (grC h)) : w.rangeAt b 0 (rgC h) := by
 intro j v hv
 refine X j v ?_
 have hj : j < (rgC h).length := (List.getElem?_eq_some_iff.1 hv).1
 have e : grC h = rgC h ++ [.int .i64 h.at_, .int .i64 h.then_, .int .i64 h.code, .int .i64 h.key, .int .i64 h.value, .int .i64 h.begin, .int .i64 h.reply, .int .i64 h.out, .int .i64 h.sum, .int .i64 h.held] := rfl
 rw [e, List.getElem?_append_left hj]
 exact hv
theorem qz36 (n : Int) (w : World) : Calls Try.prog 80 #[.int .i64 n] w fun e w' => e = .returned (.bool (inB n 0 20000)) /\ w' = w := by
 go_enter Try.func80, Try.ntmps80
 go_wp2_with (go_at_call 41; refine (qzp _ _ _ _).mono ?_; rintro e w' ⟨rfl, rfl⟩)
 go_ret
 exact ⟨rfl, rfl⟩
theorem qz35 (n : Int) (w : World) : Calls Try.prog 81 #[.int .i64 n] w fun e w' => e = .returned (.bool (inB n 0 100)) /\ w' = w := by
 go_enter Try.func81, Try.ntmps81
 go_wp2_with (go_at_call 41; refine (qzp _ _ _ _).mono ?_; rintro e w' ⟨rfl, rfl⟩)
 go_ret
 exact ⟨rfl, rfl⟩
def qz47 (h : Hd) : Bool := inB h.at_ 0 23 && inB h.then_ 0 7 && inB h.code 0 8 && inB h.reply 0 7
theorem qzaz (h : Hd) (w : World) : Calls Try.prog 46 #[.agg (grC h).toArray] w fun e w' => e = .returned (.bool (qz47 h)) /\ Below w.heap.size w w' := by
 show Calls Try.prog 46 #[.agg #[.int .i64 h.x_, .int .i64 h.ver, .int .i64 h.cam, .int .i64 h.camAt, .int .i64 h.pred, .int .i64 h.predVer, .int .i64 h.curr, .int .i64 h.currVer, .int .i64 h.new_, .int .i64 h.least, .int .i64 h.index, .int .i64 h.round, .int .i64 h.at_, .int .i64 h.then_, .int .i64 h.code, .int .i64 h.key, .int .i64 h.value, .int .i64 h.begin, .int .i64 h.reply, .int .i64 h.out, .int .i64 h.sum, .int .i64 h.held]] w fun e w' => e = .returned (.bool (qz47 h)) /\ Below w.heap.size w w'
 have KK := (Below.refl w.heap.size w).alloc (Nat.le_refl _) (.cells #[.int .i64 h.x_, .int .i64 h.ver, .int .i64 h.cam, .int .i64 h.camAt, .int .i64 h.pred, .int .i64 h.predVer, .int .i64 h.curr, .int .i64 h.currVer, .int .i64 h.new_, .int .i64 h.least, .int .i64 h.index, .int .i64 h.round, .int .i64 h.at_, .int .i64 h.then_, .int .i64 h.code, .int .i64 h.key, .int .i64 h.value, .int .i64 h.begin, .int .i64 h.reply, .int .i64 h.out, .int .i64 h.sum, .int .i64 h.held] 80)
 cases e0 : inB h.at_ 0 23
 ·have hv : qz47 h = false := by simp only [qz47, e0, Bool.true_and, Bool.and_true, Bool.false_and, Bool.and_false, Bool.true_or, Bool.or_true, Bool.or_false, Bool.false_or]
  go_enter Try.func46, Try.ntmps46
  go_wp2_with (go_at_call 41; refine (qzp _ _ _ _).mono ?_; rintro e w' ⟨rfl, hw⟩; obtain rfl := hw.symm)
  go_ret
  exact ⟨by rw [hv]; rfl, KK⟩
 cases e1 : inB h.then_ 0 7
 ·have hv : qz47 h = false := by simp only [qz47, e0, e1, Bool.true_and, Bool.and_true, Bool.false_and, Bool.and_false, Bool.true_or, Bool.or_true, Bool.or_false, Bool.false_or]
  go_enter Try.func46, Try.ntmps46
  go_wp2_with (go_at_call 41; refine (qzp _ _ _ _).mono ?_; rintro e w' ⟨rfl, hw⟩; obtain rfl := hw.symm)
  go_ret
  exact ⟨by rw [hv]; rfl, KK⟩
 cases e2 : inB h.code 0 8
 ·have hv : qz47 h = false := by simp only [qz47, e0, e1, e2, Bool.true_and, Bool.and_true, Bool.false_and, Bool.and_false, Bool.true_or, Bool.or_true, Bool.or_false, Bool.false_or]
  go_enter Try.func46, Try.ntmps46
  go_wp2_with (go_at_call 41; refine (qzp _ _ _ _).mono ?_; rintro e w' ⟨rfl, hw⟩; obtain rfl := hw.symm)
  go_ret
  exact ⟨by rw [hv]; rfl, KK⟩
 have hv : qz47 h = inB h.reply 0 7 := by simp only [qz47, e0, e1, e2, Bool.true_and, Bool.and_true, Bool.false_and, Bool.and_false, Bool.true_or, Bool.or_true, Bool.or_false, Bool.false_or]
 go_enter Try.func46, Try.ntmps46
 go_wp2_with (go_at_call 41; refine (qzp _ _ _ _).mono ?_; rintro e w' ⟨rfl, hw⟩; obtain rfl := hw.symm)
 go_ret
 exact ⟨by rw [hv]; rfl, KK⟩
def qz23 (h : Hd) : Bool := (inB h.key 0 63 || h.key == -1) && inB h.value 0 9999 && inB h.out 0 1000000 && inB h.sum 0 1000000 && inB h.index 0 60
theorem qz9x (h : Hd) (w : World) : Calls Try.prog 47 #[.agg (grC h).toArray] w fun e w' => e = .returned (.bool (qz23 h)) /\ Below w.heap.size w w' := by
 show Calls Try.prog 47 #[.agg #[.int .i64 h.x_, .int .i64 h.ver, .int .i64 h.cam, .int .i64 h.camAt, .int .i64 h.pred, .int .i64 h.predVer, .int .i64 h.curr, .int .i64 h.currVer, .int .i64 h.new_, .int .i64 h.least, .int .i64 h.index, .int .i64 h.round, .int .i64 h.at_, .int .i64 h.then_, .int .i64 h.code, .int .i64 h.key, .int .i64 h.value, .int .i64 h.begin, .int .i64 h.reply, .int .i64 h.out, .int .i64 h.sum, .int .i64 h.held]] w fun e w' => e = .returned (.bool (qz23 h)) /\ Below w.heap.size w w'
 have KK := (Below.refl w.heap.size w).alloc (Nat.le_refl _) (.cells #[.int .i64 h.x_, .int .i64 h.ver, .int .i64 h.cam, .int .i64 h.camAt, .int .i64 h.pred, .int .i64 h.predVer, .int .i64 h.curr, .int .i64 h.currVer, .int .i64 h.new_, .int .i64 h.least, .int .i64 h.index, .int .i64 h.round, .int .i64 h.at_, .int .i64 h.then_, .int .i64 h.code, .int .i64 h.key, .int .i64 h.value, .int .i64 h.begin, .int .i64 h.reply, .int .i64 h.out, .int .i64 h.sum, .int .i64 h.held] 80)
 cases e0 : inB h.key 0 63
 ·by_cases k0 : h.key = -1
  ·have b0 : (h.key == -1) = true := by rw [k0]; rfl
   cases e1 : inB h.value 0 9999
   ·have hv : qz23 h = false := by simp only [qz23, e0, b0, e1, Bool.true_and, Bool.and_true, Bool.false_and, Bool.and_false, Bool.true_or, Bool.or_true, Bool.or_false, Bool.false_or]
    go_enter Try.func47, Try.ntmps47
    go_wp2_with (first | (go_at_call 41; refine (qzp _ _ _ _).mono ?_; rintro e w' ⟨rfl, hw⟩; obtain rfl := hw.symm) | (go_at_call 40; refine (qz1j _ _).mono ?_; rintro e w' ⟨rfl, hw⟩; obtain rfl := hw.symm))
    go_ret
    exact ⟨by rw [hv]; rfl, by rw [k0] at KK; exact KK⟩
   cases e2 : inB h.out 0 1000000
   ·have hv : qz23 h = false := by simp only [qz23, e0, b0, e1, e2, Bool.true_and, Bool.and_true, Bool.false_and, Bool.and_false, Bool.true_or, Bool.or_true, Bool.or_false, Bool.false_or]
    go_enter Try.func47, Try.ntmps47
    go_wp2_with (first | (go_at_call 41; refine (qzp _ _ _ _).mono ?_; rintro e w' ⟨rfl, hw⟩; obtain rfl := hw.symm) | (go_at_call 40; refine (qz1j _ _).mono ?_; rintro e w' ⟨rfl, hw⟩; obtain rfl := hw.symm))
    go_ret
    exact ⟨by rw [hv]; rfl, by rw [k0] at KK; exact KK⟩
   cases e3 : inB h.sum 0 1000000
   ·have hv : qz23 h = false := by simp only [qz23, e0, b0, e1, e2, e3, Bool.true_and, Bool.and_true, Bool.false_and, Bool.and_false, Bool.true_or, Bool.or_true, Bool.or_false, Bool.false_or]
    go_enter Try.func47, Try.ntmps47
    go_wp2_with (first | (go_at_call 41; refine (qzp _ _ _ _).mono ?_; rintro e w' ⟨rfl, hw⟩; obtain rfl := hw.symm) | (go_at_call 40; refine (qz1j _ _).mono ?_; rintro e w' ⟨rfl, hw⟩; obtain rfl := hw.symm))
    go_ret
    exact ⟨by rw [hv]; rfl, by rw [k0] at KK; exact KK⟩
   have hv : qz23 h = inB h.index 0 60 := by simp only [qz23, e0, b0, e1, e2, e3, Bool.true_and, Bool.and_true, Bool.false_and, Bool.and_false, Bool.true_or, Bool.or_true, Bool.or_false, Bool.false_or]
   go_enter Try.func47, Try.ntmps47
   go_wp2_with (first | (go_at_call 41; refine (qzp _ _ _ _).mono ?_; rintro e w' ⟨rfl, hw⟩; obtain rfl := hw.symm) | (go_at_call 40; refine (qz1j _ _).mono ?_; rintro e w' ⟨rfl, hw⟩; obtain rfl := hw.symm))
   go_ret
   exact ⟨by rw [hv]; rfl, by rw [k0] at KK; exact KK⟩
  ·have b0 : (h.key == -1) = false := by simpa using k0
   have hv : qz23 h = false := by simp only [qz23, e0, b0, Bool.true_and, Bool.and_true, Bool.false_and, Bool.and_false, Bool.true_or, Bool.or_true, Bool.or_false, Bool.false_or]
   go_enter Try.func47, Try.ntmps47
   go_wp2_with (first | (go_at_call 41; refine (qzp _ _ _ _).mono ?_; rintro e w' ⟨rfl, hw⟩; obtain rfl := hw.symm) | (go_at_call 40; refine (qz1j _ _).mono ?_; rintro e w' ⟨rfl, hw⟩; obtain rfl := hw.symm))
   go_ret
   exact ⟨by rw [hv]; rfl, KK⟩
 cases e1 : inB h.value 0 9999
 ·have hv : qz23 h = false := by simp only [qz23, e0, e1, Bool.true_and, Bool.and_true, Bool.false_and, Bool.and_false, Bool.true_or, Bool.or_true, Bool.or_false, Bool.false_or]
  go_enter Try.func47, Try.ntmps47
  go_wp2_with (first | (go_at_call 41; refine (qzp _ _ _ _).mono ?_; rintro e w' ⟨rfl, hw⟩; obtain rfl := hw.symm) | (go_at_call 40; refine (qz1j _ _).mono ?_; rintro e w' ⟨rfl, hw⟩; obtain rfl := hw.symm))
  go_ret
  exact ⟨by rw [hv]; rfl, KK⟩
 cases e2 : inB h.out 0 1000000
 ·have hv : qz23 h = false := by simp only [qz23, e0, e1, e2, Bool.true_and, Bool.and_true, Bool.false_and, Bool.and_false, Bool.true_or, Bool.or_true, Bool.or_false, Bool.false_or]
  go_enter Try.func47, Try.ntmps47
  go_wp2_with (first | (go_at_call 41; refine (qzp _ _ _ _).mono ?_; rintro e w' ⟨rfl, hw⟩; obtain rfl := hw.symm) | (go_at_call 40; refine (qz1j _ _).mono ?_; rintro e w' ⟨rfl, hw⟩; obtain rfl := hw.symm))
  go_ret
  exact ⟨by rw [hv]; rfl, KK⟩
 cases e3 : inB h.sum 0 1000000
 ·have hv : qz23 h = false := by simp only [qz23, e0, e1, e2, e3, Bool.true_and, Bool.and_true, Bool.false_and, Bool.and_false, Bool.true_or, Bool.or_true, Bool.or_false, Bool.false_or]
  go_enter Try.func47, Try.ntmps47
  go_wp2_with (first | (go_at_call 41; refine (qzp _ _ _ _).mono ?_; rintro e w' ⟨rfl, hw⟩; obtain rfl := hw.symm) | (go_at_call 40; refine (qz1j _ _).mono ?_; rintro e w' ⟨rfl, hw⟩; obtain rfl := hw.symm))
  go_ret
  exact ⟨by rw [hv]; rfl, KK⟩
 have hv : qz23 h = inB h.index 0 60 := by simp only [qz23, e0, e1, e2, e3, Bool.true_and, Bool.and_true, Bool.false_and, Bool.and_false, Bool.true_or, Bool.or_true, Bool.or_false, Bool.false_or]
 go_enter Try.func47, Try.ntmps47
 go_wp2_with (first | (go_at_call 41; refine (qzp _ _ _ _).mono ?_; rintro e w' ⟨rfl, hw⟩; obtain rfl := hw.symm) | (go_at_call 40; refine (qz1j _ _).mono ?_; rintro e w' ⟨rfl, hw⟩; obtain rfl := hw.symm))
 go_ret
 exact ⟨by rw [hv]; rfl, KK⟩
def qz3z (h : Hd) : Bool := inB h.begin 0 20000 && inB h.camAt 0 20000 && inB h.round 0 20000 && (inB h.held 0 100 || h.held == -1) && inB h.cam 0 100 && inB h.least 0 100
theorem qzbr (h : Hd) (w : World) : Calls Try.prog 48 #[.agg (grC h).toArray] w fun e w' => e = .returned (.bool (qz3z h)) /\ Below w.heap.size w w' := by
 show Calls Try.prog 48 #[.agg #[.int .i64 h.x_, .int .i64 h.ver, .int .i64 h.cam, .int .i64 h.camAt, .int .i64 h.pred, .int .i64 h.predVer, .int .i64 h.curr, .int .i64 h.currVer, .int .i64 h.new_, .int .i64 h.least, .int .i64 h.index, .int .i64 h.round, .int .i64 h.at_, .int .i64 h.then_, .int .i64 h.code, .int .i64 h.key, .int .i64 h.value, .int .i64 h.begin, .int .i64 h.reply, .int .i64 h.out, .int .i64 h.sum, .int .i64 h.held]] w fun e w' => e = .returned (.bool (qz3z h)) /\ Below w.heap.size w w'
 have KK := (Below.refl w.heap.size w).alloc (Nat.le_refl _) (.cells #[.int .i64 h.x_, .int .i64 h.ver, .int .i64 h.cam, .int .i64 h.camAt, .int .i64 h.pred, .int .i64 h.predVer, .int .i64 h.curr, .int .i64 h.currVer, .int .i64 h.new_, .int .i64 h.least, .int .i64 h.index, .int .i64 h.round, .int .i64 h.at_, .int .i64 h.then_, .int .i64 h.code, .int .i64 h.key, .int .i64 h.value, .int .i64 h.begin, .int .i64 h.reply, .int .i64 h.out, .int .i64 h.sum, .int .i64 h.held] 80)
 cases e0 : inB h.begin 0 20000
 ·have hv : qz3z h = false := by simp only [qz3z, e0, Bool.true_and, Bool.and_true, Bool.false_and, Bool.and_false, Bool.true_or, Bool.or_true, Bool.or_false, Bool.false_or]
  go_enter Try.func48, Try.ntmps48
  go_wp2_with (first | (go_at_call 80; refine (qz36 _ _).mono ?_; rintro e w' ⟨rfl, hw⟩; obtain rfl := hw.symm) | (go_at_call 81; refine (qz35 _ _).mono ?_; rintro e w' ⟨rfl, hw⟩; obtain rfl := hw.symm))
  go_ret
  exact ⟨by rw [hv]; rfl, KK⟩
 cases e1 : inB h.camAt 0 20000
 ·have hv : qz3z h = false := by simp only [qz3z, e0, e1, Bool.true_and, Bool.and_true, Bool.false_and, Bool.and_false, Bool.true_or, Bool.or_true, Bool.or_false, Bool.false_or]
  go_enter Try.func48, Try.ntmps48
  go_wp2_with (first | (go_at_call 80; refine (qz36 _ _).mono ?_; rintro e w' ⟨rfl, hw⟩; obtain rfl := hw.symm) | (go_at_call 81; refine (qz35 _ _).mono ?_; rintro e w' ⟨rfl, hw⟩; obtain rfl := hw.symm))
  go_ret
  exact ⟨by rw [hv]; rfl, KK⟩
 cases e2 : inB h.round 0 20000
 ·have hv : qz3z h = false := by simp only [qz3z, e0, e1, e2, Bool.true_and, Bool.and_true, Bool.false_and, Bool.and_false, Bool.true_or, Bool.or_true, Bool.or_false, Bool.false_or]
  go_enter Try.func48, Try.ntmps48
  go_wp2_with (first | (go_at_call 80; refine (qz36 _ _).mono ?_; rintro e w' ⟨rfl, hw⟩; obtain rfl := hw.symm) | (go_at_call 81; refine (qz35 _ _).mono ?_; rintro e w' ⟨rfl, hw⟩; obtain rfl := hw.symm))
  go_ret
  exact ⟨by rw [hv]; rfl, KK⟩
 cases e3 : inB h.held 0 100
 ·by_cases k3 : h.held = -1
  ·have b3 : (h.held == -1) = true := by rw [k3]; rfl
   cases e4 : inB h.cam 0 100
   ·have hv : qz3z h = false := by simp only [qz3z, e0, e1, e2, e3, b3, e4, Bool.true_and, Bool.and_true, Bool.false_and, Bool.and_false, Bool.true_or, Bool.or_true, Bool.or_false, Bool.false_or]
    go_enter Try.func48, Try.ntmps48
    go_wp2_with (first | (go_at_call 80; refine (qz36 _ _).mono ?_; rintro e w' ⟨rfl, hw⟩; obtain rfl := hw.symm) | (go_at_call 81; refine (qz35 _ _).mono ?_; rintro e w' ⟨rfl, hw⟩; obtain rfl := hw.symm))
    go_ret
    exact ⟨by rw [hv]; rfl, by rw [k3] at KK; exact KK⟩
   have hv : qz3z h = inB h.least 0 100 := by simp only [qz3z, e0, e1, e2, e3, b3, e4, Bool.true_and, Bool.and_true, Bool.false_and, Bool.and_false, Bool.true_or, Bool.or_true, Bool.or_false, Bool.false_or]
   go_enter Try.func48, Try.ntmps48
   go_wp2_with (first | (go_at_call 80; refine (qz36 _ _).mono ?_; rintro e w' ⟨rfl, hw⟩; obtain rfl := hw.symm) | (go_at_call 81; refine (qz35 _ _).mono ?_; rintro e w' ⟨rfl, hw⟩; obtain rfl := hw.symm))
   go_ret
   exact ⟨by rw [hv]; rfl, by rw [k3] at KK; exact KK⟩
  ·have b3 : (h.held == -1) = false := by simpa using k3
   have hv : qz3z h = false := by simp only [qz3z, e0, e1, e2, e3, b3, Bool.true_and, Bool.and_true, Bool.false_and, Bool.and_false, Bool.true_or, Bool.or_true, Bool.or_false, Bool.false_or]
   go_enter Try.func48, Try.ntmps48
   go_wp2_with (first | (go_at_call 80; refine (qz36 _ _).mono ?_; rintro e w' ⟨rfl, hw⟩; obtain rfl := hw.symm) | (go_at_call 81; refine (qz35 _ _).mono ?_; rintro e w' ⟨rfl, hw⟩; obtain rfl := hw.symm))
   go_ret
   exact ⟨by rw [hv]; rfl, KK⟩
 cases e4 : inB h.cam 0 100
 ·have hv : qz3z h = false := by simp only [qz3z, e0, e1, e2, e3, e4, Bool.true_and, Bool.and_true, Bool.false_and, Bool.and_false, Bool.true_or, Bool.or_true, Bool.or_false, Bool.false_or]
  go_enter Try.func48, Try.ntmps48
  go_wp2_with (first | (go_at_call 80; refine (qz36 _ _).mono ?_; rintro e w' ⟨rfl, hw⟩; obtain rfl := hw.symm) | (go_at_call 81; refine (qz35 _ _).mono ?_; rintro e w' ⟨rfl, hw⟩; obtain rfl := hw.symm))
  go_ret
  exact ⟨by rw [hv]; rfl, KK⟩
 have hv : qz3z h = inB h.least 0 100 := by simp only [qz3z, e0, e1, e2, e3, e4, Bool.true_and, Bool.and_true, Bool.false_and, Bool.and_false, Bool.true_or, Bool.or_true, Bool.or_false, Bool.false_or]
 go_enter Try.func48, Try.ntmps48
 go_wp2_with (first | (go_at_call 80; refine (qz36 _ _).mono ?_; rintro e w' ⟨rfl, hw⟩; obtain rfl := hw.symm) | (go_at_call 81; refine (qz35 _ _).mono ?_; rintro e w' ⟨rfl, hw⟩; obtain rfl := hw.symm))
 go_ret
 exact ⟨by rw [hv]; rfl, KK⟩
def qz3b (y z : Int) (h : Hd) : Bool := inB h.x_ 0 (y - 1) && inB h.pred 0 (y - 1) && inB h.curr (-1) (y - 1) && inB h.new_ (-1) (y - 1) && inB h.ver 0 (z - 1) && inB h.predVer 0 (z - 1) && inB h.currVer 0 (z - 1)
theorem qzag (y z : Int) (h : Hd) (w : World) (hy : 0 <= y /\ y <= 1048576) (hz : 0 <= z /\ z <= 1048576) : Calls Try.prog 49 #[.agg (rgC h).toArray, .int .i64 y, .int .i64 z] w fun e w' => e = .returned (.bool (qz3b y z h)) /\ Below w.heap.size w w' := by
 show Calls Try.prog 49 #[.agg #[.int .i64 h.x_, .int .i64 h.ver, .int .i64 h.cam, .int .i64 h.camAt, .int .i64 h.pred, .int .i64 h.predVer, .int .i64 h.curr, .int .i64 h.currVer, .int .i64 h.new_, .int .i64 h.least, .int .i64 h.index, .int .i64 h.round], .int .i64 y, .int .i64 z] w fun e w' => e = .returned (.bool (qz3b y z h)) /\ Below w.heap.size w w'
 have KK := (Below.refl w.heap.size w).alloc (Nat.le_refl _) (.cells #[.int .i64 h.x_, .int .i64 h.ver, .int .i64 h.cam, .int .i64 h.camAt, .int .i64 h.pred, .int .i64 h.predVer, .int .i64 h.curr, .int .i64 h.currVer, .int .i64 h.new_, .int .i64 h.least, .int .i64 h.index, .int .i64 h.round] 78)
 cases e0 : inB h.x_ 0 (y - 1)
 ·have hv : qz3b y z h = false := by simp only [qz3b, e0, Bool.true_and, Bool.and_true, Bool.false_and, Bool.and_false, Bool.true_or, Bool.or_true, Bool.or_false, Bool.false_or]
  go_enter Try.func49, Try.ntmps49
  go_wp2_with (go_at_call 41; refine (qzp _ _ _ _).mono ?_; rintro e w' ⟨rfl, hw⟩; obtain rfl := hw.symm)
  go_ret
  exact ⟨by rw [hv]; rfl, KK⟩
 cases e1 : inB h.pred 0 (y - 1)
 ·have hv : qz3b y z h = false := by simp only [qz3b, e0, e1, Bool.true_and, Bool.and_true, Bool.false_and, Bool.and_false, Bool.true_or, Bool.or_true, Bool.or_false, Bool.false_or]
  go_enter Try.func49, Try.ntmps49
  go_wp2_with (go_at_call 41; refine (qzp _ _ _ _).mono ?_; rintro e w' ⟨rfl, hw⟩; obtain rfl := hw.symm)
  go_ret
  exact ⟨by rw [hv]; rfl, KK⟩
 cases e2 : inB h.curr (-1) (y - 1)
 ·have hv : qz3b y z h = false := by simp only [qz3b, e0, e1, e2, Bool.true_and, Bool.and_true, Bool.false_and, Bool.and_false, Bool.true_or, Bool.or_true, Bool.or_false, Bool.false_or]
  go_enter Try.func49, Try.ntmps49
  go_wp2_with (go_at_call 41; refine (qzp _ _ _ _).mono ?_; rintro e w' ⟨rfl, hw⟩; obtain rfl := hw.symm)
  go_ret
  exact ⟨by rw [hv]; rfl, KK⟩
 cases e3 : inB h.new_ (-1) (y - 1)
 ·have hv : qz3b y z h = false := by simp only [qz3b, e0, e1, e2, e3, Bool.true_and, Bool.and_true, Bool.false_and, Bool.and_false, Bool.true_or, Bool.or_true, Bool.or_false, Bool.false_or]
  go_enter Try.func49, Try.ntmps49
  go_wp2_with (go_at_call 41; refine (qzp _ _ _ _).mono ?_; rintro e w' ⟨rfl, hw⟩; obtain rfl := hw.symm)
  go_ret
  exact ⟨by rw [hv]; rfl, KK⟩
 cases e4 : inB h.ver 0 (z - 1)
 ·have hv : qz3b y z h = false := by simp only [qz3b, e0, e1, e2, e3, e4, Bool.true_and, Bool.and_true, Bool.false_and, Bool.and_false, Bool.true_or, Bool.or_true, Bool.or_false, Bool.false_or]
  go_enter Try.func49, Try.ntmps49
  go_wp2_with (go_at_call 41; refine (qzp _ _ _ _).mono ?_; rintro e w' ⟨rfl, hw⟩; obtain rfl := hw.symm)
  go_ret
  exact ⟨by rw [hv]; rfl, KK⟩
 cases e5 : inB h.predVer 0 (z - 1)
 ·have hv : qz3b y z h = false := by simp only [qz3b, e0, e1, e2, e3, e4, e5, Bool.true_and, Bool.and_true, Bool.false_and, Bool.and_false, Bool.true_or, Bool.or_true, Bool.or_false, Bool.false_or]
  go_enter Try.func49, Try.ntmps49
  go_wp2_with (go_at_call 41; refine (qzp _ _ _ _).mono ?_; rintro e w' ⟨rfl, hw⟩; obtain rfl := hw.symm)
  go_ret
  exact ⟨by rw [hv]; rfl, KK⟩
 have hv : qz3b y z h = inB h.currVer 0 (z - 1) := by simp only [qz3b, e0, e1, e2, e3, e4, e5, Bool.true_and, Bool.and_true, Bool.false_and, Bool.and_false, Bool.true_or, Bool.or_true, Bool.or_false, Bool.false_or]
 go_enter Try.func49, Try.ntmps49
 go_wp2_with (go_at_call 41; refine (qzp _ _ _ _).mono ?_; rintro e w' ⟨rfl, hw⟩; obtain rfl := hw.symm)
 go_ret
 exact ⟨by rw [hv]; rfl, KK⟩
theorem qzac (h : Hd) (w : World) : Calls Try.prog 44 #[.agg (hdC h).toArray] w fun e w' => e = .returned (.agg (grC h).toArray) /\ Below w.heap.size w w' := by
 show Calls Try.prog 44 #[.agg #[.int .i64 h.at_, .int .i64 h.then_, .int .i64 h.code, .int .i64 h.key, .int .i64 h.value, .int .i64 h.begin, .int .i64 h.reply, .int .i64 h.out, .int .i64 h.sum, .int .i64 h.held, .int .i64 h.x_, .int .i64 h.ver, .int .i64 h.cam, .int .i64 h.camAt, .int .i64 h.pred, .int .i64 h.predVer, .int .i64 h.curr, .int .i64 h.currVer, .int .i64 h.new_, .int .i64 h.least, .int .i64 h.index, .int .i64 h.round]] w fun e w' => e = .returned (.agg (grC h).toArray) /\ Below w.heap.size w w'
 go_enter Try.func44, Try.ntmps44
 have F0 := qzh (w.alloc (.cells #[.int .i64 h.at_, .int .i64 h.then_, .int .i64 h.code, .int .i64 h.key, .int .i64 h.value, .int .i64 h.begin, .int .i64 h.reply, .int .i64 h.out, .int .i64 h.sum, .int .i64 h.held, .int .i64 h.x_, .int .i64 h.ver, .int .i64 h.cam, .int .i64 h.camAt, .int .i64 h.pred, .int .i64 h.predVer, .int .i64 h.curr, .int .i64 h.currVer, .int .i64 h.new_, .int .i64 h.least, .int .i64 h.index, .int .i64 h.round] 27)) #[.int .i64 0, .int .i64 0, .int .i64 0, .int .i64 0, .int .i64 0, .int .i64 0, .int .i64 0, .int .i64 0, .int .i64 0, .int .i64 0, .int .i64 0, .int .i64 0, .int .i64 0, .int .i64 0, .int .i64 0, .int .i64 0, .int .i64 0, .int .i64 0, .int .i64 0, .int .i64 0, .int .i64 0, .int .i64 0] 80 22 (by decide)
 have K0 := ((Below.refl w.heap.size w).alloc (Nat.le_refl _) (.cells #[.int .i64 h.at_, .int .i64 h.then_, .int .i64 h.code, .int .i64 h.key, .int .i64 h.value, .int .i64 h.begin, .int .i64 h.reply, .int .i64 h.out, .int .i64 h.sum, .int .i64 h.held, .int .i64 h.x_, .int .i64 h.ver, .int .i64 h.cam, .int .i64 h.camAt, .int .i64 h.pred, .int .i64 h.predVer, .int .i64 h.curr, .int .i64 h.currVer, .int .i64 h.new_, .int .i64 h.least, .int .i64 h.index, .int .i64 h.round] 27)).alloc (by simp) (.cells #[.int .i64 0, .int .i64 0, .int .i64 0, .int .i64 0, .int .i64 0, .int .i64 0, .int .i64 0, .int .i64 0, .int .i64 0, .int .i64 0, .int .i64 0, .int .i64 0, .int .i64 0, .int .i64 0, .int .i64 0, .int .i64 0, .int .i64 0, .int .i64 0, .int .i64 0, .int .i64 0, .int .i64 0, .int .i64 0] 80)
 simp only [World.size_alloc] at F0
 go_wp2_with (refine wpList_store_mid rfl 80 (.tmp 2) (.tmp 48) rfl (w.heap.size + 1) 0 _ rfl rfl ?ht ?hi ?h1 ?_)
 case ht => exact F0
 case hi => exact qza7 h
 case h1 => exact qzc1 h
 refine bodyPost_ret (v := .agg (grC h).toArray) ?_ rfl ⟨rfl, ?_⟩
 ·exact qz5 Try.results44 _ _ (w.heap.size + 1) 0 rfl (grC h) _ (World.rangeAt_setCells_same _ _ _ _ F0) Try.underlying80 rfl (qz5t h)
 ·exact Below.setCells (by omega) _ _ _ K0
theorem qzcu (n hi : Int) (hh : 0 <= hi) : (inB n 0 hi || n == -1) = inB n (-1) hi := by
 cases e : inB n (-1) hi
 ·have h1 : ¬ (-1 <= n /\ n <= hi) := fun h => by rw [qz8p h.1 h.2] at e; exact absurd e (by decide)
  rw [qzb2 (by omega), Bool.false_or]
  exact beq_eq_false_iff_ne.2 (by omega)
 ·obtain ⟨h1, h2⟩ := (qz1b _ _ _).1 e
  by_cases h3 : n = -1
  ·subst h3
   simp
  ·rw [qz8p (by omega) h2, Bool.true_or]
theorem qzbv (x y z u : Int) (h : Hd) (hp : qz3o x y z u = true) : (qz47 h && qz23 h && qz3z h && qz3b y z h) = qz3c x y z u h := by
 have hpl := (qz28 x y z u).1 hp
 unfold qz47 qz23 qz3z qz3b qz3c qz41 qz3s
 rw [hp, qzcu _ 63 (by decide), qzcu _ 100 (by decide), Bool.true_and]
 generalize inB h.x_ 0 (y - 1) = a0
 generalize inB h.pred 0 (y - 1) = a1
 generalize inB h.curr (-1) (y - 1) = a2
 generalize inB h.new_ (-1) (y - 1) = a3
 generalize inB h.ver 0 (z - 1) = a4
 generalize inB h.predVer 0 (z - 1) = a5
 generalize inB h.currVer 0 (z - 1) = a6
 simp only [Bool.and_assoc, Bool.and_comm, Bool.and_left_comm]
theorem qz7h (x y z u : Int) (h : Hd) (w : World) :
  Calls Try.prog 12 #[.agg #[.int .i64 x, .int .i64 y, .int .i64 z, .int .i64 u], .agg (hdC h).toArray] w fun e w' => e = .returned (.bool (qz3c x y z u h)) /\ Below w.heap.size w w' := by
 have P0 := (qz1t w x y z u 25).below ((Below.refl _ _).alloc (Nat.le_refl _) (.cells (hdC h).toArray 27)) (by simp)
 have X0 := qzd (w.alloc (.cells #[.int .i64 x, .int .i64 y, .int .i64 z, .int .i64 u] 25)) (hdC h) 27
 have K0 := ((Below.refl w.heap.size w).alloc (Nat.le_refl _) (.cells #[.int .i64 x, .int .i64 y, .int .i64 z, .int .i64 u] 25)).alloc (by simp) (.cells (hdC h).toArray 27)
 have z0 : w.heap.size + 1 < ((w.alloc (.cells #[.int .i64 x, .int .i64 y, .int .i64 z, .int .i64 u] 25)).alloc (.cells (hdC h).toArray 27)).heap.size := by simp
 simp only [World.size_alloc] at X0
 go_enter Try.func12, Try.ntmps12
 go_wp2_with (refine wpList_load_mid rfl 27 (.tmp 3) rfl (w.heap.size + 1) 0 rfl (hdC h) _ ?hc Try.underlying27 rfl (qz1 h) ?_)
 case hc => exact X0
 change Calls Try.prog _ _ ((w.alloc (.cells #[.int .i64 x, .int .i64 y, .int .i64 z, .int .i64 u] 25)).alloc (.cells (hdC h).toArray 27)) _
 generalize hw0 : (w.alloc (.cells #[.int .i64 x, .int .i64 y, .int .i64 z, .int .i64 u] 25)).alloc (.cells (hdC h).toArray 27) = w0 at *
 clear hw0
 refine (qzac h _).mono ?_
 rintro e w1 ⟨rfl, b0⟩
 have P1 := P0.below b0 (by omega)
 have K1 := K0.trans (b0.mono (by omega))
 have z1 := Nat.lt_of_lt_of_le z0 b0.size
 clear P0 X0 K0 z0 b0
 have FA := qzh w1 #[.int .i64 0, .int .i64 0, .int .i64 0, .int .i64 0, .int .i64 0, .int .i64 0, .int .i64 0, .int .i64 0, .int .i64 0, .int .i64 0, .int .i64 0, .int .i64 0, .int .i64 0, .int .i64 0, .int .i64 0, .int .i64 0, .int .i64 0, .int .i64 0, .int .i64 0, .int .i64 0, .int .i64 0, .int .i64 0] 80 22 (by decide)
 have hset : (w1.alloc (.cells #[.int .i64 0, .int .i64 0, .int .i64 0, .int .i64 0, .int .i64 0, .int .i64 0, .int .i64 0, .int .i64 0, .int .i64 0, .int .i64 0, .int .i64 0, .int .i64 0, .int .i64 0, .int .i64 0, .int .i64 0, .int .i64 0, .int .i64 0, .int .i64 0, .int .i64 0, .int .i64 0, .int .i64 0, .int .i64 0] 80)).setCells w1.heap.size 0 (grC h).toArray.toList = w1.alloc (.cells (grC h).toArray 80) := qz11 w1 80 (grC h) [] [.int .i64 0, .int .i64 0, .int .i64 0, .int .i64 0, .int .i64 0, .int .i64 0, .int .i64 0, .int .i64 0, .int .i64 0, .int .i64 0, .int .i64 0, .int .i64 0, .int .i64 0, .int .i64 0, .int .i64 0, .int .i64 0, .int .i64 0, .int .i64 0, .int .i64 0, .int .i64 0, .int .i64 0, .int .i64 0] rfl
 have X1 := qzd w1 (grC h) 80
 have P2 := P1.below ((Below.refl _ _).alloc (Nat.le_refl _) (.cells (grC h).toArray 80)) (by omega)
 have K2 := K1.alloc (by omega) (.cells (grC h).toArray 80)
 have z2 : w1.heap.size < (w1.alloc (.cells (grC h).toArray 80)).heap.size := by simp
 obtain ⟨p0, p1, p2, p3⟩ := id P2
 go_wp2_with (refine wpList_store_mid rfl 80 (.tmp 5) (.tmp 7) rfl w1.heap.size 0 _ rfl rfl FA (qza7 h) (qzc1 h) ?_; rw [hset])
 change Calls Try.prog _ _ (w1.alloc (.cells (grC h).toArray 80)) _
 generalize hw2 : w1.alloc (.cells (grC h).toArray 80) = w2 at *
 clear hw2 hset FA P1 K1
 refine (qzbm _ _ _ _ _).mono ?_
 rintro e w3 ⟨rfl, b2⟩
 have P3 := P2.below b2 (by omega)
 have X3 := qz0 X1 b2 z2
 have K3 := K2.trans (b2.mono (by omega))
 have z3 := Nat.lt_of_lt_of_le z2 b2.size
 clear P2 X1 K2 z2 b2 p0 p1 p2 p3
 cases e0 : qz3o x y z u
 ·have hv : qz3c x y z u h = false := by simp only [qz3c, e0, Bool.false_and]
  go_wp2_with fail
  go_ret
  exact ⟨by rw [hv]; rfl, K3⟩
 have hpl := (qz28 x y z u).1 e0
 have hpt := qzbv x y z u h e0
 go_wp2_with (refine qz18 ?hw0 80 (.tmp 5) rfl w1.heap.size 0 rfl (grC h) _ ?hc0 Try.underlying80 rfl (qz5t h) ?_)
 try (case hw0 => rfl)
 case hc0 => exact X3
 refine (qzaz h _).mono ?_
 rintro e w4 ⟨rfl, b3⟩
 have P4 := P3.below b3 (by omega)
 have X4 := qz0 X3 b3 z3
 have K4 := K3.trans (b3.mono (by omega))
 have z4 := Nat.lt_of_lt_of_le z3 b3.size
 clear P3 X3 K3 z3 b3
 cases e1 : qz47 h
 ·have hv : qz3c x y z u h = false := by rw [<- hpt]; simp only [e1, Bool.true_and, Bool.and_true, Bool.false_and, Bool.and_false]
  clear hpt
  go_wp2_with fail
  go_ret
  exact ⟨by rw [hv]; rfl, K4⟩
 go_wp2_with (refine qz18 ?hw1 80 (.tmp 5) rfl w1.heap.size 0 rfl (grC h) _ ?hc1 Try.underlying80 rfl (qz5t h) ?_)
 try (case hw1 => rfl)
 case hc1 => exact X4
 refine (qz9x h _).mono ?_
 rintro e w5 ⟨rfl, b4⟩
 have P5 := P4.below b4 (by omega)
 have X5 := qz0 X4 b4 z4
 have K5 := K4.trans (b4.mono (by omega))
 have z5 := Nat.lt_of_lt_of_le z4 b4.size
 clear P4 X4 K4 z4 b4
 cases e2 : qz23 h
 ·have hv : qz3c x y z u h = false := by rw [<- hpt]; simp only [e1, e2, Bool.true_and, Bool.and_true, Bool.false_and, Bool.and_false]
  clear hpt
  go_wp2_with fail
  go_ret
  exact ⟨by rw [hv]; rfl, K5⟩
 go_wp2_with (refine qz18 ?hw2 80 (.tmp 5) rfl w1.heap.size 0 rfl (grC h) _ ?hc2 Try.underlying80 rfl (qz5t h) ?_)
 try (case hw2 => rfl)
 case hc2 => exact X5
 refine (qzbr h _).mono ?_
 rintro e w6 ⟨rfl, b5⟩
 have P6 := P5.below b5 (by omega)
 have X6 := qz0 X5 b5 z5
 have K6 := K5.trans (b5.mono (by omega))
 have z6 := Nat.lt_of_lt_of_le z5 b5.size
 clear P5 X5 K5 z5 b5
 cases e3 : qz3z h
 ·have hv : qz3c x y z u h = false := by rw [<- hpt]; simp only [e1, e2, e3, Bool.true_and, Bool.and_true, Bool.false_and, Bool.and_false]
  clear hpt
  go_wp2_with fail
  go_ret
  exact ⟨by rw [hv]; rfl, K6⟩
 have hv : qz3c x y z u h = qz3b y z h := by rw [<- hpt]; simp only [e1, e2, e3, Bool.true_and, Bool.and_true, Bool.false_and, Bool.and_false]
 clear hpt
 obtain ⟨p0, p1, p2, p3⟩ := id P6
 go_wp2_with (refine qz18 ?hw9 78 (.tmp 23) rfl w1.heap.size 0 rfl (rgC h) _ ?hc9 Try.underlying78 rfl (qzbp h) ?_)
 try (case hw9 => rfl)
 case hc9 => exact qzbt X6
 refine (qzag y z h _ ⟨by omega, by omega⟩ ⟨by omega, by omega⟩).mono ?_
 rintro e w7 ⟨rfl, b6⟩
 have K7 := K6.trans (b6.mono (by omega))
 go_wp2_with fail
 go_ret
 exact ⟨by rw [hv]; rfl, K7⟩
theorem qza1 (w : World) : Calls Try.prog 78 #[] w fun e w' => e = .returned (.agg (hdC newH).toArray) /\ Below w.heap.size w w' := by
 have F0 := qzh w #[.int .i64 0, .int .i64 0, .int .i64 0, .int .i64 0, .int .i64 0, .int .i64 0, .int .i64 0, .int .i64 0, .int .i64 0, .int .i64 0, .int .i64 0, .int .i64 0, .int .i64 0, .int .i64 0, .int .i64 0, .int .i64 0, .int .i64 0, .int .i64 0, .int .i64 0, .int .i64 0, .int .i64 0, .int .i64 0] 27 22 (by decide)
 go_enter Try.func78, Try.ntmps78
 go_wp2_with (refine wpList_store_mid rfl 27 (.tmp 0) (.tmp 1) rfl w.heap.size 0 _ rfl rfl ?ht ?hi ?h1 ?_)
 case ht => exact F0
 case hi => exact qza newH
 case h1 => exact qzf newH
 refine bodyPost_ret (v := .agg (hdC newH).toArray) ?_ rfl ⟨rfl, ?_⟩
 ·exact qz5 Try.results78 _ _ w.heap.size 0 rfl (hdC newH) _ (World.rangeAt_setCells_same _ _ _ _ F0) Try.underlying27 rfl (qz1 newH)
 ·exact Below.setCells (Nat.le_refl _) _ _ _ ((Below.refl _ _).alloc (Nat.le_refl _) _)
theorem qz9h (h : Hd) (rp ot sm : Int) (w : World) :
  Calls Try.prog 37 #[.agg (hdC h).toArray, .int .i64 rp, .int .i64 ot, .int .i64 sm] w fun e w' => e = .returned (.agg (hdC (qzb h rp ot sm)).toArray) /\ Below w.heap.size w w' := by
 show Calls Try.prog 37 #[.agg #[.int .i64 h.at_, .int .i64 h.then_, .int .i64 h.code, .int .i64 h.key, .int .i64 h.value, .int .i64 h.begin, .int .i64 h.reply, .int .i64 h.out, .int .i64 h.sum, .int .i64 h.held, .int .i64 h.x_, .int .i64 h.ver, .int .i64 h.cam, .int .i64 h.camAt, .int .i64 h.pred, .int .i64 h.predVer, .int .i64 h.curr, .int .i64 h.currVer, .int .i64 h.new_, .int .i64 h.least, .int .i64 h.index, .int .i64 h.round], .int .i64 rp, .int .i64 ot, .int .i64 sm] w fun e w' => e = .returned (.agg (hdC (qzb h rp ot sm)).toArray) /\ Below w.heap.size w w'
 have X0 := World.rangeAt_alloc (qzd w (hdC h) 27) (.cells #[.int .i64 0, .int .i64 0, .int .i64 0, .int .i64 0, .int .i64 0, .int .i64 0, .int .i64 0, .int .i64 0, .int .i64 0, .int .i64 0, .int .i64 0, .int .i64 0, .int .i64 0, .int .i64 0, .int .i64 0, .int .i64 0, .int .i64 0, .int .i64 0, .int .i64 0, .int .i64 0, .int .i64 0, .int .i64 0] 27)
 have F0 := qzh (w.alloc (.cells (hdC h).toArray 27)) #[.int .i64 0, .int .i64 0, .int .i64 0, .int .i64 0, .int .i64 0, .int .i64 0, .int .i64 0, .int .i64 0, .int .i64 0, .int .i64 0, .int .i64 0, .int .i64 0, .int .i64 0, .int .i64 0, .int .i64 0, .int .i64 0, .int .i64 0, .int .i64 0, .int .i64 0, .int .i64 0, .int .i64 0, .int .i64 0] 27 22 (by decide)
 have K0 := ((Below.refl w.heap.size w).alloc (Nat.le_refl _) (.cells (hdC h).toArray 27)).alloc (by simp) (.cells #[.int .i64 0, .int .i64 0, .int .i64 0, .int .i64 0, .int .i64 0, .int .i64 0, .int .i64 0, .int .i64 0, .int .i64 0, .int .i64 0, .int .i64 0, .int .i64 0, .int .i64 0, .int .i64 0, .int .i64 0, .int .i64 0, .int .i64 0, .int .i64 0, .int .i64 0, .int .i64 0, .int .i64 0, .int .i64 0] 27)
 have hz0 : w.heap.size + 1 < ((w.alloc (.cells (hdC h).toArray 27)).alloc (.cells #[.int .i64 0, .int .i64 0, .int .i64 0, .int .i64 0, .int .i64 0, .int .i64 0, .int .i64 0, .int .i64 0, .int .i64 0, .int .i64 0, .int .i64 0, .int .i64 0, .int .i64 0, .int .i64 0, .int .i64 0, .int .i64 0, .int .i64 0, .int .i64 0, .int .i64 0, .int .i64 0, .int .i64 0, .int .i64 0] 27)).heap.size := by simp
 simp only [World.size_alloc] at F0
 go_enter Try.func37, Try.ntmps37
 go_wp2_with fail
 change Calls Try.prog _ _ ((w.alloc (.cells (hdC h).toArray 27)).alloc (.cells #[.int .i64 0, .int .i64 0, .int .i64 0, .int .i64 0, .int .i64 0, .int .i64 0, .int .i64 0, .int .i64 0, .int .i64 0, .int .i64 0, .int .i64 0, .int .i64 0, .int .i64 0, .int .i64 0, .int .i64 0, .int .i64 0, .int .i64 0, .int .i64 0, .int .i64 0, .int .i64 0, .int .i64 0, .int .i64 0] 27)) _
 generalize hw0 : (w.alloc (.cells (hdC h).toArray 27)).alloc (.cells #[.int .i64 0, .int .i64 0, .int .i64 0, .int .i64 0, .int .i64 0, .int .i64 0, .int .i64 0, .int .i64 0, .int .i64 0, .int .i64 0, .int .i64 0, .int .i64 0, .int .i64 0, .int .i64 0, .int .i64 0, .int .i64 0, .int .i64 0, .int .i64 0, .int .i64 0, .int .i64 0, .int .i64 0, .int .i64 0] 27) = w0 at *
 clear hw0
 refine (qza1 _).mono ?_
 rintro e w1 ⟨rfl, b1⟩
 have q9 : w1.cell? ⟨w.heap.size, 9, none⟩ = some (.int .i64 h.held) := (b1.cell (p := ⟨w.heap.size, 9, none⟩) (by show w.heap.size < w0.heap.size; omega)).trans (by have := X0 9 (.int .i64 h.held) rfl; simpa using this)
 have F1 := qz6 F0 b1 hz0
 have K1 := K0.trans (b1.mono (by omega))
 have hz1 := Nat.lt_of_lt_of_le hz0 b1.size
 have qa : ∀ o : Obj, (w1.alloc o).cell? ⟨w.heap.size, 9, none⟩ = some (.int .i64 h.held) := fun o => (World.cell?_alloc_lt _ _ _ (by show w.heap.size < w1.heap.size; omega)).trans q9
 clear X0 F0 K0 b1 hz0 q9
 have hset : (w1.alloc (.cells #[.int .i64 0, .int .i64 0, .int .i64 0, .int .i64 0, .int .i64 0, .int .i64 0, .int .i64 0, .int .i64 0, .int .i64 0, .int .i64 0, .int .i64 0, .int .i64 0, .int .i64 0, .int .i64 0, .int .i64 0, .int .i64 0, .int .i64 0, .int .i64 0, .int .i64 0, .int .i64 0, .int .i64 0, .int .i64 0] 27)).setCells w1.heap.size 0 (hdC newH).toArray.toList = w1.alloc (.cells #[.int .i64 0, .int .i64 0, .int .i64 0, .int .i64 (-1), .int .i64 0, .int .i64 0, .int .i64 0, .int .i64 0, .int .i64 0, .int .i64 (-1), .int .i64 0, .int .i64 0, .int .i64 0, .int .i64 0, .int .i64 0, .int .i64 0, .int .i64 (-1), .int .i64 0, .int .i64 (-1), .int .i64 0, .int .i64 0, .int .i64 0] 27) := qz11 w1 27 (hdC newH) [] [.int .i64 0, .int .i64 0, .int .i64 0, .int .i64 0, .int .i64 0, .int .i64 0, .int .i64 0, .int .i64 0, .int .i64 0, .int .i64 0, .int .i64 0, .int .i64 0, .int .i64 0, .int .i64 0, .int .i64 0, .int .i64 0, .int .i64 0, .int .i64 0, .int .i64 0, .int .i64 0, .int .i64 0, .int .i64 0] rfl
 have FA := qzh w1 #[.int .i64 0, .int .i64 0, .int .i64 0, .int .i64 0, .int .i64 0, .int .i64 0, .int .i64 0, .int .i64 0, .int .i64 0, .int .i64 0, .int .i64 0, .int .i64 0, .int .i64 0, .int .i64 0, .int .i64 0, .int .i64 0, .int .i64 0, .int .i64 0, .int .i64 0, .int .i64 0, .int .i64 0, .int .i64 0] 27 22 (by decide)
 have K2 := K1.alloc (by omega) (.cells (hdC (qzb h rp ot sm)).toArray 27)
 have R2 := qzd w1 (hdC (qzb h rp ot sm)) 27
 have F2 := World.there_alloc F1 (.cells (hdC (qzb h rp ot sm)).toArray 27)
 go_wp2_with (first | (refine wpList_store_mid rfl 27 (.tmp 9) (.tmp 10) rfl w1.heap.size 0 _ rfl rfl FA (qza newH) (qzf newH) ?_; rw [hset]) | (refine wpList_load_mid rfl 27 (.tmp 9) rfl w1.heap.size 0 rfl (hdC (qzb h rp ot sm)) _ ?hc Try.underlying27 rfl (qz1 _) ?_) | (refine wpList_store_mid rfl 27 (.tmp 8) _ rfl (w.heap.size + 1) 0 _ rfl rfl ?ht ?hi ?h1 ?_))
 case hc => exact R2
 case ht => exact F2
 case hi => exact qza _
 case h1 => exact qzf _
 refine bodyPost_ret (v := .agg (hdC (qzb h rp ot sm)).toArray) ?_ rfl ⟨rfl, ?_⟩
 ·exact qz5 Try.results37 _ _ (w.heap.size + 1) 0 rfl (hdC (qzb h rp ot sm)) _ (World.rangeAt_setCells_same _ _ _ _ F2) Try.underlying27 rfl (qz1 _)
 ·exact Below.setCells (by omega) _ _ _ K2
end
end Go.Proofs.Ytclkglkhhnapiaa
