/-
  What the law's proof goes by, part 40.
-/
import Derived.Test.YthjkdnlmopafkaaGreatDoorFnSwappedCard00
import Derived.Test.YthjkdnlmopafkaaGreatDoorFnSwappedCard38
namespace Go.Proofs.YthjkdnlmopafkaaGreatDoor
open Go.ChangeShapes Go.WideShapes Go.ChangeAt Go.RowKit
set_option maxRecDepth 100000
set_option maxHeartbeats 16000000
set_option linter.unusedVariables false
set_option linter.unusedSimpArgs false
set_option linter.unnecessarySimpa false
set_option linter.unusedSectionVars false
section
attribute [local go_sem ↓] Go.wp_at_zero Go.wp_at_succ
theorem qz76 {P : Program} {fn : Func} {p q r : Tmp} {t1 t2 : TypeId} (h : fn.results = #[.cell p t1, .cell q t2, .tmp r]) (tmps : Array Value) (w : World) (b1 b2 : Nat) (h1 : tmps.getD p undef = .pointer (some ⟨b1, 0, none⟩)) (h2 : tmps.getD q undef = .pointer (some ⟨b2, 0, none⟩)) (v : Value) (h3 : tmps.getD r undef = v)
  (c1 c2 : List Value) (d1 d2 : TypeDesc) (r1 : w.rangeAt b1 0 c1) (r2 : w.rangeAt b2 0 c2) (u1 : P.underlying t1 = some d1) (k1 : d1.isRow = true) (i1 : (P.info? t1).map (·.size) = some c1.length) (u2 : P.underlying t2 = some d2) (k2 : d2.isRow = true) (i2 : (P.info? t2).map (·.size) = some c2.length) :
  (results fn tmps).run P w = .ok (.tuple #[.agg c1.toArray, .agg c2.toArray, v]) w := by
 have l1 := run_loadVar_mid (P := P) w b1 0 t1 c1 d1 r1 u1 k1 i1
 have l2 := run_loadVar_mid (P := P) w b2 0 t2 c2 d2 r2 u2 k2 i2
 rw [Array.getD_eq_getD_getElem?] at h1 h2
 subst h3
 simp [results, h, h1, h2, asAddr, Result.andThen, l1, l2]
theorem qz4n {P : Program} {fn : Func} {p q r3 r4 r5 r6 r7 : Tmp} {t1 t2 : TypeId} (h : fn.results = #[.cell p t1, .cell q t2, .tmp r3, .tmp r4, .tmp r5, .tmp r6, .tmp r7]) (tmps : Array Value) (w : World) (b1 b2 : Nat) (h1 : tmps.getD p undef = .pointer (some ⟨b1, 0, none⟩)) (h2 : tmps.getD q undef = .pointer (some ⟨b2, 0, none⟩)) (v3 v4 v5 v6 v7 : Value) (h3 : tmps.getD r3 undef = v3) (h4 : tmps.getD r4 undef = v4) (h5 : tmps.getD r5 undef = v5) (h6 : tmps.getD r6 undef = v6) (h7 : tmps.getD r7 undef = v7)
  (c1 c2 : List Value) (d1 d2 : TypeDesc) (r1 : w.rangeAt b1 0 c1) (r2 : w.rangeAt b2 0 c2) (u1 : P.underlying t1 = some d1) (k1 : d1.isRow = true) (i1 : (P.info? t1).map (·.size) = some c1.length) (u2 : P.underlying t2 = some d2) (k2 : d2.isRow = true) (i2 : (P.info? t2).map (·.size) = some c2.length) :
  (results fn tmps).run P w = .ok (.tuple #[.agg c1.toArray, .agg c2.toArray, v3, v4, v5, v6, v7]) w := by
 have l1 := run_loadVar_mid (P := P) w b1 0 t1 c1 d1 r1 u1 k1 i1
 have l2 := run_loadVar_mid (P := P) w b2 0 t2 c2 d2 r2 u2 k2 i2
 rw [Array.getD_eq_getD_getElem?] at h1 h2
 subst h3 h4 h5 h6 h7
 simp [results, h, h1, h2, asAddr, Result.andThen, l1, l2]
def l3aG (b bp ba : Nat) (x y z u : Int) (A : Ar) (a0 a1 a2 a3 : Option Addr) (c0 c1 c2 c3 : Nat) : Nat -> Value -> Prop
 | 0, v => v = .agg Q06
 | 1, v => v = .agg Q02
 | 2, v => v = .pointer (some ⟨b, 0, none⟩)
 | 3, v => v = .pointer (some ⟨ba, 3, none⟩)
 | 4, v => v = .slice a2 Q6q c2
 | 5, v => v = .int .i64 (Q6q : Int)
 | 6, v => ∃ k : Int, v = .int .i64 k
 | 9, v => ∃ k : Int, v = .int .i64 k
 | _, _ => True
def l3bG (b bp ba : Nat) (x y z u : Int) (A : Ar) (a0 a1 a2 a3 : Option Addr) (c0 c1 c2 c3 : Nat) : Nat -> Value -> Prop
 | 0, v => v = .agg Q06
 | 1, v => v = .agg Q02
 | 2, v => v = .pointer (some ⟨b, 0, none⟩)
 | 3, v => v = .pointer (some ⟨ba, 3, none⟩)
 | 4, v => v = .slice a2 Q6q c2
 | 5, v => v = .int .i64 (Q6q : Int)
 | 6, v => ∃ k : Int, v = .int .i64 k
 | 9, v => ∃ k : Int, v = .int .i64 k
 | _, _ => True
def L3D (B b : Nat) (w : World) (a : Option Addr) (len cap : Nat) (e : Ending) (w' : World) : Prop := ∃ (x y z u : Int) (A : Ar) (a0 a1 a2 a3 : Option Addr) (c0 c1 c2 c3 : Nat) (k : Int), e = .returned (.tuple #[.agg Q06, .agg Q02, .int .i64 k]) /\ qz3w x y z u = true /\ qzcz A /\ qz1t Q6o w' Q0x Q0w Q0t Q11 A /\ (∃ i h, qz1f .i64 w' b a len cap i h) /\ qz17 B w' a len /\ Only b w w'
theorem qzcw (B b : Nat) (a : Option Addr) (len cap : Nat) (i h : Int) (w : World) (hB : B <= b) (hlen : len <= 4096) (D : qz1f .i64 w b a len cap i h) (C : qz17 B w a len) :
  Calls Tryz.prog 27 Q58 w fun e w' => L3D B b w a len cap e w' := by
 have hbw := D.blk
 have T2 := Q7h (qzg w Q3t 25 4 (by decide)) (.cells Q09 30)
 have T3 := qzg (w.alloc Q0y) Q09 30 5 (by decide)
 simp only [World.size_alloc] at T3
 have D0 := (D.alloc Q0y).alloc (.cells Q09 30)
 have C0 := (C.alloc (by omega) Q0y).alloc (by simp; omega) (.cells Q09 30)
 have O0 := ((Only.refl b w).alloc Q0y).alloc (.cells Q09 30)
 have hz0 : (Q50).heap.size = Q6o + 1 + 1 := by simp
 go_enter Tryz.func27, Tryz.ntmps27
 go_wp2_with fail
 generalize hw0 : Q50 = w0 at *
 clear hw0
 refine (qza6 B b a len cap i h w0 hB hlen D0 C0).mono ?_
 rintro e w1 ⟨x, y, z, u, A, s, g, n, r, rfl, hp, hsm, Ow1, ⟨i1, h1, D1⟩, C1, O1⟩
 have hz1 := O1.size
 obtain ⟨a0, c0, rfl⟩ := qzf Ow1.rs
 obtain ⟨a1, c1, rfl⟩ := qzf Ow1.rg
 obtain ⟨a2, c2, rfl⟩ := qzf Ow1.rn
 obtain ⟨a3, c3, rfl⟩ := qzf Ow1.rr
 have S1 := Q7h (qzg w1 Q3t 25 4 (by decide)) (.cells Q09 30)
 have S2 := qzg (w1.alloc Q0y) Q09 30 5 (by decide)
 have al := ((Q6s Q6y w1).alloc (Q6v _) Q0y).alloc (by simp) (.cells Q09 30)
 have hzA : (((w1).alloc Q0y).alloc (.cells Q09 30)).heap.size = Q6y + 1 + 1 := by simp
 simp only [World.size_alloc] at S2
 have tok : True := trivial
 go_wp2_with (clear tok; refine qz2j (((w1).alloc Q0y).alloc (.cells Q09 30)) ?_)
 generalize hwA : (((w1).alloc Q0y).alloc (.cells Q09 30)) = wA at *
 clear hwA
 show wpList _ _ _ _ _ wA
 have S2' := Q7f S2 Q6y 0 Q0n
 have al5 : Below Q6y w1 (((wA).setCells Q6y 0 Q0n).setCells (Q6y + 1) 0 Q0j) := Below.setCells (by omega) _ _ _ (Below.setCells (by omega) _ _ _ al)
 have hz5 : (Q6y + 1) < (((wA).setCells Q6y 0 Q0n).setCells (Q6y + 1) 0 Q0j).heap.size := by rw [qzp, qzp]; omega
 have P_pl : (((wA).setCells Q6y 0 Q0n).setCells (Q6y + 1) 0 Q0j).rangeAt Q6y 0 Q0n := Q7d (Q6u _ _ _ _ S1) _ _ _ (Or.inl (by omega))
 have P_ac : (((wA).setCells Q6y 0 Q0n).setCells (Q6y + 1) 0 Q0j).rangeAt (Q6y + 1) 0 Q0j := Q6u _ _ _ _ S2'
 refine Q6t rfl 25 (.tmp 5) (.tmp 10) rfl Q6y 0 Q06 rfl rfl S1 qz1u (by simp [Value.oneCell']) ?_
 refine Q6t rfl 30 (.tmp 6) (.tmp 11) rfl (Q6y + 1) 0 Q02 rfl rfl S2' qz15 (by simp [Value.oneCell']) ?_
 show wpList _ _ _ _ _ (((wA).setCells Q6y 0 Q0n).setCells (Q6y + 1) 0 Q0j)
 have P_dice : ∃ i h, qz1f .i64 (((wA).setCells Q6y 0 Q0n).setCells (Q6y + 1) 0 Q0j) b a len cap i h := ⟨i1, h1, D1.below al5⟩
 have P_by := C1.below (al5.mono (by have := D1.blk; omega))
 have P_r2 := qz5 (qzj T2 O1 (by omega) (by omega)) al5 (by omega)
 have P_r3 := qz5 (qzj T3 O1 (by omega) (by omega)) al5 (by omega)
 have P_own := (Ow1.below al5).lo (base' := Q6o) (by omega)
 have P_far : ∀ q, OwnB Q0x Q0w Q0t Q11 q -> Q6o + 1 < q /\ q < Q6y := fun q e => ⟨by have := Ow1.ge q e; omega, Ow1.lt q e⟩
 have P_only := (O0.trans O1).trans (Only.of_below al5)
 clear al5 al S1 S2 S2' T2 T3 D0 C0 O0 O1 Ow1 D1 C1 hzA
 generalize (((wA).setCells Q6y 0 Q0n).setCells (Q6y + 1) 0 Q0j) = w5 at *
 show wpList _ _ _ _ _ w5
 generalize hba : Q6y + 1 = ba at *
 generalize hbp : Q6y = bp at *
 obtain ⟨hs1, hs2, ⟨hs3, hs4⟩, hs5, hs6⟩ := id hsm
 have hB5 : B <= Q7i := by omega
 obtain ⟨i3, h3, D3⟩ := P_dice
 go_wp2_with fail
 refine (qz2g B b a len cap i3 h3 12 w5 hB hlen D3 P_by (by omega) (by omega)).mono ?_
 rintro e w6 ⟨once, i6, h6, rfl, D6, C6, O6⟩
 have hz6 := O6.size
 replace P_pl := qzh P_pl O6 (by omega) (by omega)
 replace P_ac := qzh P_ac O6 (by omega) (by omega)
 replace P_r2 := qzj P_r2 O6 (by omega) (by omega)
 replace P_r3 := qzj P_r3 O6 (by omega) (by omega)
 replace P_own := P_own.only O6 (by omega)
 replace P_only := P_only.trans O6
 have P_dice : ∃ i h, qz1f .i64 w6 b a len cap i h := ⟨i6, h6, D6⟩
 replace P_by := C6
 clear D3 D6 C6 O6
 cases once
 case true =>
  go_wp2_with fail
  refine qz3q 10 (by kernel_rfl) (qz8d 7 8 B b w6 a len cap Q6o (Q6o + 1) bp ba x y z u Q6w Q0x Q0w Q0t Q11) (by obtain ⟨i0, h0, Dd⟩ := P_dice; exact ⟨⟨i0, h0, Dd.below (Below.drawn1 _)⟩, P_by.below ((Below.drawn1 _).mono (by omega)), P_pl, P_ac, P_r2, P_r3, (fun h => by cases h), (fun h => by cases h), ⟨rfl, rfl, rfl, Q6v _, fun _ _ _ => rfl⟩, by omega, by decide⟩) (fun _ i v _ => l3aG b bp ba x y z u A a0 a1 a2 a3 c0 c1 c2 c3 i v) (by kernel_rfl) (by kernel_rfl) (by kernel_rfl) (by kernel_rfl) (by rfl) ?stepa ?finala
  case stepa =>
   intro i o hik ho' L aa V hLi hLk hcl J hnn hd' K hK
   obtain ⟨j1, j2, j3, j4, j5, j6, j7, j8, j9, j10, j11⟩ := id J
   match i, ho' with
   | 0, ho' =>
    obtain rfl := Q6p ho'
    exact qz1s 25 (.tmp 5) rfl bp 0 (hnn 5 rfl) Q0n _ j3 Tryz.underlying25 rfl qz1u (hK _ _ rfl (J.on 0 (by decide) (by decide)) (fun j v' _ _ q => q))
   | 1, ho' =>
    obtain rfl := Q6p ho'
    exact qz1s 30 (.tmp 6) rfl ba 0 (hnn 6 rfl) Q0j _ j4 Q7g rfl qz15 (hK _ _ rfl (J.on 1 (by decide) (by decide)) (fun j v' _ _ q => q))
   | 2, ho' =>
    obtain rfl := Q6p ho'
    have e0 : aa.eval (.tmp 0) = .pointer (some ⟨b, 0, none⟩) := hnn 0 rfl
    refine qz1 (v := .pointer (some ⟨b, 0, none⟩)) (w' := V) ?_ (hK _ _ rfl (J.on 2 (by decide) (by decide)) (fun j v' _ _ q => q))
    clear J j1 j2 j3 j4 j5 j6 j7 j8 j9 j10 j11
    generalize aa.eval = ev at *
    go_simp
   | 3, ho' =>
    obtain rfl := Q6p ho'
    have e6 : aa.eval (.tmp 6) = .pointer (some ⟨ba, 0, none⟩) := hnn 6 rfl
    refine qz1 (v := .pointer (some ⟨ba, 3, none⟩)) (w' := V) ?_ (hK _ _ rfl (J.on 3 (by decide) (by decide)) (fun j v' _ _ q => q))
    clear J j1 j2 j3 j4 j5 j6 j7 j8 j9 j10 j11
    generalize aa.eval = ev at *
    go_simp
   | 4, ho' =>
    obtain rfl := Q6p ho'
    have y3 : V.cell? ⟨ba, 3, none⟩ = some Q0t := by simpa using j4 3 _ rfl
    have e17 : aa.eval (.tmp 17) = .pointer (some ⟨ba, 3, none⟩) := (hd' ⟨3, .data⟩ (by simp) rfl 17 rfl).2
    refine qz1 (v := .slice a2 Q6q c2) (w' := V) ?_ (hK _ _ rfl (J.on 4 (by decide) (by decide)) (fun j v' _ _ q => q))
    clear J j1 j2 j3 j4 j5 j6 j7 j8 j9 j10 j11
    generalize aa.eval = ev at *
    go_simp
   | 5, ho' =>
    obtain rfl := Q6p ho'
    have e18 : aa.eval (.tmp 18) = .slice a2 Q6q c2 := (hd' ⟨4, .data⟩ (by simp) rfl 18 rfl).2
    refine qz1 (v := .int .i64 (Q6q : Int)) (w' := V) ?_ (hK _ _ rfl (J.on 5 (by decide) (by decide)) (fun j v' _ _ q => q))
    clear J j1 j2 j3 j4 j5 j6 j7 j8 j9 j10 j11
    generalize aa.eval = ev at *
    go_simp
   | 6, ho' =>
    obtain rfl := Q6p ho'
    obtain ⟨ii, hh, Dd⟩ := j1
    have e16 : aa.eval (.tmp 16) = .pointer (some ⟨b, 0, none⟩) := (hd' ⟨2, .data⟩ (by simp) rfl 16 rfl).2
    have e19 : aa.eval (.tmp 19) = .int .i64 (Q6q : Int) := (hd' ⟨5, .data⟩ (by simp) rfl 19 rfl).2
    have ec0 : aa.eval (.const (.int .i64 (-1))) = .int .i64 (-1) := rfl
    have ef : aa.eval (.func 30) = .func (.func 30) #[] #[] := rfl
    refine qz19 (f := 30) (args := #[.pointer (some ⟨b, 0, none⟩), .int .i64 (-1), .int .i64 (Q6q : Int)]) (R := fun v w' => ∃ m i' h', v = .int .i64 m /\ qz1f .i64 w' b a len cap i' h' /\ qz17 B w' a len /\ Only b V w') ?_ ((qz2a B b a len cap ii hh (-1) (Q6q : Int) V hB hlen Dd j2 (by omega) (by omega) (by omega)).mono (fun e w' h => by obtain ⟨m, i', h', e1, _, _, q1, q2, q3⟩ := h; exact ⟨_, e1, m, i', h', rfl, q1, q2, q3⟩)) (fun v w' h => by obtain ⟨m, i', h', e1, q1, q2, q3⟩ := h; exact hK v w' ⟨m, e1⟩ (J.draw 6 (by decide) (by decide) q1 q2 q3) (fun j v' _ _ q => q))
    clear Dd
    clear J j2 j3 j4 j5 j6 j7 j8 j9 j10 j11
    generalize aa.eval = ev at *
    go_simp
   | 7, ho' =>
    obtain rfl := Q6p ho'
    refine wp_store_mid 25 (.tmp 2) (.tmp 14) rfl Q6o 0 Q06 (hnn 2 rfl) (hd' ⟨0, .data⟩ (by simp) rfl 14 rfl).2 j5 qz1u (by simp [Value.oneCell']) ?_
    exact hK _ _ trivial J.st0 (fun j v' _ _ q => q)
   | 8, ho' =>
    obtain rfl := Q6p ho'
    refine wp_store_mid 30 (.tmp 3) (.tmp 15) rfl (Q6o + 1) 0 Q02 (hnn 3 rfl) (hd' ⟨1, .data⟩ (by simp) rfl 15 rfl).2 j6 qz15 (by simp [Value.oneCell']) ?_
    exact hK _ _ trivial J.st1 (fun j v' _ _ q => q)
   | 9, ho' =>
    obtain rfl := Q6p ho'
    obtain ⟨k, ek⟩ := (show ∃ k : Int, aa.eval (.tmp 20) = .int .i64 k from (hd' ⟨6, .data⟩ (by simp) rfl 20 rfl).2)
    refine qz1 (v := .int .i64 k) (w' := V) ?_ (hK _ _ ⟨k, rfl⟩ (J.on 9 (by decide) (by decide)) (fun j v' _ _ q => q))
    clear J j1 j2 j3 j4 j5 j6 j7 j8 j9 j10 j11
    generalize aa.eval = ev at *
    go_simp
   | n + 10, ho' => omega
  intro L vs V' hLall J hG
  have r1 := J.k9 (hLall 7 (by decide))
  have r2 := J.k10 (hLall 8 (by decide))
  have hBt := J.k12
  have dd := J.dice
  have cc := J.bytes
  generalize hl : laid _ vs _ _ _ = BB
  obtain ⟨k, gk⟩ := (show ∃ k : Int, vs 9 = .int .i64 k from hG 9 (by decide))
  have f2 : BB.tmps.getD 2 undef = .pointer (some ⟨Q6o, 0, none⟩) := by
   rw [<- hl]
   kernel_rfl
  have f3 : BB.tmps.getD 3 undef = .pointer (some ⟨(Q6o + 1), 0, none⟩) := by
   rw [<- hl]
   kernel_rfl
  have f4 : BB.tmps.getD 4 undef = .int .i64 k := by
   rw [<- gk, <- hl]
   kernel_rfl
  have fd : BB.defers = [] := by
   rw [<- hl]
   kernel_rfl
  have OV : qz1t Q6o V' Q0x Q0w Q0t Q11 A := P_own.kept hBt (fun q hq h => by have := P_far q hq; omega)
  have OnV : Only b w V' := qz88 P_only hBt (fun q h1 h2 h => by omega)
  clear hl hG gk J hBt hLall
  simp only [List.drop_succ_cons, List.drop_zero]
  go_wp2_with fail
  refine bodyPost_ret (v := .tuple #[.agg (Q06 : Array Value), .agg Q02, .int .i64 k]) ?_ fd ⟨x, y, z, u, A, _, _, _, _, _, _, _, _, k, rfl, hp, hsm, OV, dd, cc, OnV⟩
  exact qz76 Tryz.results27 _ V' (Q6o) (Q6o + 1) f2 f3 _ f4 Q0n Q0j _ _ r1 r2 Tryz.underlying25 rfl qz1u Q7g rfl qz15
 case false =>
  go_wp2_with fail
  refine qz3q 10 (by kernel_rfl) (qz8d 7 8 B b w6 a len cap Q6o (Q6o + 1) bp ba x y z u Q6w Q0x Q0w Q0t Q11) (by obtain ⟨i0, h0, Dd⟩ := P_dice; exact ⟨⟨i0, h0, Dd.below (Below.drawn1 _)⟩, P_by.below ((Below.drawn1 _).mono (by omega)), P_pl, P_ac, P_r2, P_r3, (fun h => by cases h), (fun h => by cases h), ⟨rfl, rfl, rfl, Q6v _, fun _ _ _ => rfl⟩, by omega, by decide⟩) (fun _ i v _ => l3bG b bp ba x y z u A a0 a1 a2 a3 c0 c1 c2 c3 i v) (by kernel_rfl) (by kernel_rfl) (by kernel_rfl) (by kernel_rfl) (by rfl) ?stepb ?finalb
  case stepb =>
   intro i o hik ho' L aa V hLi hLk hcl J hnn hd' K hK
   obtain ⟨j1, j2, j3, j4, j5, j6, j7, j8, j9, j10, j11⟩ := id J
   match i, ho' with
   | 0, ho' =>
    obtain rfl := Q6p ho'
    exact qz1s 25 (.tmp 5) rfl bp 0 (hnn 5 rfl) Q0n _ j3 Tryz.underlying25 rfl qz1u (hK _ _ rfl (J.on 0 (by decide) (by decide)) (fun j v' _ _ q => q))
   | 1, ho' =>
    obtain rfl := Q6p ho'
    exact qz1s 30 (.tmp 6) rfl ba 0 (hnn 6 rfl) Q0j _ j4 Q7g rfl qz15 (hK _ _ rfl (J.on 1 (by decide) (by decide)) (fun j v' _ _ q => q))
   | 2, ho' =>
    obtain rfl := Q6p ho'
    have e0 : aa.eval (.tmp 0) = .pointer (some ⟨b, 0, none⟩) := hnn 0 rfl
    refine qz1 (v := .pointer (some ⟨b, 0, none⟩)) (w' := V) ?_ (hK _ _ rfl (J.on 2 (by decide) (by decide)) (fun j v' _ _ q => q))
    clear J j1 j2 j3 j4 j5 j6 j7 j8 j9 j10 j11
    generalize aa.eval = ev at *
    go_simp
   | 3, ho' =>
    obtain rfl := Q6p ho'
    have e6 : aa.eval (.tmp 6) = .pointer (some ⟨ba, 0, none⟩) := hnn 6 rfl
    refine qz1 (v := .pointer (some ⟨ba, 3, none⟩)) (w' := V) ?_ (hK _ _ rfl (J.on 3 (by decide) (by decide)) (fun j v' _ _ q => q))
    clear J j1 j2 j3 j4 j5 j6 j7 j8 j9 j10 j11
    generalize aa.eval = ev at *
    go_simp
   | 4, ho' =>
    obtain rfl := Q6p ho'
    have y3 : V.cell? ⟨ba, 3, none⟩ = some Q0t := by simpa using j4 3 _ rfl
    have e24 : aa.eval (.tmp 24) = .pointer (some ⟨ba, 3, none⟩) := (hd' ⟨3, .data⟩ (by simp) rfl 24 rfl).2
    refine qz1 (v := .slice a2 Q6q c2) (w' := V) ?_ (hK _ _ rfl (J.on 4 (by decide) (by decide)) (fun j v' _ _ q => q))
    clear J j1 j2 j3 j4 j5 j6 j7 j8 j9 j10 j11
    generalize aa.eval = ev at *
    go_simp
   | 5, ho' =>
    obtain rfl := Q6p ho'
    have e25 : aa.eval (.tmp 25) = .slice a2 Q6q c2 := (hd' ⟨4, .data⟩ (by simp) rfl 25 rfl).2
    refine qz1 (v := .int .i64 (Q6q : Int)) (w' := V) ?_ (hK _ _ rfl (J.on 5 (by decide) (by decide)) (fun j v' _ _ q => q))
    clear J j1 j2 j3 j4 j5 j6 j7 j8 j9 j10 j11
    generalize aa.eval = ev at *
    go_simp
   | 6, ho' =>
    obtain rfl := Q6p ho'
    obtain ⟨ii, hh, Dd⟩ := j1
    have e23 : aa.eval (.tmp 23) = .pointer (some ⟨b, 0, none⟩) := (hd' ⟨2, .data⟩ (by simp) rfl 23 rfl).2
    have e26 : aa.eval (.tmp 26) = .int .i64 (Q6q : Int) := (hd' ⟨5, .data⟩ (by simp) rfl 26 rfl).2
    have ef : aa.eval (.func 31) = .func (.func 31) #[] #[] := rfl
    refine qz19 (f := 31) (args := #[.pointer (some ⟨b, 0, none⟩), .int .i64 (Q6q : Int)]) (R := fun v w' => ∃ m i' h', v = .int .i64 m /\ qz1f .i64 w' b a len cap i' h' /\ qz17 B w' a len /\ Only b V w') ?_ ((qzx B b a len cap ii hh (Q6q : Int) V hB hlen Dd j2 (by omega) (by omega)).mono (fun e w' h => by obtain ⟨m, i', h', e1, _, _, q1, q2, q3⟩ := h; exact ⟨_, e1, m, i', h', rfl, q1, q2, q3⟩)) (fun v w' h => by obtain ⟨m, i', h', e1, q1, q2, q3⟩ := h; exact hK v w' ⟨m, e1⟩ (J.draw 6 (by decide) (by decide) q1 q2 q3) (fun j v' _ _ q => q))
    clear Dd
    clear J j2 j3 j4 j5 j6 j7 j8 j9 j10 j11
    generalize aa.eval = ev at *
    go_simp
   | 7, ho' =>
    obtain rfl := Q6p ho'
    refine wp_store_mid 25 (.tmp 2) (.tmp 21) rfl Q6o 0 Q06 (hnn 2 rfl) (hd' ⟨0, .data⟩ (by simp) rfl 21 rfl).2 j5 qz1u (by simp [Value.oneCell']) ?_
    exact hK _ _ trivial J.st0 (fun j v' _ _ q => q)
   | 8, ho' =>
    obtain rfl := Q6p ho'
    refine wp_store_mid 30 (.tmp 3) (.tmp 22) rfl (Q6o + 1) 0 Q02 (hnn 3 rfl) (hd' ⟨1, .data⟩ (by simp) rfl 22 rfl).2 j6 qz15 (by simp [Value.oneCell']) ?_
    exact hK _ _ trivial J.st1 (fun j v' _ _ q => q)
   | 9, ho' =>
    obtain rfl := Q6p ho'
    obtain ⟨k, ek⟩ := (show ∃ k : Int, aa.eval (.tmp 27) = .int .i64 k from (hd' ⟨6, .data⟩ (by simp) rfl 27 rfl).2)
    refine qz1 (v := .int .i64 k) (w' := V) ?_ (hK _ _ ⟨k, rfl⟩ (J.on 9 (by decide) (by decide)) (fun j v' _ _ q => q))
    clear J j1 j2 j3 j4 j5 j6 j7 j8 j9 j10 j11
    generalize aa.eval = ev at *
    go_simp
   | n + 10, ho' => omega
  intro L vs V' hLall J hG
  have r1 := J.k9 (hLall 7 (by decide))
  have r2 := J.k10 (hLall 8 (by decide))
  have hBt := J.k12
  have dd := J.dice
  have cc := J.bytes
  generalize hl : laid _ vs _ _ _ = BB
  obtain ⟨k, gk⟩ := (show ∃ k : Int, vs 9 = .int .i64 k from hG 9 (by decide))
  have f2 : BB.tmps.getD 2 undef = .pointer (some ⟨Q6o, 0, none⟩) := by
   rw [<- hl]
   kernel_rfl
  have f3 : BB.tmps.getD 3 undef = .pointer (some ⟨(Q6o + 1), 0, none⟩) := by
   rw [<- hl]
   kernel_rfl
  have f4 : BB.tmps.getD 4 undef = .int .i64 k := by
   rw [<- gk, <- hl]
   kernel_rfl
  have fd : BB.defers = [] := by
   rw [<- hl]
   kernel_rfl
  have OV : qz1t Q6o V' Q0x Q0w Q0t Q11 A := P_own.kept hBt (fun q hq h => by have := P_far q hq; omega)
  have OnV : Only b w V' := qz88 P_only hBt (fun q h1 h2 h => by omega)
  clear hl hG gk J hBt hLall
  simp only [List.drop_succ_cons, List.drop_zero]
  go_wp2_with fail
  refine bodyPost_ret (v := .tuple #[.agg (Q06 : Array Value), .agg Q02, .int .i64 k]) ?_ fd ⟨x, y, z, u, A, _, _, _, _, _, _, _, _, k, rfl, hp, hsm, OV, dd, cc, OnV⟩
  exact qz76 Tryz.results27 _ V' (Q6o) (Q6o + 1) f2 f3 _ f4 Q0n Q0j _ _ r1 r2 Tryz.underlying25 rfl qz1u Q7g rfl qz15
end
end Go.Proofs.YthjkdnlmopafkaaGreatDoor
