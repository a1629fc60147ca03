/-
  What the law's proof goes by, part 41.
-/
import Derived.Test.YthjkdnlmopafkaaGreatDoorFnSwappedCard00
import Derived.Test.YthjkdnlmopafkaaGreatDoorFnSwappedCard04
import Derived.Test.YthjkdnlmopafkaaGreatDoorFnSwappedCard39
namespace Go.Proofs.YthjkdnlmopafkaaGreatDoor
open Go.ChangeShapes Go.WideShapes Go.ChangeAt Go.RowKit
set_option maxRecDepth 100000
set_option maxHeartbeats 16000000
set_option linter.unusedVariables false
set_option linter.unusedSimpArgs false
set_option linter.unnecessarySimpa false
set_option linter.unusedSectionVars false
section
attribute [local go_sem ↓] Go.wp_at_zero Go.wp_at_succ
def qz6f (b bp ba : Nat) (x y z u : Int) (A : Ar) (a0 a1 a2 a3 : Option Addr) (c0 c1 c2 c3 : Nat) (ni vv nx kd : Int) : Nat -> Value -> Prop
 | 0, v => v = .agg Q06
 | 1, v => v = .agg Q02
 | 2, v => v = .int .i64 ni
 | 3, v => v = .int .i64 vv
 | 4, v => v = .int .i64 nx
 | 5, v => v = .pointer (some ⟨b, 0, none⟩)
 | 6, v => ∃ k : Bool, v = .bool k
 | 7, v => v = .int .i64 kd
 | 10, v => v = .int .i64 ni
 | 11, v => v = .int .i64 vv
 | 12, v => v = .int .i64 nx
 | 13, v => ∃ k : Bool, v = .bool k
 | 14, v => v = .int .i64 kd
 | _, _ => True
def qzf0 (w : World) (e : Ending) (w' : World) : Prop := ∃ (x y z u : Int) (A : Ar) (a0 a1 a2 a3 : Option Addr) (c0 c1 c2 c3 : Nat) (ni vv nx : Int) (go : Bool) (kd : Int), e = .returned (.tuple #[.agg Q06, .agg Q02, .int .i64 ni, .int .i64 vv, .int .i64 nx, .bool go, .int .i64 kd]) /\ qz3w x y z u = true /\ qzcz A /\ qz1t Q6o w' Q0x Q0w Q0t Q11 A /\ Below Q6o w w'
theorem qz7n (a : Option Addr) (len cap : Nat) (w : World) (hlen : len <= 4096) (C : qz17 Q6o w a len) :
  Calls Tryz.prog 6 #[.slice a len cap] w fun e w' => qzf0 w e w' := by
 have T2 := Q7h (qzg w Q3t 25 4 (by decide)) (.cells Q09 30)
 have T3 := qzg (w.alloc Q0y) Q09 30 5 (by decide)
 simp only [World.size_alloc] at T3
 have al0 := ((Q6s Q6o w).alloc (Q6v _) Q0y).alloc (by simp) (.cells Q09 30)
 have hz0 : (Q50).heap.size = Q6o + 1 + 1 := by simp
 go_enter Tryz.func6, Tryz.ntmps6
 go_upto_region 1 with fail
 generalize hw0 : Q50 = w0 at *
 clear hw0
 have C0 := C.below al0
 go_wp2_with fail
 refine (qzea a len cap w0 hlen (C0.weaken (by omega))).mono ?_
 rintro e w1 ⟨rfl, ⟨h1, D1⟩, b1⟩
 have T2a := qz5 T2 b1 (by omega)
 have T3a := qz5 T3 b1 (by omega)
 have C1 := C0.below (b1.mono (by omega))
 have K1 := al0.trans (b1.mono (by omega))
 have hb1 := D1.blk
 have hlb : (Q6o + 1) < Q73 := by omega
 generalize Q73 = b at *
 clear T2 T3 C0 al0 C b1 hz0
 obtain ⟨B, hBe⟩ : ∃ B, B = Q6o := ⟨_, rfl⟩
 rw [<- hBe] at C1
 have hB : B <= b := by omega
 go_wp2_with fail
 refine (qzcw B b a len cap 0 h1 w1 hB hlen D1 C1).mono ?_
 rintro e w2 ⟨x, y, z, u, A, a0, a1, a2, a3, c0, c1, c2, c3, ni, rfl, hp, hsm, Ow2, ⟨i2, h2, D2⟩, C2, O2⟩
 have hz2 := O2.size
 have S1 := Q7h (qzg w2 Q3t 25 4 (by decide)) (.cells Q09 30)
 have S2 := qzg (w2.alloc Q0y) Q09 30 5 (by decide)
 have al := ((Q6s Q78 w2).alloc (Q6v _) Q0y).alloc (by simp) (.cells Q09 30)
 have hzA : (((w2).alloc Q0y).alloc (.cells Q09 30)).heap.size = Q78 + 1 + 1 := by simp
 simp only [World.size_alloc] at S2
 have tok : True := trivial
 go_wp2_with (clear tok; refine qz2j (((w2).alloc Q0y).alloc (.cells Q09 30)) ?_)
 generalize hwA : (((w2).alloc Q0y).alloc (.cells Q09 30)) = wA at *
 clear hwA
 show wpList _ _ _ _ _ wA
 have S2' := Q7f S2 Q78 0 Q0n
 have al5 : Below Q78 w2 (((wA).setCells Q78 0 Q0n).setCells (Q78 + 1) 0 Q0j) := Below.setCells (by omega) _ _ _ (Below.setCells (by omega) _ _ _ al)
 have hz5 : (Q78 + 1) < (((wA).setCells Q78 0 Q0n).setCells (Q78 + 1) 0 Q0j).heap.size := by rw [qzp, qzp]; omega
 have P_pl : (((wA).setCells Q78 0 Q0n).setCells (Q78 + 1) 0 Q0j).rangeAt Q78 0 Q0n := Q7d (Q6u _ _ _ _ S1) _ _ _ (Or.inl (by omega))
 have P_ac : (((wA).setCells Q78 0 Q0n).setCells (Q78 + 1) 0 Q0j).rangeAt (Q78 + 1) 0 Q0j := Q6u _ _ _ _ S2'
 refine Q6t rfl 25 (.tmp 10) (.tmp 21) rfl Q78 0 Q06 rfl rfl S1 qz1u (by simp [Value.oneCell']) ?_
 refine Q6t rfl 30 (.tmp 11) (.tmp 22) rfl (Q78 + 1) 0 Q02 rfl rfl S2' qz15 (by simp [Value.oneCell']) ?_
 show wpList _ _ _ _ _ (((wA).setCells Q78 0 Q0n).setCells (Q78 + 1) 0 Q0j)
 have D5 := D2.below al5
 have P_by := C2.below (al5.mono (by have := D2.blk; omega))
 have P_r2 := qz5 (qzj T2a O2 (by omega) (by omega)) al5 (by omega)
 have P_r3 := qz5 (qzj T3a O2 (by omega) (by omega)) al5 (by omega)
 have P_own := Ow2.below al5
 have P_far : ∀ q, OwnB Q0x Q0w Q0t Q11 q -> b < q /\ q < Q78 := fun q e => ⟨by have := Ow2.ge q e; omega, Ow2.lt q e⟩
 have P_bel := (K1.trans (O2.below (by omega) (by omega))).trans (al5.mono (by omega))
 have P_own := P_own.lo (base' := Q6o) (by omega)
 clear al5 al S1 S2 S2' T2a T3a O2 Ow2 D1 C1 D2 C2 K1 hzA
 generalize (((wA).setCells Q78 0 Q0n).setCells (Q78 + 1) 0 Q0j) = w5 at *
 show wpList _ _ _ _ _ w5
 generalize hba : Q78 + 1 = ba at *
 generalize hbp : Q78 = bp at *
 obtain ⟨hs1, hs2, ⟨hs3, hs4⟩, hs5, hs6⟩ := id hsm
 have hAs : A.size <= 1048576 := by unfold Ar.size; omega
 have qp0 : w5.cell? ⟨bp, 0, none⟩ = some (.int .i64 x) := by simpa using P_pl 0 _ rfl
 have qp1 : w5.cell? ⟨bp, 1, none⟩ = some (.int .i64 y) := by simpa using P_pl 1 _ rfl
 have qp2 : w5.cell? ⟨bp, 2, none⟩ = some (.int .i64 z) := by simpa using P_pl 2 _ rfl
 have qp3 : w5.cell? ⟨bp, 3, none⟩ = some (.int .i64 u) := by simpa using P_pl 3 _ rfl
 have qa0 : w5.cell? ⟨ba, 0, none⟩ = some (.int .i64 Q6w) := by simpa using P_ac 0 _ rfl
 have qa1 : w5.cell? ⟨ba, 1, none⟩ = some Q0x := by simpa using P_ac 1 _ rfl
 have qa2 : w5.cell? ⟨ba, 2, none⟩ = some Q0w := by simpa using P_ac 2 _ rfl
 have qa3 : w5.cell? ⟨ba, 3, none⟩ = some Q0t := by simpa using P_ac 3 _ rfl
 have qa4 : w5.cell? ⟨ba, 4, none⟩ = some Q11 := by simpa using P_ac 4 _ rfl
 go_wp2_with fail
 refine (qz60 Q7i A x y z u ni a0 a1 a2 a3 c0 c1 c2 c3 w5 (Q6v _) hAs P_own.is).mono ?_
 rintro e w6 ⟨rfl, b6⟩
 clear qp0 qp1 qp2 qp3 qa0 qa1 qa2 qa3 qa4
 have hz6 := b6.size
 replace P_pl := qz0 P_pl b6 (by omega)
 replace P_ac := qz0 P_ac b6 (by omega)
 replace P_r2 := qz5 P_r2 b6 (by omega)
 replace P_r3 := qz5 P_r3 b6 (by omega)
 replace P_own := P_own.below b6
 replace P_bel := P_bel.trans (b6.mono (by omega))
 replace P_by := P_by.below (b6.mono (by omega))
 have D6 := D5.below b6
 clear b6 D5
 generalize qz93 x y z u A ni = vv at *
 go_wp2_with fail
 refine (qz2g B b a len cap i2 h2 4 w6 hB hlen D6 P_by (by omega) (by omega)).mono ?_
 rintro e w7 ⟨once, i7, h7, rfl, D7, C7, O7⟩
 have hz7 := O7.size
 replace P_pl := qzh P_pl O7 (by omega) (by omega)
 replace P_ac := qzh P_ac O7 (by omega) (by omega)
 replace P_r2 := qzj P_r2 O7 (by omega) (by omega)
 replace P_r3 := qzj P_r3 O7 (by omega) (by omega)
 replace P_own := P_own.farB O7 (fun q e => by have := P_far q e; omega)
 replace P_bel := P_bel.trans (O7.below (by omega) (by omega))
 replace P_by := C7
 clear D6 O7
 cases once
 case false =>
  have y3 : w7.cell? ⟨ba, 3, none⟩ = some Q0t := by simpa using P_ac 3 _ rfl
  go_wp2_with fail
  refine (qz2a B b a len cap _ _ (-1) ((Q6q : Int) - 1) w7 hB hlen D7 P_by (by omega) (by omega) (by omega)).mono ?_
  rintro e wb ⟨nx, ib, hb, rfl, nx0, nx1, Db, Cb, Ob⟩
  clear y3
  have hzb := Ob.size
  replace P_pl := qzh P_pl Ob (by omega) (by omega)
  replace P_ac := qzh P_ac Ob (by omega) (by omega)
  replace P_r2 := qzj P_r2 Ob (by omega) (by omega)
  replace P_r3 := qzj P_r3 Ob (by omega) (by omega)
  replace P_own := P_own.farB Ob (fun q e => by have := P_far q e; omega)
  replace P_bel := P_bel.trans (Ob.below (by omega) (by omega))
  replace P_by := Cb
  clear D7 Ob
  go_wp2_with fail
  refine (qzx B b a len cap ib hb 3 wb hB hlen Db P_by (by omega) (by omega)).mono ?_
  rintro e wc ⟨kd, ic, hc, rfl, kd0, kd1, Dc, Cc, Oc⟩
  have hzc := Oc.size
  replace P_pl := qzh P_pl Oc (by omega) (by omega)
  replace P_ac := qzh P_ac Oc (by omega) (by omega)
  replace P_r2 := qzj P_r2 Oc (by omega) (by omega)
  replace P_r3 := qzj P_r3 Oc (by omega) (by omega)
  replace P_own := P_own.farB Oc (fun q e => by have := P_far q e; omega)
  replace P_bel := P_bel.trans (Oc.below (by omega) (by omega))
  replace P_by := Cc
  clear Db Oc
  go_wp2_with fail
  refine (qz2g B b a len cap ic hc 12 wc hB hlen Dc P_by (by omega) (by omega)).mono ?_
  rintro e wd ⟨twelve, id', hd', rfl, Dd, Cd, Od⟩
  have hzd := Od.size
  replace P_pl := qzh P_pl Od (by omega) (by omega)
  replace P_ac := qzh P_ac Od (by omega) (by omega)
  replace P_r2 := qzj P_r2 Od (by omega) (by omega)
  replace P_r3 := qzj P_r3 Od (by omega) (by omega)
  replace P_own := P_own.farB Od (fun q e => by have := P_far q e; omega)
  replace P_bel := P_bel.trans (Od.below (by omega) (by omega))
  replace P_by := Cd
  clear Dc Od
  cases twelve
  case false =>
   have P_dice : ∃ i h, qz1f .i64 wd b a len cap i h := ⟨_, _, Dd⟩
   go_wp2_with fail
   refine qz3q 15 (by kernel_rfl) (qz8d 8 9 B b wd a len cap Q6o (Q6o + 1) bp ba x y z u Q6w Q0x Q0w Q0t Q11) (by obtain ⟨i0, h0, Dd⟩ := P_dice; exact ⟨⟨i0, h0, Dd.below (Below.drawn1 _)⟩, P_by.below ((Below.drawn1 _).mono (by omega)), P_pl, P_ac, P_r2, P_r3, (fun h => by cases h), (fun h => by cases h), ⟨rfl, rfl, rfl, Q6v _, fun _ _ _ => rfl⟩, by omega, by decide⟩) (fun _ i v _ => qz6f b bp ba x y z u A a0 a1 a2 a3 c0 c1 c2 c3 ni vv nx kd i v) (by kernel_rfl) (by kernel_rfl) (by kernel_rfl) (by kernel_rfl) (by rfl) ?stepnf ?finalnf
   case stepnf =>
    intro i o hik ho' L aa V hLi hLk hcl J hnn hd' K hK
    obtain ⟨j1, j2, j3, j4, j5, j6, j7, j8, j9, j10, j11⟩ := id J
    match i, ho' with
    | 0, ho' =>
     obtain rfl := Q6p ho'
     exact qz1s 25 (.tmp 10) rfl bp 0 (hnn 10 rfl) Q0n _ j3 Tryz.underlying25 rfl qz1u (hK _ _ rfl (J.on 0 (by decide) (by decide)) (fun j v' _ _ q => q))
    | 1, ho' =>
     obtain rfl := Q6p ho'
     exact qz1s 30 (.tmp 11) rfl ba 0 (hnn 11 rfl) Q0j _ j4 Q7g rfl qz15 (hK _ _ rfl (J.on 1 (by decide) (by decide)) (fun j v' _ _ q => q))
    | 2, ho' =>
     obtain rfl := Q6p ho'
     have e12 : aa.eval (.tmp 12) = .int .i64 ni := hnn 12 rfl
     refine qz1 (v := .int .i64 ni) (w' := V) ?_ (hK _ _ rfl (J.on 2 (by decide) (by decide)) (fun j v' _ _ q => q))
     clear J j1 j2 j3 j4 j5 j6 j7 j8 j9 j10 j11
     generalize aa.eval = ev at *
     go_simp
    | 3, ho' =>
     obtain rfl := Q6p ho'
     have e13 : aa.eval (.tmp 13) = .int .i64 vv := hnn 13 rfl
     refine qz1 (v := .int .i64 vv) (w' := V) ?_ (hK _ _ rfl (J.on 3 (by decide) (by decide)) (fun j v' _ _ q => q))
     clear J j1 j2 j3 j4 j5 j6 j7 j8 j9 j10 j11
     generalize aa.eval = ev at *
     go_simp
    | 4, ho' =>
     obtain rfl := Q6p ho'
     have e14 : aa.eval (.tmp 14) = .int .i64 nx := hnn 14 rfl
     refine qz1 (v := .int .i64 nx) (w' := V) ?_ (hK _ _ rfl (J.on 4 (by decide) (by decide)) (fun j v' _ _ q => q))
     clear J j1 j2 j3 j4 j5 j6 j7 j8 j9 j10 j11
     generalize aa.eval = ev at *
     go_simp
    | 5, ho' =>
     obtain rfl := Q6p ho'
     have e9 : aa.eval (.tmp 9) = .pointer (some ⟨b, 0, none⟩) := hnn 9 rfl
     refine qz1 (v := .pointer (some ⟨b, 0, none⟩)) (w' := V) ?_ (hK _ _ rfl (J.on 5 (by decide) (by decide)) (fun j v' _ _ q => q))
     clear J j1 j2 j3 j4 j5 j6 j7 j8 j9 j10 j11
     generalize aa.eval = ev at *
     go_simp
    | 6, ho' =>
     obtain rfl := Q6p ho'
     obtain ⟨ii, hh, Dd⟩ := j1
     have e57 : aa.eval (.tmp 57) = .pointer (some ⟨b, 0, none⟩) := (hd' ⟨5, .data⟩ (by simp) rfl 57 rfl).2
     have ec0 : aa.eval (.const (.int .i64 (3))) = .int .i64 (3) := rfl
     have ef : aa.eval (.func 29) = .func (.func 29) #[] #[] := rfl
     refine qz19 (f := 29) (args := Q5x) (R := fun v w' => ∃ m i' h', v = .bool m /\ qz1f .i64 w' b a len cap i' h' /\ qz17 B w' a len /\ Only b V w') ?_ ((qz2g B b a len cap ii hh 3 V hB hlen Dd j2 (by omega) (by omega)).mono (fun e w' h => by obtain ⟨m, i', h', e1, q1, q2, q3⟩ := h; exact ⟨_, e1, m, i', h', rfl, q1, q2, q3⟩)) (fun v w' h => by obtain ⟨m, i', h', e1, q1, q2, q3⟩ := h; exact hK v w' ⟨m, e1⟩ (J.draw 6 (by decide) (by decide) q1 q2 q3) (fun j v' _ _ q => q))
     clear Dd
     clear J j2 j3 j4 j5 j6 j7 j8 j9 j10 j11
     generalize aa.eval = ev at *
     go_simp
    | 7, ho' =>
     obtain rfl := Q6p ho'
     have e15 : aa.eval (.tmp 15) = .int .i64 kd := hnn 15 rfl
     refine qz1 (v := .int .i64 kd) (w' := V) ?_ (hK _ _ rfl (J.on 7 (by decide) (by decide)) (fun j v' _ _ q => q))
     clear J j1 j2 j3 j4 j5 j6 j7 j8 j9 j10 j11
     generalize aa.eval = ev at *
     go_simp
    | 8, ho' =>
     obtain rfl := Q6p ho'
     refine wp_store_mid 25 (.tmp 2) (.tmp 52) rfl Q6o 0 Q06 (hnn 2 rfl) (hd' ⟨0, .data⟩ (by simp) rfl 52 rfl).2 j5 qz1u (by simp [Value.oneCell']) ?_
     exact hK _ _ trivial J.st0 (fun j v' _ _ q => q)
    | 9, ho' =>
     obtain rfl := Q6p ho'
     refine wp_store_mid 30 (.tmp 3) (.tmp 53) rfl (Q6o + 1) 0 Q02 (hnn 3 rfl) (hd' ⟨1, .data⟩ (by simp) rfl 53 rfl).2 j6 qz15 (by simp [Value.oneCell']) ?_
     exact hK _ _ trivial J.st1 (fun j v' _ _ q => q)
    | 10, ho' =>
     obtain rfl := Q6p ho'
     have e54 : aa.eval (.tmp 54) = .int .i64 ni := (hd' ⟨2, .data⟩ (by simp) rfl 54 rfl).2
     refine qz1 (v := .int .i64 ni) (w' := V) ?_ (hK _ _ rfl (J.on 10 (by decide) (by decide)) (fun j v' _ _ q => q))
     clear J j1 j2 j3 j4 j5 j6 j7 j8 j9 j10 j11
     generalize aa.eval = ev at *
     go_simp
    | 11, ho' =>
     obtain rfl := Q6p ho'
     have e55 : aa.eval (.tmp 55) = .int .i64 vv := (hd' ⟨3, .data⟩ (by simp) rfl 55 rfl).2
     refine qz1 (v := .int .i64 vv) (w' := V) ?_ (hK _ _ rfl (J.on 11 (by decide) (by decide)) (fun j v' _ _ q => q))
     clear J j1 j2 j3 j4 j5 j6 j7 j8 j9 j10 j11
     generalize aa.eval = ev at *
     go_simp
    | 12, ho' =>
     obtain rfl := Q6p ho'
     have e56 : aa.eval (.tmp 56) = .int .i64 nx := (hd' ⟨4, .data⟩ (by simp) rfl 56 rfl).2
     refine qz1 (v := .int .i64 nx) (w' := V) ?_ (hK _ _ rfl (J.on 12 (by decide) (by decide)) (fun j v' _ _ q => q))
     clear J j1 j2 j3 j4 j5 j6 j7 j8 j9 j10 j11
     generalize aa.eval = ev at *
     go_simp
    | 13, ho' =>
     obtain rfl := Q6p ho'
     obtain ⟨k, ek⟩ := (show ∃ k : Bool, aa.eval (.tmp 58) = .bool k from (hd' ⟨6, .data⟩ (by simp) rfl 58 rfl).2)
     refine qz1 (v := .bool k) (w' := V) ?_ (hK _ _ ⟨k, rfl⟩ (J.on 13 (by decide) (by decide)) (fun j v' _ _ q => q))
     clear J j1 j2 j3 j4 j5 j6 j7 j8 j9 j10 j11
     generalize aa.eval = ev at *
     go_simp
    | 14, ho' =>
     obtain rfl := Q6p ho'
     have e59 : aa.eval (.tmp 59) = .int .i64 kd := (hd' ⟨7, .data⟩ (by simp) rfl 59 rfl).2
     refine qz1 (v := .int .i64 kd) (w' := V) ?_ (hK _ _ rfl (J.on 14 (by decide) (by decide)) (fun j v' _ _ q => q))
     clear J j1 j2 j3 j4 j5 j6 j7 j8 j9 j10 j11
     generalize aa.eval = ev at *
     go_simp
    | n + 15, ho' => omega
   intro L vs V' hLall J hG
   have r1 := J.k9 (hLall 8 (by decide))
   have r2 := J.k10 (hLall 9 (by decide))
   have hBt := J.k12
   have dd := J.dice
   have cc := J.bytes
   generalize hl : laid _ vs _ _ _ = BB
   obtain ⟨go, gk⟩ := (show ∃ k : Bool, vs 13 = .bool k from hG 13 (by decide))
   have f2 : BB.tmps.getD 2 undef = .pointer (some ⟨Q6o, 0, none⟩) := by
    rw [<- hl]
    kernel_rfl
   have f3 : BB.tmps.getD 3 undef = .pointer (some ⟨(Q6o + 1), 0, none⟩) := by
    rw [<- hl]
    kernel_rfl
   have f4 : BB.tmps.getD 4 undef = .int .i64 ni := by
    rw [<- (show vs 10 = .int .i64 ni from hG 10 (by decide)), <- hl]
    kernel_rfl
   have f5 : BB.tmps.getD 5 undef = .int .i64 vv := by
    rw [<- (show vs 11 = .int .i64 vv from hG 11 (by decide)), <- hl]
    kernel_rfl
   have f6 : BB.tmps.getD 6 undef = .int .i64 nx := by
    rw [<- (show vs 12 = .int .i64 nx from hG 12 (by decide)), <- hl]
    kernel_rfl
   have f7 : BB.tmps.getD 7 undef = .bool go := by
    rw [<- gk, <- hl]
    kernel_rfl
   have f8 : BB.tmps.getD 8 undef = .int .i64 kd := by
    rw [<- (show vs 14 = .int .i64 kd from hG 14 (by decide)), <- hl]
    kernel_rfl
   have fd : BB.defers = [] := by
    rw [<- hl]
    kernel_rfl
   have OV : qz1t Q6o V' Q0x Q0w Q0t Q11 A := P_own.kept hBt (fun q hq h => by have := P_far q hq; omega)
   have OnV : Below Q6o w V' := P_bel.trans (hBt.below (by omega) (fun q hq => by omega))
   clear hl hG gk J hBt hLall
   simp only [List.drop_succ_cons, List.drop_zero]
   go_wp2_with fail
   refine bodyPost_ret (v := .tuple #[.agg (Q06 : Array Value), .agg Q02, .int .i64 ni, .int .i64 vv, .int .i64 nx, .bool go, .int .i64 kd]) ?_ fd ⟨x, y, z, u, A, _, _, _, _, _, _, _, _, ni, vv, nx, go, kd, rfl, hp, hsm, OV, OnV⟩
   exact qz4n Tryz.results6 _ V' (Q6o) (Q6o + 1) f2 f3 _ _ _ _ _ f4 f5 f6 f7 f8 Q0n Q0j _ _ r1 r2 Tryz.underlying25 rfl qz1u Q7g rfl qz15
  case true =>
   clear nx0 nx1 kd0 kd1
   have y3 : wd.cell? ⟨ba, 3, none⟩ = some Q0t := by simpa using P_ac 3 _ rfl
   go_wp2_with fail
   refine (qz2a B b a len cap _ _ (-2) (Q6q : Int) wd hB hlen Dd P_by (by omega) (by omega) (by omega)).mono ?_
   rintro e we ⟨nx, ie, he, rfl, nx0, nx1, De, Ce, Oe⟩
   clear y3
   have hze := Oe.size
   replace P_pl := qzh P_pl Oe (by omega) (by omega)
   replace P_ac := qzh P_ac Oe (by omega) (by omega)
   replace P_r2 := qzj P_r2 Oe (by omega) (by omega)
   replace P_r3 := qzj P_r3 Oe (by omega) (by omega)
   replace P_own := P_own.farB Oe (fun q e => by have := P_far q e; omega)
   replace P_bel := P_bel.trans (Oe.below (by omega) (by omega))
   replace P_by := Ce
   clear Dd Oe
   go_wp2_with fail
   refine (qz2a B b a len cap _ _ (-1) 3 we hB hlen De P_by (by omega) (by omega) (by omega)).mono ?_
   rintro e wf ⟨kd, jf, hf, rfl, kd0, kd1, Df, Cf, Of⟩
   have hzf := Of.size
   replace P_pl := qzh P_pl Of (by omega) (by omega)
   replace P_ac := qzh P_ac Of (by omega) (by omega)
   replace P_r2 := qzj P_r2 Of (by omega) (by omega)
   replace P_r3 := qzj P_r3 Of (by omega) (by omega)
   replace P_own := P_own.farB Of (fun q e => by have := P_far q e; omega)
   replace P_bel := P_bel.trans (Of.below (by omega) (by omega))
   replace P_by := Cf
   clear De Of
   have P_dice : ∃ i h, qz1f .i64 wf b a len cap i h := ⟨_, _, Df⟩
   go_wp2_with fail
   refine qz3q 15 (by kernel_rfl) (qz8d 8 9 B b wf a len cap Q6o (Q6o + 1) bp ba x y z u Q6w Q0x Q0w Q0t Q11) (by obtain ⟨i0, h0, Dd⟩ := P_dice; exact ⟨⟨i0, h0, Dd.below (Below.drawn1 _)⟩, P_by.below ((Below.drawn1 _).mono (by omega)), P_pl, P_ac, P_r2, P_r3, (fun h => by cases h), (fun h => by cases h), ⟨rfl, rfl, rfl, Q6v _, fun _ _ _ => rfl⟩, by omega, by decide⟩) (fun _ i v _ => qz6f b bp ba x y z u A a0 a1 a2 a3 c0 c1 c2 c3 ni vv nx kd i v) (by kernel_rfl) (by kernel_rfl) (by kernel_rfl) (by kernel_rfl) (by rfl) ?stepnt ?finalnt
   case stepnt =>
    intro i o hik ho' L aa V hLi hLk hcl J hnn hd' K hK
    obtain ⟨j1, j2, j3, j4, j5, j6, j7, j8, j9, j10, j11⟩ := id J
    match i, ho' with
    | 0, ho' =>
     obtain rfl := Q6p ho'
     exact qz1s 25 (.tmp 10) rfl bp 0 (hnn 10 rfl) Q0n _ j3 Tryz.underlying25 rfl qz1u (hK _ _ rfl (J.on 0 (by decide) (by decide)) (fun j v' _ _ q => q))
    | 1, ho' =>
     obtain rfl := Q6p ho'
     exact qz1s 30 (.tmp 11) rfl ba 0 (hnn 11 rfl) Q0j _ j4 Q7g rfl qz15 (hK _ _ rfl (J.on 1 (by decide) (by decide)) (fun j v' _ _ q => q))
    | 2, ho' =>
     obtain rfl := Q6p ho'
     have e12 : aa.eval (.tmp 12) = .int .i64 ni := hnn 12 rfl
     refine qz1 (v := .int .i64 ni) (w' := V) ?_ (hK _ _ rfl (J.on 2 (by decide) (by decide)) (fun j v' _ _ q => q))
     clear J j1 j2 j3 j4 j5 j6 j7 j8 j9 j10 j11
     generalize aa.eval = ev at *
     go_simp
    | 3, ho' =>
     obtain rfl := Q6p ho'
     have e13 : aa.eval (.tmp 13) = .int .i64 vv := hnn 13 rfl
     refine qz1 (v := .int .i64 vv) (w' := V) ?_ (hK _ _ rfl (J.on 3 (by decide) (by decide)) (fun j v' _ _ q => q))
     clear J j1 j2 j3 j4 j5 j6 j7 j8 j9 j10 j11
     generalize aa.eval = ev at *
     go_simp
    | 4, ho' =>
     obtain rfl := Q6p ho'
     have e14 : aa.eval (.tmp 14) = .int .i64 nx := hnn 14 rfl
     refine qz1 (v := .int .i64 nx) (w' := V) ?_ (hK _ _ rfl (J.on 4 (by decide) (by decide)) (fun j v' _ _ q => q))
     clear J j1 j2 j3 j4 j5 j6 j7 j8 j9 j10 j11
     generalize aa.eval = ev at *
     go_simp
    | 5, ho' =>
     obtain rfl := Q6p ho'
     have e9 : aa.eval (.tmp 9) = .pointer (some ⟨b, 0, none⟩) := hnn 9 rfl
     refine qz1 (v := .pointer (some ⟨b, 0, none⟩)) (w' := V) ?_ (hK _ _ rfl (J.on 5 (by decide) (by decide)) (fun j v' _ _ q => q))
     clear J j1 j2 j3 j4 j5 j6 j7 j8 j9 j10 j11
     generalize aa.eval = ev at *
     go_simp
    | 6, ho' =>
     obtain rfl := Q6p ho'
     obtain ⟨ii, hh, Dd⟩ := j1
     have e57 : aa.eval (.tmp 57) = .pointer (some ⟨b, 0, none⟩) := (hd' ⟨5, .data⟩ (by simp) rfl 57 rfl).2
     have ec0 : aa.eval (.const (.int .i64 (3))) = .int .i64 (3) := rfl
     have ef : aa.eval (.func 29) = .func (.func 29) #[] #[] := rfl
     refine qz19 (f := 29) (args := Q5x) (R := fun v w' => ∃ m i' h', v = .bool m /\ qz1f .i64 w' b a len cap i' h' /\ qz17 B w' a len /\ Only b V w') ?_ ((qz2g B b a len cap ii hh 3 V hB hlen Dd j2 (by omega) (by omega)).mono (fun e w' h => by obtain ⟨m, i', h', e1, q1, q2, q3⟩ := h; exact ⟨_, e1, m, i', h', rfl, q1, q2, q3⟩)) (fun v w' h => by obtain ⟨m, i', h', e1, q1, q2, q3⟩ := h; exact hK v w' ⟨m, e1⟩ (J.draw 6 (by decide) (by decide) q1 q2 q3) (fun j v' _ _ q => q))
     clear Dd
     clear J j2 j3 j4 j5 j6 j7 j8 j9 j10 j11
     generalize aa.eval = ev at *
     go_simp
    | 7, ho' =>
     obtain rfl := Q6p ho'
     have e15 : aa.eval (.tmp 15) = .int .i64 kd := hnn 15 rfl
     refine qz1 (v := .int .i64 kd) (w' := V) ?_ (hK _ _ rfl (J.on 7 (by decide) (by decide)) (fun j v' _ _ q => q))
     clear J j1 j2 j3 j4 j5 j6 j7 j8 j9 j10 j11
     generalize aa.eval = ev at *
     go_simp
    | 8, ho' =>
     obtain rfl := Q6p ho'
     refine wp_store_mid 25 (.tmp 2) (.tmp 52) rfl Q6o 0 Q06 (hnn 2 rfl) (hd' ⟨0, .data⟩ (by simp) rfl 52 rfl).2 j5 qz1u (by simp [Value.oneCell']) ?_
     exact hK _ _ trivial J.st0 (fun j v' _ _ q => q)
    | 9, ho' =>
     obtain rfl := Q6p ho'
     refine wp_store_mid 30 (.tmp 3) (.tmp 53) rfl (Q6o + 1) 0 Q02 (hnn 3 rfl) (hd' ⟨1, .data⟩ (by simp) rfl 53 rfl).2 j6 qz15 (by simp [Value.oneCell']) ?_
     exact hK _ _ trivial J.st1 (fun j v' _ _ q => q)
    | 10, ho' =>
     obtain rfl := Q6p ho'
     have e54 : aa.eval (.tmp 54) = .int .i64 ni := (hd' ⟨2, .data⟩ (by simp) rfl 54 rfl).2
     refine qz1 (v := .int .i64 ni) (w' := V) ?_ (hK _ _ rfl (J.on 10 (by decide) (by decide)) (fun j v' _ _ q => q))
     clear J j1 j2 j3 j4 j5 j6 j7 j8 j9 j10 j11
     generalize aa.eval = ev at *
     go_simp
    | 11, ho' =>
     obtain rfl := Q6p ho'
     have e55 : aa.eval (.tmp 55) = .int .i64 vv := (hd' ⟨3, .data⟩ (by simp) rfl 55 rfl).2
     refine qz1 (v := .int .i64 vv) (w' := V) ?_ (hK _ _ rfl (J.on 11 (by decide) (by decide)) (fun j v' _ _ q => q))
     clear J j1 j2 j3 j4 j5 j6 j7 j8 j9 j10 j11
     generalize aa.eval = ev at *
     go_simp
    | 12, ho' =>
     obtain rfl := Q6p ho'
     have e56 : aa.eval (.tmp 56) = .int .i64 nx := (hd' ⟨4, .data⟩ (by simp) rfl 56 rfl).2
     refine qz1 (v := .int .i64 nx) (w' := V) ?_ (hK _ _ rfl (J.on 12 (by decide) (by decide)) (fun j v' _ _ q => q))
     clear J j1 j2 j3 j4 j5 j6 j7 j8 j9 j10 j11
     generalize aa.eval = ev at *
     go_simp
    | 13, ho' =>
     obtain rfl := Q6p ho'
     obtain ⟨k, ek⟩ := (show ∃ k : Bool, aa.eval (.tmp 58) = .bool k from (hd' ⟨6, .data⟩ (by simp) rfl 58 rfl).2)
     refine qz1 (v := .bool k) (w' := V) ?_ (hK _ _ ⟨k, rfl⟩ (J.on 13 (by decide) (by decide)) (fun j v' _ _ q => q))
     clear J j1 j2 j3 j4 j5 j6 j7 j8 j9 j10 j11
     generalize aa.eval = ev at *
     go_simp
    | 14, ho' =>
     obtain rfl := Q6p ho'
     have e59 : aa.eval (.tmp 59) = .int .i64 kd := (hd' ⟨7, .data⟩ (by simp) rfl 59 rfl).2
     refine qz1 (v := .int .i64 kd) (w' := V) ?_ (hK _ _ rfl (J.on 14 (by decide) (by decide)) (fun j v' _ _ q => q))
     clear J j1 j2 j3 j4 j5 j6 j7 j8 j9 j10 j11
     generalize aa.eval = ev at *
     go_simp
    | n + 15, ho' => omega
   intro L vs V' hLall J hG
   have r1 := J.k9 (hLall 8 (by decide))
   have r2 := J.k10 (hLall 9 (by decide))
   have hBt := J.k12
   have dd := J.dice
   have cc := J.bytes
   generalize hl : laid _ vs _ _ _ = BB
   obtain ⟨go, gk⟩ := (show ∃ k : Bool, vs 13 = .bool k from hG 13 (by decide))
   have f2 : BB.tmps.getD 2 undef = .pointer (some ⟨Q6o, 0, none⟩) := by
    rw [<- hl]
    kernel_rfl
   have f3 : BB.tmps.getD 3 undef = .pointer (some ⟨(Q6o + 1), 0, none⟩) := by
    rw [<- hl]
    kernel_rfl
   have f4 : BB.tmps.getD 4 undef = .int .i64 ni := by
    rw [<- (show vs 10 = .int .i64 ni from hG 10 (by decide)), <- hl]
    kernel_rfl
   have f5 : BB.tmps.getD 5 undef = .int .i64 vv := by
    rw [<- (show vs 11 = .int .i64 vv from hG 11 (by decide)), <- hl]
    kernel_rfl
   have f6 : BB.tmps.getD 6 undef = .int .i64 nx := by
    rw [<- (show vs 12 = .int .i64 nx from hG 12 (by decide)), <- hl]
    kernel_rfl
   have f7 : BB.tmps.getD 7 undef = .bool go := by
    rw [<- gk, <- hl]
    kernel_rfl
   have f8 : BB.tmps.getD 8 undef = .int .i64 kd := by
    rw [<- (show vs 14 = .int .i64 kd from hG 14 (by decide)), <- hl]
    kernel_rfl
   have fd : BB.defers = [] := by
    rw [<- hl]
    kernel_rfl
   have OV : qz1t Q6o V' Q0x Q0w Q0t Q11 A := P_own.kept hBt (fun q hq h => by have := P_far q hq; omega)
   have OnV : Below Q6o w V' := P_bel.trans (hBt.below (by omega) (fun q hq => by omega))
   clear hl hG gk J hBt hLall
   simp only [List.drop_succ_cons, List.drop_zero]
   go_wp2_with fail
   refine bodyPost_ret (v := .tuple #[.agg (Q06 : Array Value), .agg Q02, .int .i64 ni, .int .i64 vv, .int .i64 nx, .bool go, .int .i64 kd]) ?_ fd ⟨x, y, z, u, A, _, _, _, _, _, _, _, _, ni, vv, nx, go, kd, rfl, hp, hsm, OV, OnV⟩
   exact qz4n Tryz.results6 _ V' (Q6o) (Q6o + 1) f2 f3 _ _ _ _ _ f4 f5 f6 f7 f8 Q0n Q0j _ _ r1 r2 Tryz.underlying25 rfl qz1u Q7g rfl qz15
 case true =>
  have y4 : w7.cell? ⟨ba, 4, none⟩ = some Q11 := by simpa using P_ac 4 _ rfl
  go_wp2_with fail
  refine (qz2a B b a len cap _ _ (-1) (Q6r : Int) w7 hB hlen D7 P_by (by omega) (by omega) (by omega)).mono ?_
  rintro e w8 ⟨vv, i8, h8, rfl, vv0, vv1, D8, C8, O8⟩
  clear y4
  have hz8 := O8.size
  replace P_pl := qzh P_pl O8 (by omega) (by omega)
  replace P_ac := qzh P_ac O8 (by omega) (by omega)
  replace P_r2 := qzj P_r2 O8 (by omega) (by omega)
  replace P_r3 := qzj P_r3 O8 (by omega) (by omega)
  replace P_own := P_own.farB O8 (fun q e => by have := P_far q e; omega)
  replace P_bel := P_bel.trans (O8.below (by omega) (by omega))
  replace P_by := C8
  clear D7 O8
  have y3 : w8.cell? ⟨ba, 3, none⟩ = some Q0t := by simpa using P_ac 3 _ rfl
  go_wp2_with fail
  refine (qz2a B b a len cap _ _ (-1) ((Q6q : Int) - 1) w8 hB hlen D8 P_by (by omega) (by omega) (by omega)).mono ?_
  rintro e wb ⟨nx, ib, hb, rfl, nx0, nx1, Db, Cb, Ob⟩
  clear y3
  have hzb := Ob.size
  replace P_pl := qzh P_pl Ob (by omega) (by omega)
  replace P_ac := qzh P_ac Ob (by omega) (by omega)
  replace P_r2 := qzj P_r2 Ob (by omega) (by omega)
  replace P_r3 := qzj P_r3 Ob (by omega) (by omega)
  replace P_own := P_own.farB Ob (fun q e => by have := P_far q e; omega)
  replace P_bel := P_bel.trans (Ob.below (by omega) (by omega))
  replace P_by := Cb
  clear D8 Ob
  go_wp2_with fail
  refine (qzx B b a len cap ib hb 3 wb hB hlen Db P_by (by omega) (by omega)).mono ?_
  rintro e wc ⟨kd, ic, hc, rfl, kd0, kd1, Dc, Cc, Oc⟩
  have hzc := Oc.size
  replace P_pl := qzh P_pl Oc (by omega) (by omega)
  replace P_ac := qzh P_ac Oc (by omega) (by omega)
  replace P_r2 := qzj P_r2 Oc (by omega) (by omega)
  replace P_r3 := qzj P_r3 Oc (by omega) (by omega)
  replace P_own := P_own.farB Oc (fun q e => by have := P_far q e; omega)
  replace P_bel := P_bel.trans (Oc.below (by omega) (by omega))
  replace P_by := Cc
  clear Db Oc
  go_wp2_with fail
  refine (qz2g B b a len cap ic hc 12 wc hB hlen Dc P_by (by omega) (by omega)).mono ?_
  rintro e wd ⟨twelve, id', hd', rfl, Dd, Cd, Od⟩
  have hzd := Od.size
  replace P_pl := qzh P_pl Od (by omega) (by omega)
  replace P_ac := qzh P_ac Od (by omega) (by omega)
  replace P_r2 := qzj P_r2 Od (by omega) (by omega)
  replace P_r3 := qzj P_r3 Od (by omega) (by omega)
  replace P_own := P_own.farB Od (fun q e => by have := P_far q e; omega)
  replace P_bel := P_bel.trans (Od.below (by omega) (by omega))
  replace P_by := Cd
  clear Dc Od
  cases twelve
  case false =>
   have P_dice : ∃ i h, qz1f .i64 wd b a len cap i h := ⟨_, _, Dd⟩
   go_wp2_with fail
   refine qz3q 15 (by kernel_rfl) (qz8d 8 9 B b wd a len cap Q6o (Q6o + 1) bp ba x y z u Q6w Q0x Q0w Q0t Q11) (by obtain ⟨i0, h0, Dd⟩ := P_dice; exact ⟨⟨i0, h0, Dd.below (Below.drawn1 _)⟩, P_by.below ((Below.drawn1 _).mono (by omega)), P_pl, P_ac, P_r2, P_r3, (fun h => by cases h), (fun h => by cases h), ⟨rfl, rfl, rfl, Q6v _, fun _ _ _ => rfl⟩, by omega, by decide⟩) (fun _ i v _ => qz6f b bp ba x y z u A a0 a1 a2 a3 c0 c1 c2 c3 ni vv nx kd i v) (by kernel_rfl) (by kernel_rfl) (by kernel_rfl) (by kernel_rfl) (by rfl) ?stepyf ?finalyf
   case stepyf =>
    intro i o hik ho' L aa V hLi hLk hcl J hnn hd' K hK
    obtain ⟨j1, j2, j3, j4, j5, j6, j7, j8, j9, j10, j11⟩ := id J
    match i, ho' with
    | 0, ho' =>
     obtain rfl := Q6p ho'
     exact qz1s 25 (.tmp 10) rfl bp 0 (hnn 10 rfl) Q0n _ j3 Tryz.underlying25 rfl qz1u (hK _ _ rfl (J.on 0 (by decide) (by decide)) (fun j v' _ _ q => q))
    | 1, ho' =>
     obtain rfl := Q6p ho'
     exact qz1s 30 (.tmp 11) rfl ba 0 (hnn 11 rfl) Q0j _ j4 Q7g rfl qz15 (hK _ _ rfl (J.on 1 (by decide) (by decide)) (fun j v' _ _ q => q))
    | 2, ho' =>
     obtain rfl := Q6p ho'
     have e12 : aa.eval (.tmp 12) = .int .i64 ni := hnn 12 rfl
     refine qz1 (v := .int .i64 ni) (w' := V) ?_ (hK _ _ rfl (J.on 2 (by decide) (by decide)) (fun j v' _ _ q => q))
     clear J j1 j2 j3 j4 j5 j6 j7 j8 j9 j10 j11
     generalize aa.eval = ev at *
     go_simp
    | 3, ho' =>
     obtain rfl := Q6p ho'
     have e13 : aa.eval (.tmp 13) = .int .i64 vv := hnn 13 rfl
     refine qz1 (v := .int .i64 vv) (w' := V) ?_ (hK _ _ rfl (J.on 3 (by decide) (by decide)) (fun j v' _ _ q => q))
     clear J j1 j2 j3 j4 j5 j6 j7 j8 j9 j10 j11
     generalize aa.eval = ev at *
     go_simp
    | 4, ho' =>
     obtain rfl := Q6p ho'
     have e14 : aa.eval (.tmp 14) = .int .i64 nx := hnn 14 rfl
     refine qz1 (v := .int .i64 nx) (w' := V) ?_ (hK _ _ rfl (J.on 4 (by decide) (by decide)) (fun j v' _ _ q => q))
     clear J j1 j2 j3 j4 j5 j6 j7 j8 j9 j10 j11
     generalize aa.eval = ev at *
     go_simp
    | 5, ho' =>
     obtain rfl := Q6p ho'
     have e9 : aa.eval (.tmp 9) = .pointer (some ⟨b, 0, none⟩) := hnn 9 rfl
     refine qz1 (v := .pointer (some ⟨b, 0, none⟩)) (w' := V) ?_ (hK _ _ rfl (J.on 5 (by decide) (by decide)) (fun j v' _ _ q => q))
     clear J j1 j2 j3 j4 j5 j6 j7 j8 j9 j10 j11
     generalize aa.eval = ev at *
     go_simp
    | 6, ho' =>
     obtain rfl := Q6p ho'
     obtain ⟨ii, hh, Dd⟩ := j1
     have e57 : aa.eval (.tmp 57) = .pointer (some ⟨b, 0, none⟩) := (hd' ⟨5, .data⟩ (by simp) rfl 57 rfl).2
     have ec0 : aa.eval (.const (.int .i64 (3))) = .int .i64 (3) := rfl
     have ef : aa.eval (.func 29) = .func (.func 29) #[] #[] := rfl
     refine qz19 (f := 29) (args := Q5x) (R := fun v w' => ∃ m i' h', v = .bool m /\ qz1f .i64 w' b a len cap i' h' /\ qz17 B w' a len /\ Only b V w') ?_ ((qz2g B b a len cap ii hh 3 V hB hlen Dd j2 (by omega) (by omega)).mono (fun e w' h => by obtain ⟨m, i', h', e1, q1, q2, q3⟩ := h; exact ⟨_, e1, m, i', h', rfl, q1, q2, q3⟩)) (fun v w' h => by obtain ⟨m, i', h', e1, q1, q2, q3⟩ := h; exact hK v w' ⟨m, e1⟩ (J.draw 6 (by decide) (by decide) q1 q2 q3) (fun j v' _ _ q => q))
     clear Dd
     clear J j2 j3 j4 j5 j6 j7 j8 j9 j10 j11
     generalize aa.eval = ev at *
     go_simp
    | 7, ho' =>
     obtain rfl := Q6p ho'
     have e15 : aa.eval (.tmp 15) = .int .i64 kd := hnn 15 rfl
     refine qz1 (v := .int .i64 kd) (w' := V) ?_ (hK _ _ rfl (J.on 7 (by decide) (by decide)) (fun j v' _ _ q => q))
     clear J j1 j2 j3 j4 j5 j6 j7 j8 j9 j10 j11
     generalize aa.eval = ev at *
     go_simp
    | 8, ho' =>
     obtain rfl := Q6p ho'
     refine wp_store_mid 25 (.tmp 2) (.tmp 52) rfl Q6o 0 Q06 (hnn 2 rfl) (hd' ⟨0, .data⟩ (by simp) rfl 52 rfl).2 j5 qz1u (by simp [Value.oneCell']) ?_
     exact hK _ _ trivial J.st0 (fun j v' _ _ q => q)
    | 9, ho' =>
     obtain rfl := Q6p ho'
     refine wp_store_mid 30 (.tmp 3) (.tmp 53) rfl (Q6o + 1) 0 Q02 (hnn 3 rfl) (hd' ⟨1, .data⟩ (by simp) rfl 53 rfl).2 j6 qz15 (by simp [Value.oneCell']) ?_
     exact hK _ _ trivial J.st1 (fun j v' _ _ q => q)
    | 10, ho' =>
     obtain rfl := Q6p ho'
     have e54 : aa.eval (.tmp 54) = .int .i64 ni := (hd' ⟨2, .data⟩ (by simp) rfl 54 rfl).2
     refine qz1 (v := .int .i64 ni) (w' := V) ?_ (hK _ _ rfl (J.on 10 (by decide) (by decide)) (fun j v' _ _ q => q))
     clear J j1 j2 j3 j4 j5 j6 j7 j8 j9 j10 j11
     generalize aa.eval = ev at *
     go_simp
    | 11, ho' =>
     obtain rfl := Q6p ho'
     have e55 : aa.eval (.tmp 55) = .int .i64 vv := (hd' ⟨3, .data⟩ (by simp) rfl 55 rfl).2
     refine qz1 (v := .int .i64 vv) (w' := V) ?_ (hK _ _ rfl (J.on 11 (by decide) (by decide)) (fun j v' _ _ q => q))
     clear J j1 j2 j3 j4 j5 j6 j7 j8 j9 j10 j11
     generalize aa.eval = ev at *
     go_simp
    | 12, ho' =>
     obtain rfl := Q6p ho'
     have e56 : aa.eval (.tmp 56) = .int .i64 nx := (hd' ⟨4, .data⟩ (by simp) rfl 56 rfl).2
     refine qz1 (v := .int .i64 nx) (w' := V) ?_ (hK _ _ rfl (J.on 12 (by decide) (by decide)) (fun j v' _ _ q => q))
     clear J j1 j2 j3 j4 j5 j6 j7 j8 j9 j10 j11
     generalize aa.eval = ev at *
     go_simp
    | 13, ho' =>
     obtain rfl := Q6p ho'
     obtain ⟨k, ek⟩ := (show ∃ k : Bool, aa.eval (.tmp 58) = .bool k from (hd' ⟨6, .data⟩ (by simp) rfl 58 rfl).2)
     refine qz1 (v := .bool k) (w' := V) ?_ (hK _ _ ⟨k, rfl⟩ (J.on 13 (by decide) (by decide)) (fun j v' _ _ q => q))
     clear J j1 j2 j3 j4 j5 j6 j7 j8 j9 j10 j11
     generalize aa.eval = ev at *
     go_simp
    | 14, ho' =>
     obtain rfl := Q6p ho'
     have e59 : aa.eval (.tmp 59) = .int .i64 kd := (hd' ⟨7, .data⟩ (by simp) rfl 59 rfl).2
     refine qz1 (v := .int .i64 kd) (w' := V) ?_ (hK _ _ rfl (J.on 14 (by decide) (by decide)) (fun j v' _ _ q => q))
     clear J j1 j2 j3 j4 j5 j6 j7 j8 j9 j10 j11
     generalize aa.eval = ev at *
     go_simp
    | n + 15, ho' => omega
   intro L vs V' hLall J hG
   have r1 := J.k9 (hLall 8 (by decide))
   have r2 := J.k10 (hLall 9 (by decide))
   have hBt := J.k12
   have dd := J.dice
   have cc := J.bytes
   generalize hl : laid _ vs _ _ _ = BB
   obtain ⟨go, gk⟩ := (show ∃ k : Bool, vs 13 = .bool k from hG 13 (by decide))
   have f2 : BB.tmps.getD 2 undef = .pointer (some ⟨Q6o, 0, none⟩) := by
    rw [<- hl]
    kernel_rfl
   have f3 : BB.tmps.getD 3 undef = .pointer (some ⟨(Q6o + 1), 0, none⟩) := by
    rw [<- hl]
    kernel_rfl
   have f4 : BB.tmps.getD 4 undef = .int .i64 ni := by
    rw [<- (show vs 10 = .int .i64 ni from hG 10 (by decide)), <- hl]
    kernel_rfl
   have f5 : BB.tmps.getD 5 undef = .int .i64 vv := by
    rw [<- (show vs 11 = .int .i64 vv from hG 11 (by decide)), <- hl]
    kernel_rfl
   have f6 : BB.tmps.getD 6 undef = .int .i64 nx := by
    rw [<- (show vs 12 = .int .i64 nx from hG 12 (by decide)), <- hl]
    kernel_rfl
   have f7 : BB.tmps.getD 7 undef = .bool go := by
    rw [<- gk, <- hl]
    kernel_rfl
   have f8 : BB.tmps.getD 8 undef = .int .i64 kd := by
    rw [<- (show vs 14 = .int .i64 kd from hG 14 (by decide)), <- hl]
    kernel_rfl
   have fd : BB.defers = [] := by
    rw [<- hl]
    kernel_rfl
   have OV : qz1t Q6o V' Q0x Q0w Q0t Q11 A := P_own.kept hBt (fun q hq h => by have := P_far q hq; omega)
   have OnV : Below Q6o w V' := P_bel.trans (hBt.below (by omega) (fun q hq => by omega))
   clear hl hG gk J hBt hLall
   simp only [List.drop_succ_cons, List.drop_zero]
   go_wp2_with fail
   refine bodyPost_ret (v := .tuple #[.agg (Q06 : Array Value), .agg Q02, .int .i64 ni, .int .i64 vv, .int .i64 nx, .bool go, .int .i64 kd]) ?_ fd ⟨x, y, z, u, A, _, _, _, _, _, _, _, _, ni, vv, nx, go, kd, rfl, hp, hsm, OV, OnV⟩
   exact qz4n Tryz.results6 _ V' (Q6o) (Q6o + 1) f2 f3 _ _ _ _ _ f4 f5 f6 f7 f8 Q0n Q0j _ _ r1 r2 Tryz.underlying25 rfl qz1u Q7g rfl qz15
  case true =>
   clear nx0 nx1 kd0 kd1
   have y3 : wd.cell? ⟨ba, 3, none⟩ = some Q0t := by simpa using P_ac 3 _ rfl
   go_wp2_with fail
   refine (qz2a B b a len cap _ _ (-2) (Q6q : Int) wd hB hlen Dd P_by (by omega) (by omega) (by omega)).mono ?_
   rintro e we ⟨nx, ie, he, rfl, nx0, nx1, De, Ce, Oe⟩
   clear y3
   have hze := Oe.size
   replace P_pl := qzh P_pl Oe (by omega) (by omega)
   replace P_ac := qzh P_ac Oe (by omega) (by omega)
   replace P_r2 := qzj P_r2 Oe (by omega) (by omega)
   replace P_r3 := qzj P_r3 Oe (by omega) (by omega)
   replace P_own := P_own.farB Oe (fun q e => by have := P_far q e; omega)
   replace P_bel := P_bel.trans (Oe.below (by omega) (by omega))
   replace P_by := Ce
   clear Dd Oe
   go_wp2_with fail
   refine (qz2a B b a len cap _ _ (-1) 3 we hB hlen De P_by (by omega) (by omega) (by omega)).mono ?_
   rintro e wf ⟨kd, jf, hf, rfl, kd0, kd1, Df, Cf, Of⟩
   have hzf := Of.size
   replace P_pl := qzh P_pl Of (by omega) (by omega)
   replace P_ac := qzh P_ac Of (by omega) (by omega)
   replace P_r2 := qzj P_r2 Of (by omega) (by omega)
   replace P_r3 := qzj P_r3 Of (by omega) (by omega)
   replace P_own := P_own.farB Of (fun q e => by have := P_far q e; omega)
   replace P_bel := P_bel.trans (Of.below (by omega) (by omega))
   replace P_by := Cf
   clear De Of
   have P_dice : ∃ i h, qz1f .i64 wf b a len cap i h := ⟨_, _, Df⟩
   go_wp2_with fail
   refine qz3q 15 (by kernel_rfl) (qz8d 8 9 B b wf a len cap Q6o (Q6o + 1) bp ba x y z u Q6w Q0x Q0w Q0t Q11) (by obtain ⟨i0, h0, Dd⟩ := P_dice; exact ⟨⟨i0, h0, Dd.below (Below.drawn1 _)⟩, P_by.below ((Below.drawn1 _).mono (by omega)), P_pl, P_ac, P_r2, P_r3, (fun h => by cases h), (fun h => by cases h), ⟨rfl, rfl, rfl, Q6v _, fun _ _ _ => rfl⟩, by omega, by decide⟩) (fun _ i v _ => qz6f b bp ba x y z u A a0 a1 a2 a3 c0 c1 c2 c3 ni vv nx kd i v) (by kernel_rfl) (by kernel_rfl) (by kernel_rfl) (by kernel_rfl) (by rfl) ?stepyt ?finalyt
   case stepyt =>
    intro i o hik ho' L aa V hLi hLk hcl J hnn hd' K hK
    obtain ⟨j1, j2, j3, j4, j5, j6, j7, j8, j9, j10, j11⟩ := id J
    match i, ho' with
    | 0, ho' =>
     obtain rfl := Q6p ho'
     exact qz1s 25 (.tmp 10) rfl bp 0 (hnn 10 rfl) Q0n _ j3 Tryz.underlying25 rfl qz1u (hK _ _ rfl (J.on 0 (by decide) (by decide)) (fun j v' _ _ q => q))
    | 1, ho' =>
     obtain rfl := Q6p ho'
     exact qz1s 30 (.tmp 11) rfl ba 0 (hnn 11 rfl) Q0j _ j4 Q7g rfl qz15 (hK _ _ rfl (J.on 1 (by decide) (by decide)) (fun j v' _ _ q => q))
    | 2, ho' =>
     obtain rfl := Q6p ho'
     have e12 : aa.eval (.tmp 12) = .int .i64 ni := hnn 12 rfl
     refine qz1 (v := .int .i64 ni) (w' := V) ?_ (hK _ _ rfl (J.on 2 (by decide) (by decide)) (fun j v' _ _ q => q))
     clear J j1 j2 j3 j4 j5 j6 j7 j8 j9 j10 j11
     generalize aa.eval = ev at *
     go_simp
    | 3, ho' =>
     obtain rfl := Q6p ho'
     have e13 : aa.eval (.tmp 13) = .int .i64 vv := hnn 13 rfl
     refine qz1 (v := .int .i64 vv) (w' := V) ?_ (hK _ _ rfl (J.on 3 (by decide) (by decide)) (fun j v' _ _ q => q))
     clear J j1 j2 j3 j4 j5 j6 j7 j8 j9 j10 j11
     generalize aa.eval = ev at *
     go_simp
    | 4, ho' =>
     obtain rfl := Q6p ho'
     have e14 : aa.eval (.tmp 14) = .int .i64 nx := hnn 14 rfl
     refine qz1 (v := .int .i64 nx) (w' := V) ?_ (hK _ _ rfl (J.on 4 (by decide) (by decide)) (fun j v' _ _ q => q))
     clear J j1 j2 j3 j4 j5 j6 j7 j8 j9 j10 j11
     generalize aa.eval = ev at *
     go_simp
    | 5, ho' =>
     obtain rfl := Q6p ho'
     have e9 : aa.eval (.tmp 9) = .pointer (some ⟨b, 0, none⟩) := hnn 9 rfl
     refine qz1 (v := .pointer (some ⟨b, 0, none⟩)) (w' := V) ?_ (hK _ _ rfl (J.on 5 (by decide) (by decide)) (fun j v' _ _ q => q))
     clear J j1 j2 j3 j4 j5 j6 j7 j8 j9 j10 j11
     generalize aa.eval = ev at *
     go_simp
    | 6, ho' =>
     obtain rfl := Q6p ho'
     obtain ⟨ii, hh, Dd⟩ := j1
     have e57 : aa.eval (.tmp 57) = .pointer (some ⟨b, 0, none⟩) := (hd' ⟨5, .data⟩ (by simp) rfl 57 rfl).2
     have ec0 : aa.eval (.const (.int .i64 (3))) = .int .i64 (3) := rfl
     have ef : aa.eval (.func 29) = .func (.func 29) #[] #[] := rfl
     refine qz19 (f := 29) (args := Q5x) (R := fun v w' => ∃ m i' h', v = .bool m /\ qz1f .i64 w' b a len cap i' h' /\ qz17 B w' a len /\ Only b V w') ?_ ((qz2g B b a len cap ii hh 3 V hB hlen Dd j2 (by omega) (by omega)).mono (fun e w' h => by obtain ⟨m, i', h', e1, q1, q2, q3⟩ := h; exact ⟨_, e1, m, i', h', rfl, q1, q2, q3⟩)) (fun v w' h => by obtain ⟨m, i', h', e1, q1, q2, q3⟩ := h; exact hK v w' ⟨m, e1⟩ (J.draw 6 (by decide) (by decide) q1 q2 q3) (fun j v' _ _ q => q))
     clear Dd
     clear J j2 j3 j4 j5 j6 j7 j8 j9 j10 j11
     generalize aa.eval = ev at *
     go_simp
    | 7, ho' =>
     obtain rfl := Q6p ho'
     have e15 : aa.eval (.tmp 15) = .int .i64 kd := hnn 15 rfl
     refine qz1 (v := .int .i64 kd) (w' := V) ?_ (hK _ _ rfl (J.on 7 (by decide) (by decide)) (fun j v' _ _ q => q))
     clear J j1 j2 j3 j4 j5 j6 j7 j8 j9 j10 j11
     generalize aa.eval = ev at *
     go_simp
    | 8, ho' =>
     obtain rfl := Q6p ho'
     refine wp_store_mid 25 (.tmp 2) (.tmp 52) rfl Q6o 0 Q06 (hnn 2 rfl) (hd' ⟨0, .data⟩ (by simp) rfl 52 rfl).2 j5 qz1u (by simp [Value.oneCell']) ?_
     exact hK _ _ trivial J.st0 (fun j v' _ _ q => q)
    | 9, ho' =>
     obtain rfl := Q6p ho'
     refine wp_store_mid 30 (.tmp 3) (.tmp 53) rfl (Q6o + 1) 0 Q02 (hnn 3 rfl) (hd' ⟨1, .data⟩ (by simp) rfl 53 rfl).2 j6 qz15 (by simp [Value.oneCell']) ?_
     exact hK _ _ trivial J.st1 (fun j v' _ _ q => q)
    | 10, ho' =>
     obtain rfl := Q6p ho'
     have e54 : aa.eval (.tmp 54) = .int .i64 ni := (hd' ⟨2, .data⟩ (by simp) rfl 54 rfl).2
     refine qz1 (v := .int .i64 ni) (w' := V) ?_ (hK _ _ rfl (J.on 10 (by decide) (by decide)) (fun j v' _ _ q => q))
     clear J j1 j2 j3 j4 j5 j6 j7 j8 j9 j10 j11
     generalize aa.eval = ev at *
     go_simp
    | 11, ho' =>
     obtain rfl := Q6p ho'
     have e55 : aa.eval (.tmp 55) = .int .i64 vv := (hd' ⟨3, .data⟩ (by simp) rfl 55 rfl).2
     refine qz1 (v := .int .i64 vv) (w' := V) ?_ (hK _ _ rfl (J.on 11 (by decide) (by decide)) (fun j v' _ _ q => q))
     clear J j1 j2 j3 j4 j5 j6 j7 j8 j9 j10 j11
     generalize aa.eval = ev at *
     go_simp
    | 12, ho' =>
     obtain rfl := Q6p ho'
     have e56 : aa.eval (.tmp 56) = .int .i64 nx := (hd' ⟨4, .data⟩ (by simp) rfl 56 rfl).2
     refine qz1 (v := .int .i64 nx) (w' := V) ?_ (hK _ _ rfl (J.on 12 (by decide) (by decide)) (fun j v' _ _ q => q))
     clear J j1 j2 j3 j4 j5 j6 j7 j8 j9 j10 j11
     generalize aa.eval = ev at *
     go_simp
    | 13, ho' =>
     obtain rfl := Q6p ho'
     obtain ⟨k, ek⟩ := (show ∃ k : Bool, aa.eval (.tmp 58) = .bool k from (hd' ⟨6, .data⟩ (by simp) rfl 58 rfl).2)
     refine qz1 (v := .bool k) (w' := V) ?_ (hK _ _ ⟨k, rfl⟩ (J.on 13 (by decide) (by decide)) (fun j v' _ _ q => q))
     clear J j1 j2 j3 j4 j5 j6 j7 j8 j9 j10 j11
     generalize aa.eval = ev at *
     go_simp
    | 14, ho' =>
     obtain rfl := Q6p ho'
     have e59 : aa.eval (.tmp 59) = .int .i64 kd := (hd' ⟨7, .data⟩ (by simp) rfl 59 rfl).2
     refine qz1 (v := .int .i64 kd) (w' := V) ?_ (hK _ _ rfl (J.on 14 (by decide) (by decide)) (fun j v' _ _ q => q))
     clear J j1 j2 j3 j4 j5 j6 j7 j8 j9 j10 j11
     generalize aa.eval = ev at *
     go_simp
    | n + 15, ho' => omega
   intro L vs V' hLall J hG
   have r1 := J.k9 (hLall 8 (by decide))
   have r2 := J.k10 (hLall 9 (by decide))
   have hBt := J.k12
   have dd := J.dice
   have cc := J.bytes
   generalize hl : laid _ vs _ _ _ = BB
   obtain ⟨go, gk⟩ := (show ∃ k : Bool, vs 13 = .bool k from hG 13 (by decide))
   have f2 : BB.tmps.getD 2 undef = .pointer (some ⟨Q6o, 0, none⟩) := by
    rw [<- hl]
    kernel_rfl
   have f3 : BB.tmps.getD 3 undef = .pointer (some ⟨(Q6o + 1), 0, none⟩) := by
    rw [<- hl]
    kernel_rfl
   have f4 : BB.tmps.getD 4 undef = .int .i64 ni := by
    rw [<- (show vs 10 = .int .i64 ni from hG 10 (by decide)), <- hl]
    kernel_rfl
   have f5 : BB.tmps.getD 5 undef = .int .i64 vv := by
    rw [<- (show vs 11 = .int .i64 vv from hG 11 (by decide)), <- hl]
    kernel_rfl
   have f6 : BB.tmps.getD 6 undef = .int .i64 nx := by
    rw [<- (show vs 12 = .int .i64 nx from hG 12 (by decide)), <- hl]
    kernel_rfl
   have f7 : BB.tmps.getD 7 undef = .bool go := by
    rw [<- gk, <- hl]
    kernel_rfl
   have f8 : BB.tmps.getD 8 undef = .int .i64 kd := by
    rw [<- (show vs 14 = .int .i64 kd from hG 14 (by decide)), <- hl]
    kernel_rfl
   have fd : BB.defers = [] := by
    rw [<- hl]
    kernel_rfl
   have OV : qz1t Q6o V' Q0x Q0w Q0t Q11 A := P_own.kept hBt (fun q hq h => by have := P_far q hq; omega)
   have OnV : Below Q6o w V' := P_bel.trans (hBt.below (by omega) (fun q hq => by omega))
   clear hl hG gk J hBt hLall
   simp only [List.drop_succ_cons, List.drop_zero]
   go_wp2_with fail
   refine bodyPost_ret (v := .tuple #[.agg (Q06 : Array Value), .agg Q02, .int .i64 ni, .int .i64 vv, .int .i64 nx, .bool go, .int .i64 kd]) ?_ fd ⟨x, y, z, u, A, _, _, _, _, _, _, _, _, ni, vv, nx, go, kd, rfl, hp, hsm, OV, OnV⟩
   exact qz4n Tryz.results6 _ V' (Q6o) (Q6o + 1) f2 f3 _ _ _ _ _ f4 f5 f6 f7 f8 Q0n Q0j _ _ r1 r2 Tryz.underlying25 rfl qz1u Q7g rfl qz15
end
end Go.Proofs.YthjkdnlmopafkaaGreatDoor
