/-
  A blank arena is right, its list is empty, and nothing is stamped but the head's link: at every list of bytes the law of blank arenas returns true and leaves its argument as it was. No condition.
-/
import Derived.BigQuiet
import Derived.Test.YthjkdnlmopafkaaFnBlank00
import Derived.Test.YthjkdnlmopafkaaFnBlank02
import Derived.Test.YthjkdnlmopafkaaFnBlank16
import Derived.Test.YthjkdnlmopafkaaFnBlank39
import Derived.Test.YthjkdnlmopafkaaFnBlank41
import Derived.Test.YthjkdnlmopafkaaFnBlank42
import Derived.Test.YthjkdnlmopafkaaFnBlank43
namespace Go.Proofs.Ythjkdnlmopafkaa
open Go.ChangeShapes Go.WideShapes Go.ChangeAt Go.RowKit
set_option maxRecDepth 100000
set_option maxHeartbeats 16000000
set_option linter.unusedVariables false
set_option linter.unusedSimpArgs false
set_option linter.unnecessarySimpa false
set_option linter.unusedSectionVars false
section
open Go.ChangeShapes Go.WideShapes Go.ChangeAt Go.RowKit Go.Sort
attribute [local go_sem ↓] Go.wp_at_zero Go.wp_at_succ
theorem qzbn {H : Type} {enc : TypeId × Value -> H} {W : World} {r : Reach} {b0 base : Nat} {spare : Nat -> Bool} {held : Bool} {v : Value} {d : DataW H} {p : List MemPlace} (hv : Value.okWide Try.prog W r b0 22 v) (h : DataW.Trod enc Try.prog W base spare held 22 v d p) :
  ∃ a len cap, v = .slice a len cap /\ qz15 W.heap.size W a len := by
 obtain ⟨a, len, cap, rfl⟩ := okWide_slice Try.underlying22 hv
 obtain ⟨fuel, hf⟩ := h
 refine ⟨a, len, cap, rfl, ?_⟩
 rcases open_ints Try.underlying22 Try.underlying5 (by kernel_rfl) hf with ⟨hcs, _⟩ | ⟨x, l, c, zs, hcs, _, hl, hm, hz, _, hcell, hwz⟩
 ·simp [Value.cells] at hcs
  obtain ⟨rfl, rfl, rfl⟩ := hcs
  intro j hj
  omega
 ·simp [Value.cells] at hcs
  obtain ⟨rfl, rfl, rfl⟩ := hcs
  intro j hj
  have hj2 : j < zs.length := by
   rw [hz]
   split <;> omega
  have hc := hcell j hj2
  obtain ⟨bb, off, spot⟩ := x
  have hspot : spot = none := by simpa [Addr.add] using World.cell?_spot (hcell 0 (by omega))
  subst hspot
  rw [Addr.add_mid] at hc
  have hw := hwz (zs.getD j 0) (by rw [List.getD_eq_getElem?_getD, List.getElem?_eq_getElem hj2]; exact List.getElem_mem hj2)
  have hb := bounds_u8 hw
  exact ⟨bb, off, zs.getD j 0, rfl, World.block_lt_of_cell? W _ hc, hc, hb.1, hb.2⟩
theorem qzar {x y z u : Int} (h : qz38 x y z u = true) : qz17 x y z u (qz46 x y z u) = true /\ qz1z (qz46 x y z u) 0 = true /\ qz1z (qz46 x y z u) 1 = false /\ qz1z (qz46 x y z u) (-1) = false /\ (qz46 x y z u).size <= 1000 /\ (qz46 x y z u).camera = 0 := by
 have hr := (qz1r x y z u).1 h
 rw [qz5n h]
 have e1 : ((x.toNat : Nat) : Int) = x := by omega
 have e2 : ((u.toNat : Nat) : Int) = u := by omega
 have V := qzbe x.toNat u.toNat y z (by rw [e1, e2]; exact h)
 rw [e1, e2] at V
 refine ⟨(qz8r _ _ _ _ _).2 V.ar, rfl, rfl, rfl, ?_, rfl⟩
 simp [Ar.size, qz1a]
 omega
def qzc4 (x y z u : Int) (A : Ar) (a0 a1 a2 a3 : Option Addr) (c0 c1 c2 c3 : Nat) : Nat -> Value -> World -> Prop
 | 0, v, _ => v = .agg Q08
 | 1, v, _ => v = .agg Q03
 | 2, v, _ => v = .bool true
 | 3, v, _ => v = .bool false
 | 4, v, _ => v = .bool false
 | 5, v, _ => v = .agg Q03
 | 6, v, _ => v = .bool true
 | 7, v, _ => v = .bool false
 | 8, v, _ => v = .bool false
 | 9, v, _ => v = .bool false
 | 10, v, _ => v = .agg Q03
 | 11, v, _ => v = .bool false
 | 12, v, _ => v = .bool false
 | 13, v, _ => v = .bool false
 | 14, v, _ => v = .agg Q03
 | 15, v, _ => v = .bool false
 | 16, v, _ => v = .bool false
 | 17, v, _ => v = .bool false
 | 18, v, _ => v = .agg Q03
 | 19, v, _ => v = .agg Q08
 | 20, v, w => ∃ s g n r, v = .agg Q3o /\ qz1i Q67 w s g n r A
 | 21, v, _ => v = .bool true
 | 22, v, _ => v = .bool false
 | 23, v, _ => v = .bool false
 | _, _, _ => True
theorem qz3f {x y z u : Int} {A : Ar} {a0 a1 a2 a3 : Option Addr} {c0 c1 c2 c3 : Nat} (i : Nat) (v : Value) (w w' : World) (h : qzc4 x y z u A a0 a1 a2 a3 c0 c1 c2 c3 i v w) (hb : Below Q67 w w') : qzc4 x y z u A a0 a1 a2 a3 c0 c1 c2 c3 i v w' := by
 match i, h with
 | 0, h => exact h
 | 1, h => exact h
 | 2, h => exact h
 | 3, h => exact h
 | 4, h => exact h
 | 5, h => exact h
 | 6, h => exact h
 | 7, h => exact h
 | 8, h => exact h
 | 9, h => exact h
 | 10, h => exact h
 | 11, h => exact h
 | 12, h => exact h
 | 13, h => exact h
 | 14, h => exact h
 | 15, h => exact h
 | 16, h => exact h
 | 17, h => exact h
 | 18, h => exact h
 | 19, h => exact h
 | 20, h =>
  obtain ⟨s, g, n, r, e, I⟩ := h
  exact ⟨s, g, n, r, e, (I.below hb).weaken hb.size⟩
 | 21, h => exact h
 | 22, h => exact h
 | 23, h => exact h
 | n + 24, h => exact trivial
theorem qz93 (a : Option Addr) (len cap : Nat) (w : World) (C : qz15 Q67 w a len) :
  Calls Try.prog 3 #[.slice a len cap] w fun e w' => e = .returned (.bool true) /\ Below Q67 w w' := by
 by_cases hbig : (4096 : Int) < (len : Int)
 ·go_enter Try.func3, Try.ntmps3
  go_wp2_with (go_at_call 6; refine (qzd4 _ _ _ _).mono ?_; rintro e w' ⟨rfl, rfl⟩)
  go_ret
  exact ⟨rfl, Q6c _ _⟩
 have hlen : len <= 4096 := by omega
 have hbf : decide ((4096 : Int) < (len : Int)) = false := by simpa using hbig
 go_enter Try.func3, Try.ntmps3
 go_wp2_with fail
 refine (qzd4 _ _ _ _).mono ?_
 rintro e w0 ⟨rfl, hw⟩
 obtain rfl := hw.symm
 rw [hbf]
 go_wp2_with fail
 refine (qzdf a len cap 3 _ hlen C (by omega) (by omega)).mono ?_
 rintro e w1 ⟨rfl, ⟨h1, D1⟩, B1⟩
 have C1 := C.below B1
 go_wp2_with fail
 refine (qzb0 Q67 Q67 a len cap 0 h1 _ (Q6f _) hlen D1 C1).mono ?_
 rintro e w2 ⟨xN, uN, sg, sc, gb, nb, vb, hg, hc, y, z, i2, h2, rfl, hp, D2, C2, O2, -, -, -, -⟩
 have B2 := B1.trans (O2.below (Q6f _) (by have := D1.blk; omega))
 clear D1 C1 O2 B1 D2 C2
 have hfield : ∀ wx : World, (Instr.field 35 (.agg Q37) 0).run Try.prog wx = .ok (.agg Q1r) wx := fun wx => by kernel_rfl
 go_wp2_with fail
 clear hfield
 generalize (xN : Int) = x at *
 generalize (uN : Int) = u at *
 obtain ⟨hok, hs0, hs1, hs2, hsz, hcam⟩ := qzar hp
 have P2 := qz1h w2 x y z u 25
 have K2 := B2.alloc (B2.size) (.cells Q08 25)
 refine (qz7j x y z u _).mono ?_
 rintro e w3 ⟨s, g, n, r, b0, b1, b2, b3, he, NA, b3'⟩
 obtain ⟨A, hA⟩ : ∃ A, Hid (qz46 x y z u = A) := ⟨_, rfl⟩
 rw [hA.out] at NA hok hs0 hs1 hs2 hsz hcam
 rw [<- hcam] at he
 subst he
 have hcamH : Hid (Q6e = 0) := hcam
 clear hcam
 have IA := NA.is
 obtain ⟨a0, c0, rfl, -⟩ := id IA.s
 obtain ⟨a1, c1, rfl, -⟩ := id IA.g
 obtain ⟨a2, c2, rfl, -⟩ := id IA.n
 obtain ⟨a3, c3, rfl, -⟩ := id IA.r
 have P3 := P2.below b3' (by simp)
 have K3 := K2.trans (b3'.mono K2.size)
 have hz3 : Q6v < w3.heap.size := by have := b3'.size; simp at this; omega
 have FA := qzf w3 Q0d 30 5 (by decide)
 have al := Below.setCells (Q6f _) Q0k 0 _ ((Q6c w3.heap.size w3).alloc (Q6f _) (.cells Q0d 30))
 have hz4 : w3.heap.size < (Q5y).heap.size := by rw [qzr]; simp
 have P4 := P3.below al hz3
 have R4 : (Q5y).rangeAt w3.heap.size 0 Q0k := Q6d _ _ _ _ FA
 have I4 := (IA.below al).weaken al.size
 have K4 := K3.trans (al.mono K3.size)
 clear P2 P3 K2 K3 NA IA b3' B2 al
 go_wp2_with (first | ((refine wpList_store_mid rfl 30 (.tmp 4) (.tmp 14) rfl (w3.heap.size) 0 Q03 ?s1x ?s1y ?s1t qz1w (by simp [Value.oneCell']) ?_); all_goals (have tkA : True := trivial)) | (clear tkA; refine qz2o _ ?_))
 try (case s1x => rfl)
 try (case s1y => rfl)
 try (case s1t => exact FA)
 clear FA
 generalize Q5y = w4 at *
 generalize w3.heap.size = ba at *
 generalize Q6v = bp at *
 have hbp : bp < w4.heap.size := by omega
 have hszA : A.size <= 1048576 := by omega
 have Rp : w4.rangeAt bp 0 Q1g := fun j v hj => by
  obtain ⟨p0, p1, p2, p3⟩ := id P4
  match j, hj with
  | 0, hj => cases hj; simpa using p0
  | 1, hj => cases hj; simpa using p1
  | 2, hj => cases hj; simpa using p2
  | 3, hj => cases hj; simpa using p3
  | n + 4, hj => cases hj
 refine qza9 24 (by kernel_rfl) (fun _ V => Below w4.heap.size w4 V) (Q6c w4.heap.size w4).drew (fun _ i v V => qzc4 x y z u A a0 a1 a2 a3 c0 c1 c2 c3 i v V) (by kernel_rfl) (by kernel_rfl) (by kernel_rfl) [(4, false), (9, false), (13, false), (17, false)] (by kernel_rfl) (by intro gb hgb; simp at hgb; rcases hgb with rfl | rfl | rfl | rfl <;> exact fun _ _ _ h => h) (by rfl) ?step ?final
 case step =>
  intro i o hik ho' L aa V hLi hLk hcl J hnn hd' K hK
  have JP := qz0 Rp J hbp
  have JA := qz0 R4 J hz4
  match i, ho' with
  | 0, ho' =>
   obtain rfl := Q68 ho'
   exact qz2b 25 (.tmp 3) rfl bp 0 (hnn 3 rfl) Q1g _ JP Try.underlying25 rfl qz3j (hK _ _ rfl J (fun j v' _ _ q => q))
  | 1, ho' =>
   obtain rfl := Q68 ho'
   exact qz2b 30 (.tmp 4) rfl ba 0 (hnn 4 rfl) Q0k _ JA Try.underlying30 rfl qz1w (hK _ _ rfl J (fun j v' _ _ q => q))
  | 2, ho' =>
   obtain rfl := Q68 ho'
   have e15 : aa.eval (.tmp 15) = .agg Q08 := (hd' ⟨0, .data⟩ (by simp) rfl 15 rfl).2
   have e16 : aa.eval (.tmp 16) = .agg Q03 := (hd' ⟨1, .data⟩ (by simp) rfl 16 rfl).2
   have ef : aa.eval (.func 10) = .func (.func 10) #[] #[] := rfl
   refine qz1d (f := 10) (args := #[.agg Q08, .agg Q03]) (R := fun v w' => v = .bool true /\ Below V.heap.size V w') ?_ ((qz6x w4.heap.size A x y z u a0 a1 a2 a3 c0 c1 c2 c3 V J.size hszA (I4.below J)).mono (fun e w' h => ⟨_, h.1, congrArg Value.bool hok, h.2⟩)) (fun v w' h => by obtain ⟨rfl, h2⟩ := h; exact hK _ w' rfl (J.trans (h2.mono J.size)) (fun j v' _ _ q => qz3f j v' V w' q h2))
   clear J
   generalize aa.eval = ev at *
   go_simp
  | 3, ho' =>
   obtain rfl := Q68 ho'
   have e17 : aa.eval (.tmp 17) = .bool true := (hd' ⟨2, .data⟩ (by simp) rfl 17 rfl).2
   refine qz1 (v := .bool false) (w' := V) ?_ (hK _ _ rfl J (fun j v' _ _ q => q))
   clear J
   generalize aa.eval = ev at *
   go_simp
  | 4, ho' =>
   obtain rfl := Q68 ho'
   have e18 : aa.eval (.tmp 18) = .bool false := (hd' ⟨3, .data⟩ (by simp) rfl 18 rfl).2
   refine qz1 (v := .bool false) (w' := V) ?_ (hK _ _ rfl J (fun j v' _ _ q => q))
   clear J
   generalize aa.eval = ev at *
   go_simp
  | 5, ho' =>
   obtain rfl := Q68 ho'
   exact qz2b 30 (.tmp 4) rfl ba 0 (hnn 4 rfl) Q0k _ JA Try.underlying30 rfl qz1w (hK _ _ rfl J (fun j v' _ _ q => q))
  | 6, ho' =>
   obtain rfl := Q68 ho'
   have e20 : aa.eval (.tmp 20) = .agg Q03 := (hd' ⟨5, .data⟩ (by simp) rfl 20 rfl).2
   have ec0 : aa.eval (.const (.int .i64 (0))) = .int .i64 (0) := rfl
   have ef : aa.eval (.func 11) = .func (.func 11) #[] #[] := rfl
   refine qz1d (f := 11) (args := #[.agg Q03, .int .i64 (0)]) (R := fun v w' => v = .bool true /\ Below V.heap.size V w') ?_ ((qz5i w4.heap.size A (0) a0 a1 a2 a3 c0 c1 c2 c3 V J.size hszA (I4.below J)).mono (fun e w' h => ⟨_, h.1, congrArg Value.bool hs0, h.2⟩)) (fun v w' h => by obtain ⟨rfl, h2⟩ := h; exact hK _ w' rfl (J.trans (h2.mono J.size)) (fun j v' _ _ q => qz3f j v' V w' q h2))
   clear J
   generalize aa.eval = ev at *
   go_simp
  | 7, ho' =>
   obtain rfl := Q68 ho'
   have e21 : aa.eval (.tmp 21) = .bool true := (hd' ⟨6, .data⟩ (by simp) rfl 21 rfl).2
   refine qz1 (v := .bool false) (w' := V) ?_ (hK _ _ rfl J (fun j v' _ _ q => q))
   clear J
   generalize aa.eval = ev at *
   go_simp
  | 8, ho' =>
   obtain rfl := Q68 ho'
   have e19 : aa.eval (.tmp 19) = .bool false := (hd' ⟨4, .data⟩ (by simp) rfl 19 rfl).2
   have e22 : aa.eval (.tmp 22) = .bool false := (hd' ⟨7, .data⟩ (by simp) rfl 22 rfl).2
   refine qz1 (v := .bool false) (w' := V) ?_ (hK _ _ rfl J (fun j v' _ _ q => q))
   clear J
   generalize aa.eval = ev at *
   go_simp
  | 9, ho' =>
   obtain rfl := Q68 ho'
   have e23 : aa.eval (.tmp 23) = .bool false := (hd' ⟨8, .data⟩ (by simp) rfl 23 rfl).2
   refine qz1 (v := .bool false) (w' := V) ?_ (hK _ _ rfl J (fun j v' _ _ q => q))
   clear J
   generalize aa.eval = ev at *
   go_simp
  | 10, ho' =>
   obtain rfl := Q68 ho'
   exact qz2b 30 (.tmp 4) rfl ba 0 (hnn 4 rfl) Q0k _ JA Try.underlying30 rfl qz1w (hK _ _ rfl J (fun j v' _ _ q => q))
  | 11, ho' =>
   obtain rfl := Q68 ho'
   have e25 : aa.eval (.tmp 25) = .agg Q03 := (hd' ⟨10, .data⟩ (by simp) rfl 25 rfl).2
   have ec0 : aa.eval (.const (.int .i64 (1))) = .int .i64 (1) := rfl
   have ef : aa.eval (.func 11) = .func (.func 11) #[] #[] := rfl
   refine qz1d (f := 11) (args := #[.agg Q03, .int .i64 (1)]) (R := fun v w' => v = .bool false /\ Below V.heap.size V w') ?_ ((qz5i w4.heap.size A (1) a0 a1 a2 a3 c0 c1 c2 c3 V J.size hszA (I4.below J)).mono (fun e w' h => ⟨_, h.1, congrArg Value.bool hs1, h.2⟩)) (fun v w' h => by obtain ⟨rfl, h2⟩ := h; exact hK _ w' rfl (J.trans (h2.mono J.size)) (fun j v' _ _ q => qz3f j v' V w' q h2))
   clear J
   generalize aa.eval = ev at *
   go_simp
  | 12, ho' =>
   obtain rfl := Q68 ho'
   have e24 : aa.eval (.tmp 24) = .bool false := (hd' ⟨9, .data⟩ (by simp) rfl 24 rfl).2
   have e26 : aa.eval (.tmp 26) = .bool false := (hd' ⟨11, .data⟩ (by simp) rfl 26 rfl).2
   refine qz1 (v := .bool false) (w' := V) ?_ (hK _ _ rfl J (fun j v' _ _ q => q))
   clear J
   generalize aa.eval = ev at *
   go_simp
  | 13, ho' =>
   obtain rfl := Q68 ho'
   have e27 : aa.eval (.tmp 27) = .bool false := (hd' ⟨12, .data⟩ (by simp) rfl 27 rfl).2
   refine qz1 (v := .bool false) (w' := V) ?_ (hK _ _ rfl J (fun j v' _ _ q => q))
   clear J
   generalize aa.eval = ev at *
   go_simp
  | 14, ho' =>
   obtain rfl := Q68 ho'
   exact qz2b 30 (.tmp 4) rfl ba 0 (hnn 4 rfl) Q0k _ JA Try.underlying30 rfl qz1w (hK _ _ rfl J (fun j v' _ _ q => q))
  | 15, ho' =>
   obtain rfl := Q68 ho'
   have e29 : aa.eval (.tmp 29) = .agg Q03 := (hd' ⟨14, .data⟩ (by simp) rfl 29 rfl).2
   have ec0 : aa.eval (.const (.int .i64 (-1))) = .int .i64 (-1) := rfl
   have ef : aa.eval (.func 11) = .func (.func 11) #[] #[] := rfl
   refine qz1d (f := 11) (args := #[.agg Q03, .int .i64 (-1)]) (R := fun v w' => v = .bool false /\ Below V.heap.size V w') ?_ ((qz5i w4.heap.size A (-1) a0 a1 a2 a3 c0 c1 c2 c3 V J.size hszA (I4.below J)).mono (fun e w' h => ⟨_, h.1, congrArg Value.bool hs2, h.2⟩)) (fun v w' h => by obtain ⟨rfl, h2⟩ := h; exact hK _ w' rfl (J.trans (h2.mono J.size)) (fun j v' _ _ q => qz3f j v' V w' q h2))
   clear J
   generalize aa.eval = ev at *
   go_simp
  | 16, ho' =>
   obtain rfl := Q68 ho'
   have e28 : aa.eval (.tmp 28) = .bool false := (hd' ⟨13, .data⟩ (by simp) rfl 28 rfl).2
   have e30 : aa.eval (.tmp 30) = .bool false := (hd' ⟨15, .data⟩ (by simp) rfl 30 rfl).2
   refine qz1 (v := .bool false) (w' := V) ?_ (hK _ _ rfl J (fun j v' _ _ q => q))
   clear J
   generalize aa.eval = ev at *
   go_simp
  | 17, ho' =>
   obtain rfl := Q68 ho'
   have e31 : aa.eval (.tmp 31) = .bool false := (hd' ⟨16, .data⟩ (by simp) rfl 31 rfl).2
   refine qz1 (v := .bool false) (w' := V) ?_ (hK _ _ rfl J (fun j v' _ _ q => q))
   clear J
   generalize aa.eval = ev at *
   go_simp
  | 18, ho' =>
   obtain rfl := Q68 ho'
   exact qz2b 30 (.tmp 4) rfl ba 0 (hnn 4 rfl) Q0k _ JA Try.underlying30 rfl qz1w (hK _ _ rfl J (fun j v' _ _ q => q))
  | 19, ho' =>
   obtain rfl := Q68 ho'
   exact qz2b 25 (.tmp 3) rfl bp 0 (hnn 3 rfl) Q1g _ JP Try.underlying25 rfl qz3j (hK _ _ rfl J (fun j v' _ _ q => q))
  | 20, ho' =>
   obtain rfl := Q68 ho'
   have e34 : aa.eval (.tmp 34) = .agg Q08 := (hd' ⟨19, .data⟩ (by simp) rfl 34 rfl).2
   have ef : aa.eval (.func 13) = .func (.func 13) #[] #[] := rfl
   refine qz1d (f := 13) (args := #[.agg Q08]) (R := fun v w' => (∃ s g n r, v = .agg Q3o /\ qz1i w'.heap.size w' s g n r A) /\ Below V.heap.size V w') ?_ ((qz5w x y z u V).mono (fun e w' h => by
    obtain ⟨s, g, n, r, he, IB, hb⟩ := h
    rw [hA.out] at IB
    rw [<- hcamH.out] at he
    exact ⟨_, he, ⟨s, g, n, r, rfl, IB⟩, hb⟩)) (fun v w' h => by obtain ⟨h1, h2⟩ := h; exact hK _ w' h1 (J.trans (h2.mono J.size)) (fun j v' _ _ q => qz3f j v' V w' q h2))
   clear J
   generalize aa.eval = ev at *
   go_simp
  | 21, ho' =>
   obtain rfl := Q68 ho'
   have e33 : aa.eval (.tmp 33) = .agg Q03 := (hd' ⟨18, .data⟩ (by simp) rfl 33 rfl).2
   obtain ⟨sB, gB, nB, rB, e35, IB⟩ := (show ∃ s g n r, aa.eval (.tmp 35) = .agg Q3o /\ qz1i V.heap.size V s g n r A from (hd' ⟨20, .data⟩ (by simp) rfl 35 rfl).2)
   have ef : aa.eval (.func 12) = .func (.func 12) #[] #[] := rfl
   refine qz1d (f := 12) (args := #[.agg Q03, .agg #[.int .i64 Q6e, sB, gB, nB, rB]]) (R := fun v w' => v = .bool true /\ Below V.heap.size V w') ?_ ((qz8g V.heap.size A _ _ _ _ sB gB nB rB V (Q6f _) hszA ((I4.below J).weaken J.size) IB).mono (fun e w' h => ⟨_, h.1, rfl, h.2⟩)) (fun v w' h => by obtain ⟨rfl, h2⟩ := h; exact hK _ w' rfl (J.trans (h2.mono J.size)) (fun j v' _ _ q => qz3f j v' V w' q h2))
   clear J IB
   generalize aa.eval = ev at *
   go_simp
  | 22, ho' =>
   obtain rfl := Q68 ho'
   have e36 : aa.eval (.tmp 36) = .bool true := (hd' ⟨21, .data⟩ (by simp) rfl 36 rfl).2
   refine qz1 (v := .bool false) (w' := V) ?_ (hK _ _ rfl J (fun j v' _ _ q => q))
   clear J
   generalize aa.eval = ev at *
   go_simp
  | 23, ho' =>
   obtain rfl := Q68 ho'
   have e32 : aa.eval (.tmp 32) = .bool false := (hd' ⟨17, .data⟩ (by simp) rfl 32 rfl).2
   have e37 : aa.eval (.tmp 37) = .bool false := (hd' ⟨22, .data⟩ (by simp) rfl 37 rfl).2
   refine qz1 (v := .bool false) (w' := V) ?_ (hK _ _ rfl J (fun j v' _ _ q => q))
   clear J
   generalize aa.eval = ev at *
   go_simp
  | n + 24, ho' => omega
 intro L vs V hLall BV hG
 have g23 : vs 23 = .bool false := hG 23 (by decide)
 generalize hl : laid _ vs _ _ _ = BB
 have hA' : BB = { tmps := #[.slice a len cap, undef, .bool false, .pointer (some ⟨bp, 0, none⟩), .pointer (some ⟨ba, 0, none⟩), undef, undef, .slice a len cap, .bool false, .slice a len cap, .pointer (some ⟨Q67, 0, none⟩), .agg Q15, .agg Q08, .agg Q08, .agg Q03, vs 0, vs 1, vs 2, vs 3, vs 4, vs 5, vs 6, vs 7, vs 8, vs 9, vs 10, vs 11, vs 12, vs 13, vs 14, vs 15, vs 16, vs 17, vs 18, vs 19, vs 20, vs 21, vs 22, vs 23, undef, undef, undef, undef, undef, undef, undef, undef, undef, undef, undef, undef], defers := [] } := by
  rw [<- hl]
  kernel_rfl
 subst hA'
 rw [g23]
 clear hl hG g23 hLall
 have KV := K4.trans (BV.mono K4.size)
 have CV := (C.below KV).weaken KV.size
 clear BV K4 R4 Rp P4 I4
 simp only [List.drop_succ_cons, List.drop_zero]
 go_wp2_with fail
 refine (qz6l a len cap V hlen CV).mono ?_
 rintro e w5 ⟨x', y', z', u', A', d0, d1, d2, d3, e0, e1, e2, e3, rfl, hp', hsm', O5, b5⟩
 have I5 := O5.is
 have K5 := KV.trans (b5.mono KV.size)
 have S1 := World.there_alloc (qzf w5 Q1m 25 4 (by decide)) (.cells Q0d 30)
 have S2 := qzf (w5.alloc (.cells Q1m 25)) Q0d 30 5 (by decide)
 have al := ((Q6c Q6y w5).alloc (Q6f _) (.cells Q1m 25)).alloc (by simp) (.cells Q0d 30)
 have hzA : ((w5.alloc (.cells Q1m 25)).alloc (.cells Q0d 30)).heap.size = Q6y + 1 + 1 := by simp
 simp only [World.size_alloc] at S2
 have tok : True := trivial
 go_wp2_with (clear tok; refine qz2o ((w5.alloc (.cells Q1m 25)).alloc (.cells Q0d 30)) ?_)
 generalize hwA : ((w5.alloc (.cells Q1m 25)).alloc (.cells Q0d 30)) = wA at *
 clear hwA
 show wpList _ _ _ _ _ wA
 have S2' := Q6z S2 Q6y 0 Q2f
 have al5 : Below Q6y w5 ((((wA).setCells Q6y 0 Q2f).setCells (Q6y + 1) 0 Q1d)) := Below.setCells (by omega) _ _ _ (Below.setCells (by omega) _ _ _ al)
 have hz5 : Q6y + 1 < ((((wA).setCells Q6y 0 Q2f).setCells (Q6y + 1) 0 Q1d)).heap.size := by rw [qzr, qzr]; omega
 have P_pl : ((((wA).setCells Q6y 0 Q2f).setCells (Q6y + 1) 0 Q1d)).rangeAt Q6y 0 Q2f := Q6u (Q6d _ _ _ _ S1) _ _ _ (Or.inl (by omega))
 have P_ac : ((((wA).setCells Q6y 0 Q2f).setCells (Q6y + 1) 0 Q1d)).rangeAt (Q6y + 1) 0 Q1d := Q6d _ _ _ _ S2'
 have K6 := K5.trans (al5.mono K5.size)
 have I6 := (I5.below al5).weaken al5.size
 refine Q6b rfl 25 (.tmp 5) (.tmp 42) rfl Q6y 0 Q5v rfl rfl S1 qz3j (by simp [Value.oneCell']) ?_
 refine Q6b rfl 30 (.tmp 6) (.tmp 43) rfl (Q6y + 1) 0 Q3t rfl rfl S2' qz1w (by simp [Value.oneCell']) ?_
 clear S1 S2 S2' al al5 I5 O5 hzA K5 b5 KV
 show wpList _ _ _ _ _ ((((wA).setCells Q6y 0 Q2f).setCells (Q6y + 1) 0 Q1d))
 generalize ((((wA).setCells Q6y 0 Q2f).setCells (Q6y + 1) 0 Q1d)) = w6 at *
 generalize hba : Q6y + 1 = bb at *
 generalize Q6y = bq at *
 show wpList _ _ _ _ _ w6
 obtain ⟨hs1', hs2', ⟨hs3', hs4'⟩, hs5', hs6'⟩ := id hsm'
 have hsA' : A'.size <= 1048576 := by unfold Ar.size; omega
 have k1 : ∀ (dq : Nat) (os : Array Obj), Calls Try.prog 10 #[.agg Q5v, .agg Q3t] (grow (redrawn w6 dq) os) fun e w'' => e = .returned (.bool (qz17 x' y' z' u' A')) /\ ∃ q : Regrown, w'' = grow (redrawn w6 q.d) q.os := fun dq os => Calls.regrown_of (qz6x w6.heap.size A' x' y' z' u' d0 d1 d2 d3 e0 e1 e2 e3 (grow (redrawn w6 dq) os) (below_regrown w6 dq os).size (by omega) (I6.below (below_regrown w6 dq os)))
 have k2 : ∀ (dq : Nat) (os : Array Obj), Calls Try.prog 15 #[.agg Q5v, .agg Q3t] (grow (redrawn w6 dq) os) fun e w'' => e = .returned (.bool (qz17 x' y' z' u' A')) /\ ∃ q : Regrown, w'' = grow (redrawn w6 q.d) q.os := fun dq os => Calls.regrown_of (qz4w w6.heap.size A' x' y' z' u' d0 d1 d2 d3 e0 e1 e2 e3 (grow (redrawn w6 dq) os) (below_regrown w6 dq os).size (by omega) (I6.below (below_regrown w6 dq os)))
 generalize qz17 x' y' z' u' A' = fI at *
 have ff : (fI == fI) = true := by simp
 go_wp2_with fail
 refine wp_region_quiet_below (by kernel_rfl) (by kernel_rfl) ?_
 refine qz1u (by first | rfl | kernel_rfl) 25 (.tmp 5) rfl bq 0 rfl (Q2f) _ (fun w' hw' => by obtain ⟨⟨dq, os⟩, rfl⟩ := hw'; exact qz0 P_pl (below_regrown w6 dq os) (by omega)) Try.underlying25 rfl qz3j ?_
 simp only [Act.put, List.setIfInBounds_toArray, List.set_cons_succ, List.set_cons_zero]
 refine qz1u (by first | rfl | kernel_rfl) 30 (.tmp 6) rfl bb 0 rfl (Q1d) _ (fun w' hw' => by obtain ⟨⟨dq, os⟩, rfl⟩ := hw'; exact qz0 P_ac (below_regrown w6 dq os) (by omega)) Try.underlying30 rfl qz1w ?_
 simp only [Act.put, List.setIfInBounds_toArray, List.set_cons_succ, List.set_cons_zero]
 iterate 1 (go_big_quiet_step (exact k1 _ _))
 refine qz1u (by first | rfl | kernel_rfl) 25 (.tmp 5) rfl bq 0 rfl (Q2f) _ (fun w' hw' => by obtain ⟨⟨dq, os⟩, rfl⟩ := hw'; exact qz0 P_pl (below_regrown w6 dq os) (by omega)) Try.underlying25 rfl qz3j ?_
 simp only [Act.put, List.setIfInBounds_toArray, List.set_cons_succ, List.set_cons_zero]
 refine qz1u (by first | rfl | kernel_rfl) 30 (.tmp 6) rfl bb 0 rfl (Q1d) _ (fun w' hw' => by obtain ⟨⟨dq, os⟩, rfl⟩ := hw'; exact qz0 P_ac (below_regrown w6 dq os) (by omega)) Try.underlying30 rfl qz1w ?_
 simp only [Act.put, List.setIfInBounds_toArray, List.set_cons_succ, List.set_cons_zero]
 iterate 1 (go_big_quiet_step (exact k2 _ _))
 refine qz33 (by first | rfl | kernel_rfl) (.bool true) (fun w' _ => by clear k1 k2; go_simp) ?_
 simp only [Act.put, List.setIfInBounds_toArray, List.set_cons_succ, List.set_cons_zero]
 iterate 1 (go_big_quiet_step (fail))
 refine wpQuiet_nil ?_
 intro _ hw'
 obtain ⟨⟨dq, osq⟩, hw''⟩ := hw'
 subst hw''
 have b6 := below_regrown w6 dq osq
 go_wp2
 go_ret
 exact ⟨rfl, K6.trans (b6.mono K6.size)⟩
theorem qz7m (os : Os) (started : os.Started) (H : Type) (enc : TypeId × Value -> H) :
  ReturnsInHanded {} Try.checked os 3 .any (Rows.fnBlankSpec.pre6 enc Try.prog Try.f3 Rows.fnBlankRow.domain false) (Rows.fnBlankSpec.post enc Try.prog Try.f3 false true false false) := by
 refine returnsInHanded_of_change (C := Try.checked) own started (by kernel_rfl) Try.func3
  (ChangeSpec.witness6 (enc := enc) (C := Try.checked) false ⟨#[], #[.slice none 0 0], []⟩ 8 (by kernel_rfl) (by kernel_rfl) (by kernel_rfl) (by kernel_rfl)) ?_
 intro W base args ds gs before hval0 hW hcnd _
 have hval : ∀ (j : Nat) t v, Try.f3.params[j]? = some t -> args[j]? = some v -> Value.okWide Try.prog W .any base t v := hval0
 have hW' := hW
 obtain ⟨p, q, hA0, hV, rfl, hfz, hnd⟩ := hW
 have hA : DataW.TrodAll enc Try.prog W 0 (fun _ => true) true Try.f3.params.toList args.toList ds p := hA0
 rw [Try.params3] at hA hval
 obtain ⟨v0, vs0, d0, ds0, p0, q0, hargs, rfl, rfl, h0, r0⟩ := trodAll_cons hA
 obtain ⟨rfl, rfl, rfl⟩ := trodAll_nil r0
 obtain rfl : args = #[v0] := by cases args; simp_all
 obtain ⟨rfl, rfl⟩ := trodVars_none hV
 have k0 := h0
 have lt0 : ∀ x ∈ p0, x.block < W.heap.size := by obtain ⟨m, hm⟩ := k0; exact DataW.trod_lt m _ _ _ hm
 obtain ⟨a0, len0, cap0, hv0, w0⟩ := qzbn (hval 0 22 v0 rfl rfl) h0
 subst hv0
 clear hA0 hval0
 refine (qz93 a0 len0 cap0 W w0).mono fun e W' ⟨he, bel⟩ => ?_
 subst he
 exact ⟨_, rfl, _, _, _, [], _, [], hW', trodAll_mk1 (shut_bool Try.underlying4 _), (trodAll_cons_mk (Below.trod qzei (by kernel_rfl) (of_decide_eq_true (by kernel_rfl)) k0 bel lt0) trodAll_mk0), rfl, bel.frame _, fun h => by cases h⟩
theorem fnBlank_holds : Rows.FnBlankSaid :=
 OpenClaim.holds_of_wide 3 Try.f3 rfl rfl rfl rfl rfl rfl rfl ⟨rfl, rfl, rfl, rfl, rfl⟩ rfl rfl rfl rfl rfl (by kernel_rfl) Try.func3 (by kernel_rfl)
  (of_decide_eq_true (by kernel_rfl)) (by unfold Func.isWrapper; first | (rw [if_pos (by decide +kernel)]; kernel_rfl) | (rw [if_neg (by decide +kernel)]; exact ⟨rfl, rfl⟩))
  (fun os started H enc _ => qz7m os started H enc)
#print axioms fnBlank_holds
end
end Go.Proofs.Ythjkdnlmopafkaa
