/-
  What the law's proof goes by, part 40.
-/
import Derived.Test.YthjkdnlmopafkaaFnBlank00
import Derived.Test.YthjkdnlmopafkaaFnBlank01
import Derived.Test.YthjkdnlmopafkaaFnBlank03
import Derived.Test.YthjkdnlmopafkaaFnBlank34
import Derived.Test.YthjkdnlmopafkaaFnBlank38
namespace Go.Proofs.Ythjkdnlmopafkaa
open Go.ChangeShapes Go.WideShapes Go.ChangeAt Go.RowKit
set_option maxRecDepth 100000
set_option maxHeartbeats 16000000
set_option linter.unusedVariables false
set_option linter.unusedSimpArgs false
set_option linter.unnecessarySimpa false
set_option linter.unusedSectionVars false
section
open Go.ChangeShapes Go.WideShapes Go.ChangeAt Go.RowKit Go.Sort
attribute [local go_sem ↓] Go.wp_at_zero Go.wp_at_succ
def qze4 (w : World) (e : Ending) (w' : World) : Prop := ∃ (x y z u : Int) (A : Ar) (a0 a1 a2 a3 : Option Addr) (c0 c1 c2 c3 : Nat), e = .returned (.tuple #[.agg Q08, .agg Q03]) /\ qz38 x y z u = true /\ qzc9 A /\ qz21 Q67 w' Q17 Q18 Q1b Q1t A /\ Below Q67 w w'
theorem qz6l (a : Option Addr) (len cap : Nat) (w : World) (hlen : len <= 4096) (C : qz15 Q67 w a len) :
  Calls Try.prog 14 #[.slice a len cap] w fun e w' => qze4 w e w' := by
 have T2 := World.there_alloc (qzf w Q1m 25 4 (by decide)) (.cells Q0d 30)
 have T3 := qzf (w.alloc (.cells Q1m 25)) Q0d 30 5 (by decide)
 simp only [World.size_alloc] at T3
 have al0 := ((Q6c Q67 w).alloc (Q6f _) (.cells Q1m 25)).alloc (by simp) (.cells Q0d 30)
 have hz0 : (Q5f).heap.size = Q67 + 1 + 1 := by simp
 go_enter Try.func14, Try.ntmps14
 go_upto_region 1 with fail
 generalize hw0 : Q5f = w0 at *
 clear hw0
 have C0 := C.below al0
 go_wp2_with fail
 refine (qzcn a len cap w0 hlen (C0.weaken (by omega))).mono ?_
 rintro e w1 ⟨rfl, ⟨h1, D1⟩, b1⟩
 have T2a := qz5 T2 b1 (by omega)
 have T3a := qz5 T3 b1 (by omega)
 have C1 := C0.below (b1.mono (by omega))
 have K1 := al0.trans (b1.mono (by omega))
 have hb1 := D1.blk
 have hlb : (Q67 + 1) < Q6n := by omega
 generalize Q6n = b at *
 clear T2 T3 C0 al0 C b1 hz0
 go_wp2_with fail
 refine (qz8n Q67 b a len cap 0 h1 w1 (by omega) hlen D1 C1).mono ?_
 rintro e w2 ⟨x, y, z, u, A, s, g, n, r, rfl, hp, hsm, O2, -, -, N2⟩
 have hz2 := N2.size
 obtain ⟨a0, c0, rfl⟩ := qzg O2.rs
 obtain ⟨a1, c1, rfl⟩ := qzg O2.rg
 obtain ⟨a2, c2, rfl⟩ := qzg O2.rn
 obtain ⟨a3, c3, rfl⟩ := qzg O2.rr
 have T2b := qz1g T2a N2 (by omega) (by omega)
 have T3b := Q6z (qz1g T3a N2 (by omega) (by omega)) (Q67) 0 Q1g
 have O5 := ((O2.farB (qzc (Q67) Q1g 0 w2) (fun q e => by have := O2.ge q e; omega)).farB (qzc (Q67 + 1) Q0k 0 _) (fun q e => by have := O2.ge q e; omega)).lo (base' := Q67) (by omega)
 have K5 := Below.setCells (B := Q67) (b := (Q67 + 1)) (by omega) Q0k 0 _ (Below.setCells (B := Q67) (b := Q67) (Q6f _) Q1g 0 _ (K1.trans (N2.below (by omega) (by omega))))
 have r1 : ((w2.setCells (Q67) 0 Q1g).setCells (Q67 + 1) 0 Q0k).rangeAt Q67 0 Q1g := Q6u (Q6d _ _ _ _ T2b) _ _ _ (Or.inl (by omega))
 have r2 : ((w2.setCells (Q67) 0 Q1g).setCells (Q67 + 1) 0 Q0k).rangeAt (Q67 + 1) 0 Q0k := Q6d _ _ _ _ T3b
 clear O2 N2 K1 D1 C1 T2a T3a
 go_wp2_with (first | ((refine wpList_store_mid rfl 25 (.tmp 2) (.tmp 9) rfl (w.heap.size) 0 Q08 ?s1x ?s1y ?s1t qz3j (by simp [Value.oneCell']) ?_); all_goals (have tkA : True := trivial)) | (clear tkA; refine qz2o _ ?_))
 try (case s1x => rfl)
 try (case s1y => rfl)
 try (case s1t => exact T2b)
 show wpList _ _ _ _ _ _
 go_wp2_with (refine wpList_store_mid rfl 30 (.tmp 3) (.tmp 10) rfl (w.heap.size + 1) 0 Q03 ?s2x ?s2y ?s2t qz1w (by simp [Value.oneCell']) ?_)
 try (case s2x => rfl)
 try (case s2y => rfl)
 try (case s2t => exact T3b)
 refine bodyPost_ret (v := .tuple #[.agg (Q08 : Array Value), .agg Q03]) ?_ rfl ⟨x, y, z, u, A, _, _, _, _, _, _, _, _, rfl, hp, hsm, O5, K5⟩
 exact qz6t Try.results14 _ _ (Q67) (Q67 + 1) rfl rfl Q1g Q0k _ _ r1 r2 Try.underlying25 rfl qz3j Try.underlying30 rfl qz1w
end
section
theorem qz8k {b : Nat} {w w8 wa wb : World} (O8 : Only b w w8) (OA : Only w8.heap.size w8 wa) (h8 : Q67 <= w8.heap.size) {c : Nat} (OB : Only c wa wb) (hc : Q67 <= c) : Only b w wb := by
 have zA := OA.size
 refine ⟨OB.os.trans (OA.os.trans O8.os), OB.tape.trans (OA.tape.trans O8.tape), OB.output.trans (OA.output.trans O8.output), Q6s O8.size (Q6s zA OB.size), fun k hk hb => ?_⟩
 exact (OB.block k (by omega) (by omega)).trans ((OA.block k (by omega) (by omega)).trans (O8.block k hk hb))
def qzbj (B b : Nat) (a : Option Addr) (len cap : Nat) (w : World) (e : Ending) (w' : World) : Prop :=
 ∃ (xN uN sg sc gb nb vb hg hc : Nat) (y z i' h' : Int), e = .returned (.agg (Q0n).toArray) /\ qz38 xN y z uN = true /\ qz1f .u64 w' b a len cap i' h' /\ qz15 B w' a len /\ Only b w w' /\ WdIs w'.heap.size w' Q2j Q2b Q2h Q2l Q4g (.slice none 0 0) (.slice none 0 0) (.slice none 0 0) (newW xN uN) /\ qz21 Q67 w' Q2j Q2b Q2h Q2l (qz1a xN uN) /\ (∀ q, qze1 Q2j Q2b Q2h Q2l Q4g (.slice none 0 0) (.slice none 0 0) (.slice none 0 0) q -> Q67 <= q) /\ (2 <= xN /\ xN <= 4)
theorem qzb0 (B b : Nat) (a : Option Addr) (len cap : Nat) (i h : Int) (w : World) (hB : B <= b) (hlen : len <= 4096) (D : qz1f .u64 w b a len cap i h) (C : qz15 B w a len) :
  Calls Try.prog 7 Q4d w (qzbj B b a len cap w) := by
 have blk := D.blk
 go_enter Try.func7, Try.ntmps7
 go_wp2_with fail
 have R0 := qzf w Q02 35 14 (by decide)
 refine (qz5d B b a len cap i h 3 _ hB hlen (D.alloc _) (C.alloc (by omega) _) (by omega) (by omega)).mono ?_
 rintro e w1 ⟨r1, i1, h1, rfl, r10, r11, D1, O1⟩
 have C1 := (C.alloc (by omega) _).below (O1.below hB (by simp; omega))
 have R1 := qz3m R0 O1 (by simp) (by omega)
 have z1 := O1.size
 simp at z1
 obtain ⟨q1, rfl⟩ := Int.eq_ofNat_of_zero_le r10
 go_wp2_with fail
 refine (qz5d B b a len cap i1 h1 5 _ hB hlen D1 C1 (by omega) (by omega)).mono ?_
 rintro e w2 ⟨r2, i2, h2, rfl, r20, r21, D2, O2⟩
 have C2 := C1.below (O2.below hB (by omega))
 have R2 := qz3m R1 O2 (by omega) (by omega)
 have z2 := O2.size
 obtain ⟨q2, rfl⟩ := Int.eq_ofNat_of_zero_le r20
 have b2 := D2.blk
 go_wp2_with fail
 have P2 := qz4k w2 (2 + q1) 30 200 (1 + q2) 25
 refine (qz5d B b a len cap i2 h2 6 _ hB hlen (D2.alloc _) (C2.alloc (by omega) _) (by omega) (by omega)).mono ?_
 rintro e w3 ⟨r3, i3, h3, rfl, r30, r31, D3, O3⟩
 have C3 := (C2.alloc (by omega) _).below (O3.below hB (by simp; omega))
 have R3 := qz3m (World.there_alloc R2 _) O3 (by simp; omega) (by omega)
 have P3 := P2.only O3 (by omega)
 have z3 := O3.size
 simp at z3
 have O03 := ((((Only.refl b w).alloc (Obj.cells Q02 35)).trans O1).trans O2)
 have O04 := (O03.alloc _).trans O3
 have b3 := D3.blk
 clear R0 R1 R2 C1 C2 D1 D2 P2 O1 O2 O3 O03
 by_cases hr : r3 = 0
 ·subst hr
  go_wp2_with fail
  refine (qz5d B b a len cap i3 h3 20 _ hB hlen D3 C3 (by omega) (by omega)).mono ?_
  rintro e w4 ⟨r4, i4, h4, rfl, r40, r41, D4, O4⟩
  have C4 := C3.below (O4.below hB (by omega))
  have R4 := qz3m R3 O4 (by omega) (by omega)
  have P4 := P3.only O4 (by omega)
  have O05 := O04.trans O4
  have z4 := O4.size
  have b4 := D4.blk
  clear D3 C3 R3 P3 O4 O04
  have P5 := P4.set2 (10 + r4)
  have D5 := D4.only ((Only.refl Q6v w4).setCell (p := ⟨Q6v, 2, none⟩) (Or.inl rfl) (.int .i64 (10 + r4))) (by omega)
  have C5 := C4.below ((Q6c B w4).setCell (p := ⟨Q6v, 2, none⟩) (by simp; omega) (.int .i64 (10 + r4)))
  have R5 := qz2 R4 ⟨Q6v, 2, none⟩ (.int .i64 (10 + r4))
  have O06 := O05.setCell (p := ⟨Q6v, 2, none⟩) (Or.inr (by simp; omega)) (.int .i64 (10 + r4))
  obtain ⟨c0, c1, c2, c3, g0, g1, g2, g3, _⟩ := P4
  go_wp2_with fail
  refine (qz5d B b a len cap i4 h4 6 _ hB hlen D5 C5 (by omega) (by omega)).mono ?_
  rintro e w6 ⟨r6, i6, h6, rfl, r60, r61, D6, O6⟩
  have z6 := O6.size
  simp at z6
  have C6 := C5.below (O6.below hB (by simp; omega))
  have R6 := qz3m R5 O6 (by simp; omega) (by omega)
  have P6 := P5.only O6 (by omega)
  have O07 := O06.trans O6
  clear c0 c1 c2 c3 g0 g1 g2 g3 D4 C4 R4 O05 D5 C5 R5 P5 O06 O6
  have D7 := D6.only ((Only.refl Q6v w6).setCell (p := ⟨Q6v, 1, none⟩) (Or.inl rfl) (.int .i64 (3 + r6))) (by omega)
  have C7 := C6.below ((Q6c B w6).setCell (p := ⟨Q6v, 1, none⟩) (by simp; omega) (.int .i64 (3 + r6)))
  have R7 := qz2 R6 ⟨Q6v, 1, none⟩ (.int .i64 (3 + r6))
  have O08 := O07.setCell (p := ⟨Q6v, 1, none⟩) (Or.inr (by simp; omega)) (.int .i64 (3 + r6))
  have b7 := D7.blk
  obtain ⟨c0, c1, c2, c3, g0, g1, g2, g3, _⟩ := P6
  clear D6 C6 R6 O07
  go_wp2_with fail
  have e1 : (2 + (q1 : Int)) = ((2 + q1 : Nat) : Int) := by omega
  have e2 : (1 + (q2 : Int)) = ((1 + q2 : Nat) : Int) := by omega
  rw [e1, e2]
  have hp : qz38 ((2 + q1 : Nat) : Int) (3 + r6) (10 + r4) ((1 + q2 : Nat) : Int) = true := (qz1r _ _ _ _).2 ⟨by omega, by omega, by omega, by omega⟩
  clear e1 e2
  obtain ⟨xN, hxN⟩ : ∃ xN, xN = 2 + q1 := ⟨_, rfl⟩
  obtain ⟨uN, huN⟩ : ∃ uN, uN = 1 + q2 := ⟨_, rfl⟩
  have hxb : 2 <= xN /\ xN <= 4 := by omega
  rw [<- hxN, <- huN] at hp ⊢
  clear hxN huN
  refine (qz3o xN uN (3 + r6) (10 + r4) _ hp).mono ?_
  rintro e w8 ⟨sg, sc, gb, nb, vb, hg, hc, rfl, I8, b8, hlow⟩
  have hlo1 := hlow.out.1
  have hlo2 := hlow.out.2
  try simp only [World.size_setCell] at hlo1 hlo2
  have hx24 : 2 <= xN /\ xN <= 4 := hxb
  have R8 := qz5 R7 b8 (by have := O08.size; (try simp only [World.size_setCell] at *); omega)
  have D8 := D7.below b8
  have C8 := C7.below (b8.mono (by have := O08.size; (try simp only [World.size_setCell] at *); omega))
  have O8 := O08.trans (Only.of_below b8)
  have z8 := O8.size
  have k8 := D8.blk
  clear b8
  have T9 := qzf w8 Q02 35 14 (by decide)
  have G9 := Q6d _ _ _ Q0p T9
  have R9 : ((w8.alloc (Obj.cells Q02 35)).setCells w8.heap.size 0 Q0p).there Q67 0 14 := Q6z (World.there_alloc R8 _) _ _ _
  go_wp2_with (first | (refine Q6b rfl 35 (.tmp 4) (.tmp 27) rfl w8.heap.size 0 _ rfl rfl ?ht ?hi ?h1 ?_) | (refine Q6h rfl 35 (.tmp 4) rfl w8.heap.size 0 rfl Q0p _ ?hc Q6x rfl qz2q ?_) | (refine Q6b rfl 35 (.tmp 2) (.tmp 29) rfl Q67 0 _ rfl rfl ?ht2 ?hi2 ?h12 ?_))
  case ht => exact T9
  case hc => exact G9
  case hi => exact qz2q
  case h1 => simp [Value.oneCell']
  case ht2 => exact R9
  case hi2 => exact qz2q
  case h12 => simp [Value.oneCell']
  have OA := ((Only.refl w8.heap.size w8).alloc (Obj.cells Q02 35)).trans (qzc w8.heap.size Q0p 0 _)
  have OB := qzc Q67 Q0p 0 ((w8.alloc (Obj.cells Q02 35)).setCells w8.heap.size 0 Q0p)
  refine bodyPost_ret (v := .agg (Q0p).toArray) ?_ rfl ⟨xN, uN, sg, sc, gb, nb, vb, hg, hc, (3 + r6), (10 + r4), i6, h6, rfl, hp, ?_, ?_, ?_, ?_, ?_, ?_, hx24⟩
  ·exact qz3 Try.results7 _ _ Q67 0 rfl Q0p _ (Q6d _ _ _ _ R9) Q6x rfl qz2q
  ·exact (D8.only OA (by omega)).only OB (by omega)
  ·exact (C8.below (OA.below (B := B) (by omega) (by omega))).below (OB.below (B := B) (by omega) (by have := OA.size; omega))
  ·exact qz8k O8 OA (by omega) OB (Q6f _)
  ·refine ((I8.below (OA.below (Q6f _) (Q6f _))).far OB (OA.below (Q6f _) (Q6f _)).size (fun q e => ?_)).weaken (Q6s (OA.below (Q6f _) (Q6f _)).size OB.size)
   rcases e with e | e | e | e | e | e | e | e <;> simp [qz3e] at e <;> omega
  ·exact ((hlo2.below (OA.below (Nat.le_refl _) (Nat.le_refl _))).only OB (by (try simp only [World.size_setCell] at *); omega)).lo (by (try simp only [World.size_setCell] at *); omega)
  ·intro q e
   rcases e with e | e | e | e | e | e | e | e <;> simp [qz3e] at e <;> omega
 ·have hr' : (r3 == 0) = false := by simpa using hr
  have P3' := P3
  obtain ⟨c0, c1, c2, c3, g0, g1, g2, g3, _⟩ := P3'
  go_wp2_with fail
  have e1 : (2 + (q1 : Int)) = ((2 + q1 : Nat) : Int) := by omega
  have e2 : (1 + (q2 : Int)) = ((1 + q2 : Nat) : Int) := by omega
  rw [e1, e2]
  have hp : qz38 ((2 + q1 : Nat) : Int) 30 200 ((1 + q2 : Nat) : Int) = true := (qz1r _ _ _ _).2 ⟨by omega, by omega, by omega, by omega⟩
  clear e1 e2
  obtain ⟨xN, hxN⟩ : ∃ xN, xN = 2 + q1 := ⟨_, rfl⟩
  obtain ⟨uN, huN⟩ : ∃ uN, uN = 1 + q2 := ⟨_, rfl⟩
  have hxb : 2 <= xN /\ xN <= 4 := by omega
  rw [<- hxN, <- huN] at hp ⊢
  clear hxN huN
  refine (qz3o xN uN 30 200 _ hp).mono ?_
  rintro e w8 ⟨sg, sc, gb, nb, vb, hg, hc, rfl, I8, b8, hlow⟩
  have hlo1 := hlow.out.1
  have hlo2 := hlow.out.2
  try simp only [World.size_setCell] at hlo1 hlo2
  have hx24 : 2 <= xN /\ xN <= 4 := hxb
  have R8 := qz5 R3 b8 (by have := O04.size; (try simp only [World.size_setCell] at *); omega)
  have D8 := D3.below b8
  have C8 := C3.below (b8.mono (by have := O04.size; (try simp only [World.size_setCell] at *); omega))
  have O8 := O04.trans (Only.of_below b8)
  have z8 := O8.size
  have k8 := D8.blk
  clear b8
  have T9 := qzf w8 Q02 35 14 (by decide)
  have G9 := Q6d _ _ _ Q0r T9
  have R9 : ((w8.alloc (Obj.cells Q02 35)).setCells w8.heap.size 0 Q0r).there Q67 0 14 := Q6z (World.there_alloc R8 _) _ _ _
  go_wp2_with (first | (refine Q6b rfl 35 (.tmp 4) (.tmp 27) rfl w8.heap.size 0 _ rfl rfl ?ht ?hi ?h1 ?_) | (refine Q6h rfl 35 (.tmp 4) rfl w8.heap.size 0 rfl Q0r _ ?hc Q6x rfl qz2q ?_) | (refine Q6b rfl 35 (.tmp 2) (.tmp 29) rfl Q67 0 _ rfl rfl ?ht2 ?hi2 ?h12 ?_))
  case ht => exact T9
  case hc => exact G9
  case hi => exact qz2q
  case h1 => simp [Value.oneCell']
  case ht2 => exact R9
  case hi2 => exact qz2q
  case h12 => simp [Value.oneCell']
  have OA := ((Only.refl w8.heap.size w8).alloc (Obj.cells Q02 35)).trans (qzc w8.heap.size Q0r 0 _)
  have OB := qzc Q67 Q0r 0 ((w8.alloc (Obj.cells Q02 35)).setCells w8.heap.size 0 Q0r)
  refine bodyPost_ret (v := .agg (Q0r).toArray) ?_ rfl ⟨xN, uN, sg, sc, gb, nb, vb, hg, hc, 30, 200, i3, h3, rfl, hp, ?_, ?_, ?_, ?_, ?_, ?_, hx24⟩
  ·exact qz3 Try.results7 _ _ Q67 0 rfl Q0r _ (Q6d _ _ _ _ R9) Q6x rfl qz2q
  ·exact (D8.only OA (by omega)).only OB (by omega)
  ·exact (C8.below (OA.below (B := B) (by omega) (by omega))).below (OB.below (B := B) (by omega) (by have := OA.size; omega))
  ·exact qz8k O8 OA (by omega) OB (Q6f _)
  ·refine ((I8.below (OA.below (Q6f _) (Q6f _))).far OB (OA.below (Q6f _) (Q6f _)).size (fun q e => ?_)).weaken (Q6s (OA.below (Q6f _) (Q6f _)).size OB.size)
   rcases e with e | e | e | e | e | e | e | e <;> simp [qz3e] at e <;> omega
  ·exact ((hlo2.below (OA.below (Nat.le_refl _) (Nat.le_refl _))).only OB (by (try simp only [World.size_setCell] at *); omega)).lo (by (try simp only [World.size_setCell] at *); omega)
  ·intro q e
   rcases e with e | e | e | e | e | e | e | e <;> simp [qz3e] at e <;> omega
end
section
def qz46 (x y z u : Int) : Ar := if qz38 x y z u then qz1a x.toNat u.toNat else ⟨0, [], [], [], []⟩
theorem qz5n {x y z u : Int} (h : qz38 x y z u = true) : qz46 x y z u = qz1a x.toNat u.toNat := by rw [qz46, if_pos h]
theorem qz8l {x y z u : Int} (h : qz38 x y z u = false) : qz46 x y z u = ⟨0, [], [], [], []⟩ := by rw [qz46, if_neg (by rw [h]; decide)]
theorem qz5w (x y z u : Int) (w : World) :
  Calls Try.prog 13 #[.agg Q08] w fun e w' => ∃ s g n r, e = .returned (.agg Q53) /\ qz1i w'.heap.size w' s g n r (qz46 x y z u) /\ Below Q67 w w' := by
 cases hp : qz38 x y z u
 ·rw [qz8l hp]
  exact (qz7d x y z u w hp).mono fun e w' ⟨h, b⟩ => ⟨_, _, _, _, h, ⟨⟨_, _, rfl, Or.inl rfl⟩, ⟨_, _, rfl, Or.inl rfl⟩, ⟨_, _, rfl, Or.inl rfl⟩, ⟨_, _, rfl, Or.inl rfl⟩⟩, b⟩
 ·have hr := (qz1r x y z u).1 hp
  obtain ⟨xN, rfl⟩ : ∃ k : Nat, x = k := ⟨x.toNat, by omega⟩
  obtain ⟨uN, rfl⟩ : ∃ k : Nat, u = k := ⟨u.toNat, by omega⟩
  rw [qz5n hp]
  exact (qz7a xN uN y z w hp).mono fun e w' ⟨sg, sc, gb, nb, vb, h, I, b⟩ => ⟨_, _, _, _, h, I, b⟩
end
end Go.Proofs.Ythjkdnlmopafkaa
