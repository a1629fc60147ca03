/-
  What the law's proof goes by, part 50.
-/
import Derived.Test.YthjkdnlmopafkaaGreatDoorFnSwappedCard00
import Derived.Test.YthjkdnlmopafkaaGreatDoorFnSwappedCard40
import Derived.Test.YthjkdnlmopafkaaGreatDoorFnSwappedCard45
import Derived.Test.YthjkdnlmopafkaaGreatDoorFnSwappedCard47
import Derived.Test.YthjkdnlmopafkaaGreatDoorFnSwappedCard48
namespace Go.Proofs.YthjkdnlmopafkaaGreatDoor
open Go.ChangeShapes Go.WideShapes Go.ChangeAt Go.RowKit
set_option maxRecDepth 100000
set_option maxHeartbeats 16000000
set_option linter.unusedVariables false
set_option linter.unusedSimpArgs false
set_option linter.unnecessarySimpa false
set_option linter.unusedSectionVars false
section
open Go.ChangeShapes Go.WideShapes Go.ChangeAt Go.RowKit Go.Sort
attribute [local go_sem ↓] Go.wp_at_zero Go.wp_at_succ
theorem qzcx {H : Type} {enc : TypeId × Value -> H} {W : World} {r : Reach} {b0 base : Nat} {spare : Nat -> Bool} {held : Bool} {v : Value} {d : DataW H} {p : List MemPlace} (hv : Value.okWide Tryz.prog W r b0 22 v) (h : DataW.Trod enc Tryz.prog W base spare held 22 v d p) :
  ∃ a len cap, v = .slice a len cap /\ qz17 W.heap.size W a len := by
 obtain ⟨a, len, cap, rfl⟩ := okWide_slice Tryz.underlying22 hv
 obtain ⟨fuel, hf⟩ := h
 refine ⟨a, len, cap, rfl, ?_⟩
 rcases open_ints Tryz.underlying22 Tryz.underlying5 (by kernel_rfl) hf with ⟨hcs, _⟩ | ⟨x, l, c, zs, hcs, _, hl, hm, hz, _, hcell, hwz⟩
 ·simp [Value.cells] at hcs
  obtain ⟨rfl, rfl, rfl⟩ := hcs
  intro j hj
  omega
 ·simp [Value.cells] at hcs
  obtain ⟨rfl, rfl, rfl⟩ := hcs
  intro j hj
  have hj2 : j < zs.length := by
   rw [hz]
   split <;> omega
  have hc := hcell j hj2
  obtain ⟨bb, off, spot⟩ := x
  have hspot : spot = none := by simpa [Addr.add] using World.cell?_spot (hcell 0 (by omega))
  subst hspot
  rw [Addr.add_mid] at hc
  have hw := hwz (zs.getD j 0) (by rw [List.getD_eq_getElem?_getD, List.getElem?_eq_getElem hj2]; exact List.getElem_mem hj2)
  have hb := bounds_u8 hw
  exact ⟨bb, off, zs.getD j 0, rfl, World.block_lt_of_cell? W _ hc, hc, hb.1, hb.2⟩
theorem qze6 (x y z u : Int) (A : Ar) (node v nx : Int) (go : Bool) (kd : Int) {X : Ar} {m : Int} (h : qz3n x y z u A node v nx go kd = (X, m)) : (m < 0 /\ (hasB x y z u A node = false ∨ X = A)) ∨ (∃ k : Nat, ∃ hk : k < Q6q, node = (k : Int) /\ qz10 x y z u A = true /\ (Q6r : Int) < z /\ A.nodes[k].head = v /\ m = (Q6r : Int) /\ X = { A with vers := A.vers ++ [⟨nx, go, -1, v, kd⟩], nodes := A.nodes.set k { A.nodes[k] with head := (Q6r : Int) } }) := by
 unfold qz3n at h
 by_cases hh : hasB x y z u A node = true
 ·rw [if_pos hh] at h
  obtain ⟨h1, h2, h3, -⟩ := qz9r hh
  obtain ⟨k, rfl⟩ : ∃ k : Nat, node = k := ⟨node.toNat, by omega⟩
  have hk : k < Q6q := by omega
  have e1 := congrArg Prod.fst h
  have e2 := congrArg Prod.snd h
  simp only at e1 e2
  by_cases h30 : qz5a z A (k : Int) ⟨nx, go, -1, v, kd⟩ = 3
  ·right
   rw [h30] at e1 e2
   have hc := h30
   unfold qz5a at hc
   split at hc
   ·cases hc
   split at hc
   ·cases hc
   rename_i hz hv
   rw [qz1l A k hk] at hv
   refine ⟨k, hk, rfl, h1, by omega, by simpa using hv, ?_, ?_⟩
   ·rw [<- e2]; rfl
   ·rw [<- e1]; simp [qzar, qz1l A k hk]
  ·left
   refine ⟨?_, Or.inr ?_⟩
   ·rw [<- e2]; unfold qzek; rw [if_neg h30]; split <;> decide
   ·rw [<- e1]; unfold qzar; rw [if_neg h30]
 ·rw [if_neg hh] at h
  left
  have e2 := congrArg Prod.snd h
  simp only at e2
  exact ⟨by omega, Or.inl (by simpa using hh)⟩
theorem qz8f (a : Option Addr) (len cap : Nat) (eN eF eU : Addr) (w : World) (C : qz17 Q6o w a len) (hE : Errs Q6o w eN eF eU) (hT : ErrT Q6o w) :
  Calls Tryz.prog 3 #[.slice a len cap] w fun e w' => e = .returned (.bool true) /\ Below Q6o w w' := by
 by_cases hbig : (4096 : Int) < (len : Int)
 ·go_enter Tryz.func3, Tryz.ntmps3
  go_wp2_with (go_at_call 5; refine (qzfi _ _ _ _).mono ?_; rintro e w' ⟨rfl, rfl⟩)
  go_ret
  exact ⟨rfl, Q6s _ _⟩
 have hlen : len <= 4096 := by omega
 have hbf : decide ((4096 : Int) < (len : Int)) = false := by simpa using hbig
 go_enter Tryz.func3, Tryz.ntmps3
 go_wp2_with fail
 refine (qzfi _ _ _ _).mono ?_
 rintro e w0 ⟨rfl, hw⟩
 obtain rfl := hw.symm
 rw [hbf]
 go_wp2_with fail
 refine (qz7n a len cap w hlen C).mono ?_
 rintro e w1 ⟨x, y, z, u, A, a0, a1, a2, a3, c0, c1, c2, c3, ni, vv, nx, go, kd, rfl, hp, hsm, O1, K1⟩
 obtain ⟨hs1, hs2, ⟨hs3, hs4⟩, hs5, hs6⟩ := id hsm
 have hAs : A.size <= 1000 := by unfold Ar.size; omega
 have I1 := O1.is
 have S1 := Q7h (qzg w1 Q3t 25 4 (by decide)) (.cells Q09 30)
 have S2 := qzg (w1.alloc Q0y) Q09 30 5 (by decide)
 have al := ((Q6s Q6y w1).alloc (Q6v _) Q0y).alloc (by simp) (.cells Q09 30)
 have hzA : ((w1.alloc Q0y).alloc (.cells Q09 30)).heap.size = Q6y + 1 + 1 := by simp
 simp only [World.size_alloc] at S2
 have tok : True := trivial
 go_wp2_with (clear tok; refine qz2j ((w1.alloc Q0y).alloc (.cells Q09 30)) ?_)
 generalize hwA : ((w1.alloc Q0y).alloc (.cells Q09 30)) = wA at *
 clear hwA
 show wpList _ _ _ _ _ wA
 have S2' := Q7f S2 Q6y 0 Q0n
 have al5 : Below Q6y w1 (((wA).setCells Q6y 0 Q0n).setCells (Q6y + 1) 0 Q0j) := Below.setCells (by omega) _ _ _ (Below.setCells (by omega) _ _ _ al)
 have hz2 : Q6y + 1 < (((wA).setCells Q6y 0 Q0n).setCells (Q6y + 1) 0 Q0j).heap.size := by rw [qzp, qzp]; omega
 have Rp : (((wA).setCells Q6y 0 Q0n).setCells (Q6y + 1) 0 Q0j).rangeAt Q6y 0 Q0n := Q7d (Q6u _ _ _ _ S1) _ _ _ (Or.inl (by omega))
 have Ra : (((wA).setCells Q6y 0 Q0n).setCells (Q6y + 1) 0 Q0j).rangeAt (Q6y + 1) 0 Q0j := Q6u _ _ _ _ S2'
 have K2 := K1.trans (al5.mono K1.size)
 have I2 := (I1.below al5).weaken al5.size
 refine Q6t rfl 25 (.tmp 3) (.tmp 25) rfl Q6y 0 Q06 rfl rfl S1 qz1u (by simp [Value.oneCell']) ?_
 refine Q6t rfl 30 (.tmp 4) (.tmp 26) rfl (Q6y + 1) 0 Q02 rfl rfl S2' qz15 (by simp [Value.oneCell']) ?_
 clear S1 S2 S2' al al5 I1 O1 hzA K1
 show wpList _ _ _ _ _ (((wA).setCells Q6y 0 Q0n).setCells (Q6y + 1) 0 Q0j)
 generalize (((wA).setCells Q6y 0 Q0n).setCells (Q6y + 1) 0 Q0j) = w2 at *
 generalize hba : Q6y + 1 = ba at *
 generalize Q6y = bp at *
 show wpList _ _ _ _ _ w2
 obtain ⟨⟨X, m⟩, hR⟩ : ∃ R, Hid (qz3n x y z u A ni vv nx go kd = R) := ⟨_, rfl⟩
 have hXs : X.size <= 1048576 := by
  have := qz9n x y z u A ni vv nx go kd
  rw [hR.out] at this
  exact this
 have hbpa : bp < ba := by omega
 clear hba
 have qp0 : w2.cell? ⟨bp, 0, none⟩ = some (.int .i64 x) := by simpa using Rp 0 _ rfl
 have qp1 : w2.cell? ⟨bp, 1, none⟩ = some (.int .i64 y) := by simpa using Rp 1 _ rfl
 have qp2 : w2.cell? ⟨bp, 2, none⟩ = some (.int .i64 z) := by simpa using Rp 2 _ rfl
 have qp3 : w2.cell? ⟨bp, 3, none⟩ = some (.int .i64 u) := by simpa using Rp 3 _ rfl
 have qa0 : w2.cell? ⟨ba, 0, none⟩ = some (.int .i64 Q6w) := by simpa using Ra 0 _ rfl
 have qa1 : w2.cell? ⟨ba, 1, none⟩ = some Q0x := by simpa using Ra 1 _ rfl
 have qa2 : w2.cell? ⟨ba, 2, none⟩ = some Q0w := by simpa using Ra 2 _ rfl
 have qa3 : w2.cell? ⟨ba, 3, none⟩ = some Q0t := by simpa using Ra 3 _ rfl
 have qa4 : w2.cell? ⟨ba, 4, none⟩ = some Q11 := by simpa using Ra 4 _ rfl
 go_wp2_with fail
 refine (qzco Q78 A x y z u ni vv nx go kd a0 a1 a2 a3 c0 c1 c2 c3 eN eF eU w2 (Q6v _) (by omega) I2 ((hE.below K2).raise K2.size) ((hT.below K2).raise K2.size)).mono ?_
 intro e w3 hans
 rw [hR.out] at hans
 obtain ⟨_, _, _, _, _, _, _, _, rfl, NA, -, bq2, hcap⟩ := hans
 clear qp0 qp1 qp2 qp3 qa0 qa1 qa2 qa3 qa4
 have J2 := NA.is
 clear NA
 obtain ⟨s0, t0, rfl, -⟩ := id J2.s
 obtain ⟨s1, t1, rfl, -⟩ := id J2.g
 obtain ⟨s2, t2, rfl, -⟩ := id J2.n
 obtain ⟨s3, t3, rfl, -⟩ := id J2.r
 have F2 := qzg w3 Q09 30 5 (by decide)
 have al2 : Below w3.heap.size w3 Q1v := Below.setCells (Q6v _) _ _ _ ((Q6s _ _).alloc (Q6v _) _)
 have KK : Below Q78 w2 Q1v := bq2.trans (al2.mono bq2.size)
 have Rbx : (Q1v).rangeAt w3.heap.size 0 [.int .i64 X.camera, .slice s0 X.slots.length t0, .slice s1 X.guides.length t1, .slice s2 X.nodes.length t2, .slice s3 X.vers.length t3] := Q6u _ _ _ _ F2
 have z2 : Q78 <= w3.heap.size := bq2.size
 have hz4 : w3.heap.size < (Q1v).heap.size := by rw [qzp]; simp
 have K4 := K2.trans (KK.mono K2.size)
 have I4 := (I2.below KK).weaken KK.size
 replace J2 := (J2.below al2).weaken al2.size
 replace Rp := qz0 Rp KK (by omega)
 replace Ra := qz0 Ra KK (by omega)
 go_wp2_with (first | ((refine wpList_store_mid rfl 30 (.tmp 10) (.tmp 41) rfl w3.heap.size 0 #[.int .i64 X.camera, .slice s0 X.slots.length t0, .slice s1 X.guides.length t1, .slice s2 X.nodes.length t2, .slice s3 X.vers.length t3] ?sx2 ?sy2 ?st2 qz15 (by simp [Value.oneCell']) ?_); all_goals (have tk2 : True := trivial)) | (clear tk2; refine qz2j _ ?_))
 try (case sx2 => rfl)
 try (case sy2 => rfl)
 try (case st2 => exact F2)
 clear KK I2 bq2 al2 K2 F2
 generalize Q1v = w4 at *
 have gbx : ba < w3.heap.size := by omega
 clear z2 hz2
 generalize w3.heap.size = bx at *
 show wpList _ _ _ _ _ w4
 have qp0 : w4.cell? ⟨bp, 0, none⟩ = some (.int .i64 x) := by simpa using Rp 0 _ rfl
 have qp1 : w4.cell? ⟨bp, 1, none⟩ = some (.int .i64 y) := by simpa using Rp 1 _ rfl
 have qp2 : w4.cell? ⟨bp, 2, none⟩ = some (.int .i64 z) := by simpa using Rp 2 _ rfl
 have qp3 : w4.cell? ⟨bp, 3, none⟩ = some (.int .i64 u) := by simpa using Rp 3 _ rfl
 have qa0 : w4.cell? ⟨ba, 0, none⟩ = some (.int .i64 Q6w) := by simpa using Ra 0 _ rfl
 have qa1 : w4.cell? ⟨ba, 1, none⟩ = some Q0x := by simpa using Ra 1 _ rfl
 have qa2 : w4.cell? ⟨ba, 2, none⟩ = some Q0w := by simpa using Ra 2 _ rfl
 have qa3 : w4.cell? ⟨ba, 3, none⟩ = some Q0t := by simpa using Ra 3 _ rfl
 have qa4 : w4.cell? ⟨ba, 4, none⟩ = some Q11 := by simpa using Ra 4 _ rfl
 go_wp2_with fail
 refine (qz6o w4.heap.size A x y z u ni vv nx go kd a0 a1 a2 a3 c0 c1 c2 c3 w4 (Q6v _) (by omega) I4).mono ?_
 intro e w5 hans
 rw [hR.out] at hans
 obtain ⟨_, _, _, _, rfl, OA, bq4⟩ := hans
 clear qp0 qp1 qp2 qp3 qa0 qa1 qa2 qa3 qa4
 have J4 := OA.is
 clear OA
 obtain ⟨f0, e0, rfl, -⟩ := id J4.s
 obtain ⟨f1, e1, rfl, -⟩ := id J4.g
 obtain ⟨f2, e2, rfl, -⟩ := id J4.n
 obtain ⟨f3, e3, rfl, -⟩ := id J4.r
 have F4 := qzg w5 Q09 30 5 (by decide)
 have al4 : Below Q7i w5 Q1u := Below.setCells (Q6v _) _ _ _ ((Q6s _ _).alloc (Q6v _) _)
 have KK : Below w4.heap.size w4 Q1u := bq4.trans (al4.mono bq4.size)
 have Rbz : (Q1u).rangeAt Q7i 0 [.int .i64 X.camera, .slice f0 X.slots.length e0, .slice f1 X.guides.length e1, .slice f2 X.nodes.length e2, .slice f3 X.vers.length e3] := Q6u _ _ _ _ F4
 have z4 : w4.heap.size <= Q7i := bq4.size
 have hz6 : Q7i < (Q1u).heap.size := by rw [qzp]; simp
 have K6 := K4.trans (KK.mono K4.size)
 have I6 := (I4.below KK).weaken KK.size
 replace J4 := (J4.below al4).weaken al4.size
 replace Rp := qz0 Rp KK (by omega)
 replace Ra := qz0 Ra KK (by omega)
 replace Rbx := qz0 Rbx KK (by omega)
 replace J2 := (J2.below KK).weaken KK.size
 go_wp2_with (first | ((refine wpList_store_mid rfl 30 (.tmp 12) (.tmp 52) rfl w5.heap.size 0 #[.int .i64 X.camera, .slice f0 X.slots.length e0, .slice f1 X.guides.length e1, .slice f2 X.nodes.length e2, .slice f3 X.vers.length e3] ?sx4 ?sy4 ?st4 qz15 (by simp [Value.oneCell']) ?_); all_goals (have tk4 : True := trivial)) | (clear tk4; refine qz2j _ ?_))
 try (case sx4 => rfl)
 try (case sy4 => rfl)
 try (case st4 => exact F4)
 clear KK I4 bq4 al4 K4 F4
 generalize Q1u = w6 at *
 have gbz : bx < Q7i := by omega
 clear z4 hz4
 generalize Q7i = bz at *
 show wpList _ _ _ _ _ w6
 have o6 : bp < w6.heap.size /\ ba < w6.heap.size /\ bx < w6.heap.size /\ bz < w6.heap.size := by omega
 have qx0 : w6.cell? ⟨bx, 0, none⟩ = some (.int .i64 X.camera) := by simpa using Rbx 0 _ rfl
 have qx1 : w6.cell? ⟨bx, 1, none⟩ = some (.slice s0 X.slots.length t0) := by simpa using Rbx 1 _ rfl
 have qx2 : w6.cell? ⟨bx, 2, none⟩ = some (.slice s1 X.guides.length t1) := by simpa using Rbx 2 _ rfl
 have qx3 : w6.cell? ⟨bx, 3, none⟩ = some Q5b := by simpa using Rbx 3 _ rfl
 have qx4 : w6.cell? ⟨bx, 4, none⟩ = some (.slice s3 X.vers.length t3) := by simpa using Rbx 4 _ rfl
 have qy0 : w6.cell? ⟨bz, 0, none⟩ = some (.int .i64 X.camera) := by simpa using Rbz 0 _ rfl
 have qy1 : w6.cell? ⟨bz, 1, none⟩ = some (.slice f0 X.slots.length e0) := by simpa using Rbz 1 _ rfl
 have qy2 : w6.cell? ⟨bz, 2, none⟩ = some (.slice f1 X.guides.length e1) := by simpa using Rbz 2 _ rfl
 have qy3 : w6.cell? ⟨bz, 3, none⟩ = some (.slice f2 X.nodes.length e2) := by simpa using Rbz 3 _ rfl
 have qy4 : w6.cell? ⟨bz, 4, none⟩ = some (.slice f3 X.vers.length e3) := by simpa using Rbz 4 _ rfl
 have ff : (m != m) = false := by simp
 go_wp2_with fail
 refine (qz4y w6.heap.size X _ _ _ _ _ _ _ _ w6 (Q6v _) hXs J2 J4).mono ?_
 rintro e w7 ⟨rfl, b6⟩
 clear qx0 qx1 qx2 qx3 qx4 qy0 qy1 qy2 qy3 qy4
 clear ff J4 Rbz
 replace Rp := qz0 Rp b6 (by omega)
 replace Ra := qz0 Ra b6 (by omega)
 replace Rbx := qz0 Rbx b6 (by omega)
 have I7 := (I6.below b6).weaken b6.size
 have K7 := K6.trans (b6.mono K6.size)
 replace J2 := (J2.below b6).weaken b6.size
 have hz7 := b6.size
 clear I6 K6 b6
 replace o6 : bp < w7.heap.size /\ ba < w7.heap.size /\ bx < w7.heap.size := by omega
 have qp0 : w7.cell? ⟨bp, 0, none⟩ = some (.int .i64 x) := by simpa using Rp 0 _ rfl
 have qp1 : w7.cell? ⟨bp, 1, none⟩ = some (.int .i64 y) := by simpa using Rp 1 _ rfl
 have qp2 : w7.cell? ⟨bp, 2, none⟩ = some (.int .i64 z) := by simpa using Rp 2 _ rfl
 have qp3 : w7.cell? ⟨bp, 3, none⟩ = some (.int .i64 u) := by simpa using Rp 3 _ rfl
 have qa0 : w7.cell? ⟨ba, 0, none⟩ = some (.int .i64 Q6w) := by simpa using Ra 0 _ rfl
 have qa1 : w7.cell? ⟨ba, 1, none⟩ = some Q0x := by simpa using Ra 1 _ rfl
 have qa2 : w7.cell? ⟨ba, 2, none⟩ = some Q0w := by simpa using Ra 2 _ rfl
 have qa3 : w7.cell? ⟨ba, 3, none⟩ = some Q0t := by simpa using Ra 3 _ rfl
 have qa4 : w7.cell? ⟨ba, 4, none⟩ = some Q11 := by simpa using Ra 4 _ rfl
 go_wp2_with fail
 refine (qzdk w7.heap.size A x y z u a0 a1 a2 a3 c0 c1 c2 c3 w7 (Q6v _) (by omega) I7).mono ?_
 rintro e w8 ⟨rfl, b7⟩
 clear qp0 qp1 qp2 qp3 qa0 qa1 qa2 qa3 qa4
 replace Rp := qz0 Rp b7 (by omega)
 replace Ra := qz0 Ra b7 (by omega)
 replace Rbx := qz0 Rbx b7 (by omega)
 have I8 := (I7.below b7).weaken b7.size
 have K8 := K7.trans (b7.mono K7.size)
 replace J2 := (J2.below b7).weaken b7.size
 have hz8 := b7.size
 clear I7 K7 b7
 replace o6 : bp < w8.heap.size /\ ba < w8.heap.size /\ bx < w8.heap.size := by omega
 have qp0 : w8.cell? ⟨bp, 0, none⟩ = some (.int .i64 x) := by simpa using Rp 0 _ rfl
 have qp1 : w8.cell? ⟨bp, 1, none⟩ = some (.int .i64 y) := by simpa using Rp 1 _ rfl
 have qp2 : w8.cell? ⟨bp, 2, none⟩ = some (.int .i64 z) := by simpa using Rp 2 _ rfl
 have qp3 : w8.cell? ⟨bp, 3, none⟩ = some (.int .i64 u) := by simpa using Rp 3 _ rfl
 have qa0 : w8.cell? ⟨ba, 0, none⟩ = some (.int .i64 Q6w) := by simpa using Ra 0 _ rfl
 have qa1 : w8.cell? ⟨ba, 1, none⟩ = some Q0x := by simpa using Ra 1 _ rfl
 have qa2 : w8.cell? ⟨ba, 2, none⟩ = some Q0w := by simpa using Ra 2 _ rfl
 have qa3 : w8.cell? ⟨ba, 3, none⟩ = some Q0t := by simpa using Ra 3 _ rfl
 have qa4 : w8.cell? ⟨ba, 4, none⟩ = some Q11 := by simpa using Ra 4 _ rfl
 go_wp2_with fail
 refine (qz8o w8.heap.size A x y z u a0 a1 a2 a3 c0 c1 c2 c3 w8 (Q6v _) (by omega) I8).mono ?_
 rintro e w9 ⟨rfl, b8⟩
 clear qp0 qp1 qp2 qp3 qa0 qa1 qa2 qa3 qa4
 replace Rp := qz0 Rp b8 (by omega)
 replace Ra := qz0 Ra b8 (by omega)
 replace Rbx := qz0 Rbx b8 (by omega)
 have I9 := (I8.below b8).weaken b8.size
 have K9 := K8.trans (b8.mono K8.size)
 replace J2 := (J2.below b8).weaken b8.size
 have hz9 := b8.size
 clear I8 K8 b8
 replace o6 : bp < w9.heap.size /\ ba < w9.heap.size /\ bx < w9.heap.size := by omega
 have hroom : (qz10 x y z u A = true -> (Q6r : Int) < z -> 0 < qzcn x y z u A) := fun h1 h2 => by unfold qzcn; rw [if_pos h1]; omega
 generalize qzdu x y z u A = rN at *
 generalize qzcn x y z u A = rV at *
 have ff1 : (rN != rN) = false := by simp
 have ff2 : (rV != rV) = false := by simp
 have said := qze6 x y z u A ni vv nx go kd hR.out
 clear hR
 rcases said with ⟨hm, hx⟩ | ⟨k, hk, rfl, hok, hz, hh, rfl, hX⟩
 ·skip
  have qp0 : w9.cell? ⟨bp, 0, none⟩ = some (.int .i64 x) := by simpa using Rp 0 _ rfl
  have qp1 : w9.cell? ⟨bp, 1, none⟩ = some (.int .i64 y) := by simpa using Rp 1 _ rfl
  have qp2 : w9.cell? ⟨bp, 2, none⟩ = some (.int .i64 z) := by simpa using Rp 2 _ rfl
  have qp3 : w9.cell? ⟨bp, 3, none⟩ = some (.int .i64 u) := by simpa using Rp 3 _ rfl
  have qa0 : w9.cell? ⟨ba, 0, none⟩ = some (.int .i64 Q6w) := by simpa using Ra 0 _ rfl
  have qa1 : w9.cell? ⟨ba, 1, none⟩ = some Q0x := by simpa using Ra 1 _ rfl
  have qa2 : w9.cell? ⟨ba, 2, none⟩ = some Q0w := by simpa using Ra 2 _ rfl
  have qa3 : w9.cell? ⟨ba, 3, none⟩ = some Q0t := by simpa using Ra 3 _ rfl
  have qa4 : w9.cell? ⟨ba, 4, none⟩ = some Q11 := by simpa using Ra 4 _ rfl
  go_wp2_with fail
  refine (qz35 w9.heap.size A x y z u a0 a1 a2 a3 c0 c1 c2 c3 w9 (Q6v _) (by omega) I9).mono ?_
  rintro e w10 ⟨rfl, b9⟩
  clear qp0 qp1 qp2 qp3 qa0 qa1 qa2 qa3 qa4
  replace Ra := qz0 Ra b9 (by omega)
  replace Rbx := qz0 Rbx b9 (by omega)
  have I10 := (I9.below b9).weaken b9.size
  have K10 := K9.trans (b9.mono K9.size)
  replace J2 := (J2.below b9).weaken b9.size
  have hz10 := b9.size
  clear I9 K9 b9
  have hn3 : w10.cell? ⟨ba, 3, none⟩ = some Q0t := by simpa using Ra 3 _ rfl
  by_cases hok : qz10 x y z u A = true
  case neg =>
   have hok' : qz10 x y z u A = false := by simpa using hok
   rw [hok']
   go_wp2
   go_ret
   exact ⟨rfl, K10⟩
  rw [hok]
  by_cases h0 : ni < 0
  ·go_wp2
   go_ret
   exact ⟨rfl, K10⟩
  by_cases h1 : (Q6q : Int) <= ni
  ·go_wp2
   go_ret
   exact ⟨rfl, K10⟩
  have hXA : X = A := by
   rcases hx with h | h
   ·exfalso
    have : hasB x y z u A ni = true := by
     unfold hasB
     rw [hok]
     simp only [Bool.true_and, qz13]
     omega
    rw [this] at h
    cases h
   ·exact h
  subst hXA
  clear hn3
  have qx0 : w10.cell? ⟨bx, 0, none⟩ = some (.int .i64 X.camera) := by simpa using Rbx 0 _ rfl
  have qx1 : w10.cell? ⟨bx, 1, none⟩ = some (.slice s0 X.slots.length t0) := by simpa using Rbx 1 _ rfl
  have qx2 : w10.cell? ⟨bx, 2, none⟩ = some (.slice s1 X.guides.length t1) := by simpa using Rbx 2 _ rfl
  have qx3 : w10.cell? ⟨bx, 3, none⟩ = some Q5b := by simpa using Rbx 3 _ rfl
  have qx4 : w10.cell? ⟨bx, 4, none⟩ = some (.slice s3 X.vers.length t3) := by simpa using Rbx 4 _ rfl
  have qa0 : w10.cell? ⟨ba, 0, none⟩ = some (.int .i64 X.camera) := by simpa using Ra 0 _ rfl
  have qa1 : w10.cell? ⟨ba, 1, none⟩ = some (.slice a0 X.slots.length c0) := by simpa using Ra 1 _ rfl
  have qa2 : w10.cell? ⟨ba, 2, none⟩ = some (.slice a1 X.guides.length c1) := by simpa using Ra 2 _ rfl
  have qa3 : w10.cell? ⟨ba, 3, none⟩ = some (.slice a2 X.nodes.length c2) := by simpa using Ra 3 _ rfl
  have qa4 : w10.cell? ⟨ba, 4, none⟩ = some (.slice a3 X.vers.length c3) := by simpa using Ra 4 _ rfl
  go_wp2_with fail
  refine (qz4y w10.heap.size X _ _ _ _ _ _ _ _ w10 (Q6v _) hXs J2 I10).mono ?_
  rintro e w11 ⟨rfl, bq⟩
  clear qx0 qx1 qx2 qx3 qx4 qa0 qa1 qa2 qa3 qa4
  go_wp2_with fail
  go_ret
  exact ⟨rfl, K10.trans (bq.mono K10.size)⟩
 have hXX : Hid (X.vers = A.vers ++ [⟨nx, go, -1, vv, kd⟩] /\ X.nodes = A.nodes.set k { A.nodes[k] with head := (Q6r : Int) } /\ X.camera = Q6w /\ X.slots = A.slots /\ X.guides = A.guides) := by rw [hX]; exact ⟨rfl, rfl, rfl, rfl, rfl⟩
 have hXl : Q6r < X.vers.length := by rw [hX]; simp
 have hXs2 : X.nodes.length <= 60 := by rw [hX]; simp; omega
 have hrV := hroom hok hz
 have hcp : X.vers.length <= t3 := hcap _ _ _ rfl
 clear hX hroom
 obtain ⟨rb, ro, er, hrb, RR⟩ := qzu.at J2.r (by omega)
 cases er
 have E := qzi (f := vrC) (sz := 5) (fun _ => rfl) RR Q6r (by omega)
 have hV : X.vers[Q6r]'(by omega) = ⟨nx, go, -1, vv, kd⟩ := by simp [hXX.out.1]
 rw [hV] at E
 clear hV
 have hn0 : ¬ ((Q6r : Int) < 0) := by omega
 have hn1 : (Q6r : Int) < (X.vers.length : Int) := by omega
 have hn2 : (0 : Int) <= (Q6r : Int) := by omega
 have qx4 : w9.cell? ⟨bx, 4, none⟩ = some Q5f := by simpa using Rbx 4 _ rfl
 obtain ⟨VV, hVV⟩ : ∃ q : Vr, Hid (q = ⟨nx, go, -1, vv, kd⟩) := ⟨_, rfl⟩
 rw [<- hVV.out] at E
 go_upto_region 14 with fail
 have F9 := qzg w9 Q1p 40 5 (by decide)
 have al9 : Below w9.heap.size w9 Q4i := Below.setCells (Q6v _) _ _ _ ((Q6s _ _).alloc (Q6v _) _)
 have Rv : (Q4i).rangeAt w9.heap.size 0 (vrC VV) := Q6u _ _ _ _ F9
 have Tbv := Q7f F9 w9.heap.size 0 (vrC VV)
 have hz10 : w9.heap.size < (Q4i).heap.size := by rw [qzp]; simp
 go_wp2_with (first | (refine wpList_load_mid rfl 40 (.tmp 108) rfl rb (ro + A.vers.length * 5) ?l1a (vrC VV) _ ?l1b Tryz.underlying40 rfl (qzah VV) ?_) | ((refine wpList_store_mid rfl 40 (.tmp 18) (.tmp 109) rfl w9.heap.size 0 (vrC VV).toArray ?sx9 ?sy9 ?st9 (qzfe VV) (by simp [Value.oneCell', vrC]) ?_); all_goals (have tk9 : True := trivial)) | (clear tk9; refine qz2j _ ?_))
 try (case l1a => rfl)
 try (case l1b => exact E)
 try (case sx9 => rfl)
 try (case sy9 => rfl)
 try (case st9 => exact F9)
 replace Ra := qz0 Ra al9 (by omega)
 replace Rbx := qz0 Rbx al9 (by omega)
 replace RR := qz0 RR al9 (by omega)
 have I10 := (I9.below al9).weaken al9.size
 have K10 := K9.trans (al9.mono K9.size)
 replace J2 := (J2.below al9).weaken al9.size
 have zz9 : w9.heap.size < (Q4i).heap.size := hz10
 clear F9 al9 I9 K9 hz10
 generalize Q4i = w10 at *
 generalize w9.heap.size = bv at *
 show wpList _ _ _ _ _ w10
 have o7 : rb < w10.heap.size /\ bv < w10.heap.size /\ ba < w10.heap.size /\ bx < w10.heap.size := by omega
 have qx0 : w10.cell? ⟨bx, 0, none⟩ = some (.int .i64 X.camera) := by simpa using Rbx 0 _ rfl
 have qx1 : w10.cell? ⟨bx, 1, none⟩ = some (.slice s0 X.slots.length t0) := by simpa using Rbx 1 _ rfl
 have qx2 : w10.cell? ⟨bx, 2, none⟩ = some (.slice s1 X.guides.length t1) := by simpa using Rbx 2 _ rfl
 have qx3 : w10.cell? ⟨bx, 3, none⟩ = some Q5b := by simpa using Rbx 3 _ rfl
 have qx4 : w10.cell? ⟨bx, 4, none⟩ = some Q5f := by simpa using Rbx 4 _ rfl
 have hwk := K10.size
 have F10 := qzg w10 Q09 30 5 (by decide)
 have al10 : Below w10.heap.size w10 Q4m := Below.setCells (Q6v _) _ _ _ ((Q6s _ _).alloc (Q6v _) _)
 have Rk : (Q4m).rangeAt w10.heap.size 0 Q1l := Q6u _ _ _ _ F10
 have Tbk := Q7f F10 w10.heap.size 0 Q1l
 have hz11 : w10.heap.size < (Q4m).heap.size := by rw [qzp]; simp
 go_wp2_with (first | ((refine wpList_store_mid rfl 30 (.tmp 19) (.tmp 110) rfl w10.heap.size 0 #[.int .i64 X.camera, .slice s0 X.slots.length t0, .slice s1 X.guides.length t1, .slice s2 X.nodes.length t2, .slice (some ⟨rb, ro, none⟩) X.vers.length t3] ?sx10 ?sy10 ?st10 qz15 (by simp [Value.oneCell', vrC]) ?_); all_goals (have tk10 : True := trivial)) | (clear tk10; refine qz2j _ ?_))
 try (case sx10 => rfl)
 try (case sy10 => rfl)
 try (case st10 => exact F10)
 clear qx0 qx1 qx2 qx3 qx4
 replace Ra := qz0 Ra al10 (by omega)
 replace Rbx := qz0 Rbx al10 (by omega)
 replace RR := qz0 RR al10 (by omega)
 replace Rv := qz0 Rv al10 (by omega)
 have I11 := I10.below al10
 have K11 := K10.trans (al10.mono K10.size)
 replace J2 := J2.below al10
 have zz10 : w10.heap.size < (Q4m).heap.size := hz11
 clear F10 al10 I10 K10 hz11
 generalize Q4m = w11 at *
 generalize w10.heap.size = bk at *
 show wpList _ _ _ _ _ w11
 have o8 : rb < bk /\ bv < bk /\ ba < bk /\ bx < bk := by omega
 have qx4 : w11.cell? ⟨bx, 4, none⟩ = some Q5f := by simpa using Rbx 4 _ rfl
 have qk4 : w11.cell? ⟨bk, 4, none⟩ = some Q5f := by simpa using Rk 4 _ rfl
 have fk4 : w11.frozen? ⟨bk, 4, none⟩ = false := by simpa using (Tbk 4 (by decide)).2
 have htc : (X.vers.length : Nat) <= t3 ∨ True := Or.inr trivial
 have hcq : (Q6r : Int) <= (t3 : Int) := by omega
 have hcr : Q6r <= t3 := by omega
 go_upto_region 17 with fail
 clear qx4 qk4 fk4 htc hn0 hn1 hn2
 have hkX : k < X.nodes.length := by rw [hXX.out.2.1]; simpa using hk
 have BK : Below bk w11 (w11.setCell ⟨bk, 4, none⟩ Q3w) := (Q6s bk w11).setCell (p := ⟨bk, 4, none⟩) (by show bk <= bk; exact Q6v _) _
 have Rk2 := qz3g (p := [.int .i64 X.camera, .slice s0 X.slots.length t0, .slice s1 X.guides.length t1, .slice s2 X.nodes.length t2]) (h := .slice (some ⟨rb, ro, none⟩) X.vers.length t3) (q := []) (b := bk) (o := 0) Rk Q3w
 replace Rk2 : (w11.setCell ⟨bk, 4, none⟩ Q3w).rangeAt bk 0 [.int .i64 X.camera, .slice s0 X.slots.length t0, .slice s1 X.guides.length t1, .slice s2 X.nodes.length t2, .slice (some ⟨rb, ro, none⟩) Q6r t3] := Rk2
 have Tk2 := qz2 Tbk ⟨bk, 4, none⟩ Q3w
 have zz12 := BK.size
 clear Rk Tbk
 generalize w11.setCell ⟨bk, 4, none⟩ Q3w = w12 at *
 obtain ⟨i0, hi, hzr, hsz, hby⟩ := info_parts qz6u
 have O0 := World.ownsRow_lit (base := w12.heap.size) (e := 42) (size := 3) w12 #[] 0 (by simp) (by decide) (by simp)
 have alB := (Q6s w12.heap.size w12).alloc (Q6v _) (.cells #[] 42)
 have S1 := (J2.n.below BK).below (alB.mono (by omega))
 have Rbx12 := qz0 Rbx BK (by omega)
 have qx3 : w12.cell? ⟨bx, 3, none⟩ = some Q5b := by simpa using Rbx12 3 _ rfl
 have qx3a : (w12.alloc (.cells #[] 42)).cell? ⟨bx, 3, none⟩ = some Q5b := (alB.cell (p := ⟨bx, 3, none⟩) (by show bx < _; omega)).trans qx3
 go_wp2_with (at_builtin; refine qz4e rfl _ _ 27 rfl w12.heap.size 42 i0 _ 3 24 Tryz.underlying27 hi hzr hsz hby rfl (by decide) w12.heap.size rfl O0 bk Q5b rfl X.nodes.length (qz8 ndC X.nodes) S1 (by rw [qzz (sz := 3) (fun _ => rfl)]) (qz3m qzd5 X.nodes) (by unfold maxLen; omega) (by omega) (by simp) ?_)
 intro v' w13 hown hgrow _
 obtain ⟨ng, nc, rfl⟩ := qz12 hown (by omega)
 have hng : w12.heap.size <= ng := qz1g hown rfl
 have hnl : ng < w13.heap.size := qz2d hown rfl
 have b12 := alB.grown hgrow (by simp) (fun j e => by cases e; exact Q6v _)
 have Rk3 := qz0 Rk2 b12 (by omega)
 have Tk3 := qz5 Tk2 b12 (by omega)
 replace BK := BK.trans (b12.mono (by omega))
 have qk3 : w13.cell? ⟨bk, 3, none⟩ = some Q5b := by simpa using Rk3 3 _ rfl
 have fk3 : w13.frozen? ⟨bk, 3, none⟩ = false := by simpa using (Tk3 3 (by decide)).2
 clear qx3 qx3a Rbx12 S1 O0 alB hgrow b12 Rk2 Tk2 hi hzr hsz hby
 go_upto_region 18 with fail
 clear qk3 fk3
 have Rk4 := qz3g (p := [.int .i64 X.camera, .slice s0 X.slots.length t0, .slice s1 X.guides.length t1]) (h := .slice s2 X.nodes.length t2) (q := [.slice (some ⟨rb, ro, none⟩) Q6r t3]) (b := bk) (o := 0) Rk3 Q3x
 replace Rk4 : (w13.setCell ⟨bk, 3, none⟩ Q3x).rangeAt bk 0 [.int .i64 X.camera, .slice s0 X.slots.length t0, .slice s1 X.guides.length t1, .slice (some ⟨ng, 0, none⟩) X.nodes.length nc, .slice (some ⟨rb, ro, none⟩) Q6r t3] := Rk4
 have hown4 := qzm hown (qz3r w13 bk 3 Q3x) (fun j e => by have h9 : ng = j := Q6p e; omega)
 have hz14 := (qz3r w13 bk 3 Q3x).size
 replace BK := BK.setCell (p := ⟨bk, 3, none⟩) (by show bk <= bk; exact Q6v _) Q3x
 clear hown Rk3 Tk3
 generalize w13.setCell ⟨bk, 3, none⟩ Q3x = w14 at *
 have qk3 : w14.cell? ⟨bk, 3, none⟩ = some Q3x := by simpa using Rk4 3 _ rfl
 obtain ⟨cn, fn⟩ := qz23 hown4 (k * 3 + 2) (.int .i64 X.nodes[k].head) (by have h := qzy (f := ndC) (sz := 3) (fun _ => rfl) X.nodes k hkX 2 (by decide); exact h)
 have hkX' : (k : Int) < (X.nodes.length : Int) := by omega
 have hk0 : (0 : Int) <= (k : Int) := by omega
 go_upto_region 19 with fail
 clear qk3 cn fn
 have own5 := qz58 hown4 (k * 3 + 2) (by omega) (.int .i64 vv)
 have OO := qz3r w14 ng (k * 3 + 2) (.int .i64 vv)
 have Rk5 := qzh Rk4 OO (by omega) (by omega)
 replace BK := BK.setCell (p := ⟨ng, k * 3 + 2, none⟩) (by show bk <= ng; omega) (.int .i64 vv)
 have hz15 := OO.size
 clear hown4 Rk4 OO
 generalize w14.setCell ⟨ng, k * 3 + 2, none⟩ (.int .i64 vv) = w15 at *
 obtain ⟨e1, e2, e3, e4, e5⟩ := hXX.out
 have e6 : X.nodes.length = Q6q := by rw [e2]; simp
 have hcs : (qz8 ndC X.nodes).set (k * 3 + 2) (.int .i64 vv) = qz8 ndC A.nodes := by
  have h := qz2u (f := ndC) (sz := 3) (fun _ => rfl) X.nodes k hkX 2 (by decide) A.nodes[k] (.int .i64 vv) (by
   have : X.nodes[k] = { A.nodes[k] with head := (Q6r : Int) } := by simp [e2]
   rw [this, <- hh]
   rfl)
  rw [<- h]
  congr 1
  rw [e2, List.set_set, List.set_getElem_self]
 rw [hcs] at own5
 have J5 := J2.below BK
 have RR5 := qz0 RR BK (by omega)
 rw [e1] at RR5
 have RR6 := (qz2f (show w15.rangeAt rb ro (qz8 vrC A.vers ++ vrC ⟨nx, go, -1, vv, kd⟩) by rw [<- qz1p]; exact RR5)).1
 have IB : qz1j w15.heap.size w15 (.slice s0 Q74 t0) (.slice s1 Q75 t1) (.slice (some ⟨ng, 0, none⟩) Q6q nc) Q3w A := by
  refine ⟨?_, ?_, ?_, ?_⟩
  ·have h := J5.s.weaken (B' := w15.heap.size) (by omega)
   rw [e4] at h
   exact h
  ·have h := J5.g.weaken (B' := w15.heap.size) (by omega)
   rw [e5] at h
   exact h
  ·have h := qz2t own5
   rw [e6] at h
   exact h
  ·exact ⟨_, _, rfl, Or.inr ⟨rb, ro, rfl, by omega, RR6⟩⟩
 rw [e3, e4, e5, e6] at Rk5
 have I15 := (I11.below BK).weaken (B' := w15.heap.size) (by omega)
 have Ra5 := qz0 Ra BK (by omega)
 have Rv5 := qz0 Rv BK (by omega)
 rw [hVV.out] at Rv5
 have K15 := K11.trans (BK.mono (by omega))
 obtain ⟨nb, ob, en, hnb, RN⟩ := qzu.at I15.n (by omega)
 cases en
 have EN := qzi (f := ndC) (sz := 3) (fun _ => rfl) RN k hk
 have cn : w15.cell? ⟨nb, ob + k * 3 + 2, none⟩ = some (.int .i64 vv) := by rw [<- hh]; simpa using EN 2 (.int .i64 A.nodes[k].head) rfl
 have hkA : (k : Int) < (Q6q : Int) := by omega
 clear e1 e2 e3 e4 e5 e6 hcs own5 J5 RR5 RR6 RN EN hXX hcap hcp hcq hcr hwk J2 I11 K11 Ra Rbx RR Rv Rp BK hkX' hkX hXl hXs2 hh hVV
 have qv0 : w15.cell? ⟨bv, 0, none⟩ = some (.int .i64 nx) := by simpa using Rv5 0 _ rfl
 have qv1 : w15.cell? ⟨bv, 1, none⟩ = some (.bool go) := by simpa using Rv5 1 _ rfl
 have qv2 : w15.cell? ⟨bv, 2, none⟩ = some (.int .i64 (-1)) := by simpa using Rv5 2 _ rfl
 have qv3 : w15.cell? ⟨bv, 3, none⟩ = some (.int .i64 vv) := by simpa using Rv5 3 _ rfl
 have qv4 : w15.cell? ⟨bv, 4, none⟩ = some (.int .i64 kd) := by simpa using Rv5 4 _ rfl
 have qk0 : w15.cell? ⟨bk, 0, none⟩ = some (.int .i64 Q6w) := by simpa using Rk5 0 _ rfl
 have qk1 : w15.cell? ⟨bk, 1, none⟩ = some (.slice s0 Q74 t0) := by simpa using Rk5 1 _ rfl
 have qk2 : w15.cell? ⟨bk, 2, none⟩ = some (.slice s1 Q75 t1) := by simpa using Rk5 2 _ rfl
 have qk3 : w15.cell? ⟨bk, 3, none⟩ = some (.slice (some ⟨ng, 0, none⟩) Q6q nc) := by simpa using Rk5 3 _ rfl
 have qk4 : w15.cell? ⟨bk, 4, none⟩ = some Q3w := by simpa using Rk5 4 _ rfl
 have qa0 : w15.cell? ⟨ba, 0, none⟩ = some (.int .i64 Q6w) := by simpa using Ra5 0 _ rfl
 have qa1 : w15.cell? ⟨ba, 1, none⟩ = some Q0x := by simpa using Ra5 1 _ rfl
 have qa2 : w15.cell? ⟨ba, 2, none⟩ = some Q0w := by simpa using Ra5 2 _ rfl
 have qa3 : w15.cell? ⟨ba, 3, none⟩ = some (.slice (some ⟨nb, ob, none⟩) Q6q c2) := by simpa using Ra5 3 _ rfl
 have qa4 : w15.cell? ⟨ba, 4, none⟩ = some Q11 := by simpa using Ra5 4 _ rfl
 go_wp2_with fail
 refine (qz4y w15.heap.size A _ _ _ _ _ _ _ _ w15 (Q6v _) (by omega) IB I15).mono ?_
 rintro e w16 ⟨rfl, b15⟩
 clear qv0 qv1 qv2 qv3 qv4 qk0 qk1 qk2 qk3 qk4 qa0 qa1 qa2 qa3 qa4
 go_wp2_with fail
 go_ret
 exact ⟨rfl, K15.trans (b15.mono K15.size)⟩
end
end Go.Proofs.YthjkdnlmopafkaaGreatDoor
