/-
  What the law's proof goes by, part 37.
-/
import Derived.Test.YthjkdnlmopafkaaGreatDoorFnSwappedCard00
import Derived.Test.YthjkdnlmopafkaaGreatDoorFnSwappedCard34
import Derived.Test.YthjkdnlmopafkaaGreatDoorFnSwappedCard35
namespace Go.Proofs.YthjkdnlmopafkaaGreatDoor
open Go.ChangeShapes Go.WideShapes Go.ChangeAt Go.RowKit
set_option maxRecDepth 100000
set_option maxHeartbeats 16000000
set_option linter.unusedVariables false
set_option linter.unusedSimpArgs false
set_option linter.unnecessarySimpa false
set_option linter.unusedSectionVars false
section
attribute [local go_sem ↓] Go.wp_at_zero Go.wp_at_succ
def qzh8 (b : Nat) (a : Option Addr) (len cap : Nat) (L : Nat -> Bool) : Nat -> Value -> World -> Prop
 | 0, v, _ => v = .pointer (some ⟨b, 0, none⟩)
 | 1, v, _ => v = .pointer (some ⟨b, 0, none⟩)
 | 2, v, _ => v = .pointer (some ⟨b, 0, none⟩)
 | 3, v, _ => v = .slice a len cap
 | 4, v, _ => v = .int .i64 (len : Int)
 | 5, v, _ => v = .int .i64 (2 + (len : Int))
 | 6, v, _ => v = .pointer (some ⟨b, 0, none⟩)
 | 7, v, _ => ∃ m : Int, v = .int .i64 m /\ 0 <= m /\ m < 60
 | 8, v, _ => ∃ m : Int, v = .int .i64 m /\ 10 <= m /\ m < 70
 | 9, v, _ => ∃ m : Int, v = .int .i64 m /\ 0 <= m /\ m <= 69
 | _, _, _ => True
theorem qz33 {b : Nat} {a : Option Addr} {len cap : Nat} {L L' : Nat -> Bool} (j : Nat) (v : Value) (w w' : World) (h : qzh8 b a len cap L j v w) : qzh8 b a len cap L' j v w' := by
 match j, h with
 | 0, h | 1, h | 2, h | 3, h | 4, h | 5, h | 6, h | 7, h | 8, h | 9, h => exact h
 | n + 10, h => exact trivial
theorem qzci (B b : Nat) (a : Option Addr) (len cap : Nat) (i h : Int) (w : World) (hB : B <= b) (hlen : len <= 4096) (D : qz1f .i64 w b a len cap i h) (C : qz17 B w a len) :
  Calls Tryz.prog 112 Q58 w fun e w' => ∃ x y z u s g n r hs cs ds ts W, e = .returned (.agg (Q4h).toArray) /\ WInv x y z u W /\ W.now <= 2691 /\ WdIs w'.heap.size w' s g n r hs cs ds ts W /\ (∀ q, qzh6 s g n r hs cs ds ts q -> Q6o <= q) /\ qz1t Q6o w' s g n r W.A /\ (∃ i' h', qz1f .i64 w' b a len cap i' h') /\ qz17 B w' a len /\ Only b w w' := by
 have hbw := D.blk
 have T0 := qzg w Q04 50 14 (by decide)
 have D0 := D.alloc (.cells Q04 50)
 have C0 := C.alloc (by omega) (.cells Q04 50)
 have O0 := (Only.refl b w).alloc (.cells Q04 50)
 have hz0 : (w.alloc (.cells Q04 50)).heap.size = Q6o + 1 := by simp
 go_enter Tryz.func112, Tryz.ntmps112
 go_wp2_with fail
 generalize hw0 : w.alloc (.cells Q04 50) = w0 at *
 clear hw0
 refine (qz9y B b a len cap i h w0 hB hlen D0 C0).mono ?_
 rintro e w1 ⟨x, y, z, u, i1, h1, hp, rfl, D1, C1, O1⟩
 have hpr := (qz2n x y z u).1 hp
 obtain ⟨xN, rfl⟩ : ∃ k : Nat, x = k := ⟨x.toNat, by omega⟩
 obtain ⟨uN, rfl⟩ : ∃ k : Nat, u = k := ⟨u.toNat, by omega⟩
 have T1 := qzj T0 O1 (by omega) (by omega)
 have OO1 := O0.trans O1
 have hz1 := O1.size
 clear D0 C0 O0 T0 D C
 go_wp2_with fail
 refine (qz69 xN uN y z w1 hp).mono ?_
 rintro e w2 ⟨sg, sc, gb, nb, vb, hg, hc, rfl, I2, b2', hlow⟩
 have hlw := hlow.out.1
 have OwN := hlow.out.2
 have hz2 := b2'.size
 have T2 := qz5 T1 b2' (by omega)
 have D2 := D1.below b2'
 have C2 := C1.below (b2'.mono (by have := D1.blk; omega))
 have OO2 := OO1.trans (Only.of_below b2')
 have VI := qzfp xN uN y z hp
 have hset : (w2.alloc (.cells Q04 50)).setCells Q78 0 (#[.int .i64 (xN : Int), .int .i64 y, .int .i64 z, .int .i64 (uN : Int), .int .i64 0, .slice (some ⟨sg, 0, none⟩) xN sc, .slice (some ⟨gb, 0, none⟩) uN uN, .slice (some ⟨nb, 0, none⟩) 1 1, .slice (some ⟨vb, 0, none⟩) 1 1, .slice (some ⟨hg, 0, none⟩) xN hc, .slice none 0 0, .slice none 0 0, .slice none 0 0, .int .i64 0] : Array Value).toList = w2.alloc (.cells #[.int .i64 (xN : Int), .int .i64 y, .int .i64 z, .int .i64 (uN : Int), .int .i64 0, .slice (some ⟨sg, 0, none⟩) xN sc, .slice (some ⟨gb, 0, none⟩) uN uN, .slice (some ⟨nb, 0, none⟩) 1 1, .slice (some ⟨vb, 0, none⟩) 1 1, .slice (some ⟨hg, 0, none⟩) xN hc, .slice none 0 0, .slice none 0 0, .slice none 0 0, .int .i64 0] 50) := qz1c w2 50 [.int .i64 (xN : Int), .int .i64 y, .int .i64 z, .int .i64 (uN : Int), .int .i64 0, .slice (some ⟨sg, 0, none⟩) xN sc, .slice (some ⟨gb, 0, none⟩) uN uN, .slice (some ⟨nb, 0, none⟩) 1 1, .slice (some ⟨vb, 0, none⟩) 1 1, .slice (some ⟨hg, 0, none⟩) xN hc, .slice none 0 0, .slice none 0 0, .slice none 0 0, .int .i64 0] [] Q2l rfl
 have FA := qzg w2 Q04 50 14 (by decide)
 have al := (Q6s Q78 w2).alloc (Q6v _) (.cells #[.int .i64 (xN : Int), .int .i64 y, .int .i64 z, .int .i64 (uN : Int), .int .i64 0, .slice (some ⟨sg, 0, none⟩) xN sc, .slice (some ⟨gb, 0, none⟩) uN uN, .slice (some ⟨nb, 0, none⟩) 1 1, .slice (some ⟨vb, 0, none⟩) 1 1, .slice (some ⟨hg, 0, none⟩) xN hc, .slice none 0 0, .slice none 0 0, .slice none 0 0, .int .i64 0] 50)
 have P3 : Play .i64 B b Q6o Q78 w (w2.alloc (.cells #[.int .i64 (xN : Int), .int .i64 y, .int .i64 z, .int .i64 (uN : Int), .int .i64 0, .slice (some ⟨sg, 0, none⟩) xN sc, .slice (some ⟨gb, 0, none⟩) uN uN, .slice (some ⟨nb, 0, none⟩) 1 1, .slice (some ⟨vb, 0, none⟩) 1 1, .slice (some ⟨hg, 0, none⟩) xN hc, .slice none 0 0, .slice none 0 0, .slice none 0 0, .int .i64 0] 50)) a len cap (xN : Int) y z (uN : Int) Q3d Q3e Q3q Q3p Q5g (.slice none 0 0) (.slice none 0 0) (.slice none 0 0) (newW xN uN) := by
  refine ⟨⟨i1, h1, D2.below al⟩, C2.below (al.mono (by have := D2.blk; omega)), qz6 w2 [.int .i64 (xN : Int), .int .i64 y, .int .i64 z, .int .i64 (uN : Int), .int .i64 0, .slice (some ⟨sg, 0, none⟩) xN sc, .slice (some ⟨gb, 0, none⟩) uN uN, .slice (some ⟨nb, 0, none⟩) 1 1, .slice (some ⟨vb, 0, none⟩) 1 1, .slice (some ⟨hg, 0, none⟩) xN hc, .slice none 0 0, .slice none 0 0, .slice none 0 0, .int .i64 0] 50, qzg w2 #[.int .i64 (xN : Int), .int .i64 y, .int .i64 z, .int .i64 (uN : Int), .int .i64 0, .slice (some ⟨sg, 0, none⟩) xN sc, .slice (some ⟨gb, 0, none⟩) uN uN, .slice (some ⟨nb, 0, none⟩) 1 1, .slice (some ⟨vb, 0, none⟩) 1 1, .slice (some ⟨hg, 0, none⟩) xN hc, .slice none 0 0, .slice none 0 0, .slice none 0 0, .int .i64 0] 50 14 (by simp), qz5 T2 al (by omega), (I2.below al).weaken (by simp), fun q e => ?_, OO2.trans (Only.of_below al), Q6v _, by omega, by simp, (OwN.below al).lo (by omega)⟩
  have hq : q < Q78 := by
   have key : ∀ {bb l c : Nat} {cs : List Value} (m : Nat), 0 < m -> qzu Q78 w2 (.slice (some ⟨bb, 0, none⟩) l c) m cs -> bb < Q78 := by
    intro bb l c cs m hm S
    obtain ⟨a', c', e', hh⟩ := S
    cases e'
    rcases hh with hh | ⟨_, _, e'', lt, _⟩
    ·omega
    ·cases e''; exact lt
   have l1 := key _ (by simp [newW, qz24]; omega) I2.ar.s
   have l2 := key _ (by simp [newW, qz24]; omega) I2.ar.g
   have l3 := key _ (by simp [newW, qz24]) I2.ar.n
   have l4 := key _ (by simp [newW, qz24]) I2.ar.r
   have l5 := key _ (by simp [newW]; omega) I2.h
   rcases e with e | e | e | e | e | e | e | e <;> simp [qz3e] at e <;> omega
  rcases e with e | e | e | e | e | e | e | e <;> simp [qz3e] at e <;> omega
 go_upto_region 2 with (refine wpList_store_mid rfl 50 (.tmp 3) (.tmp 15) rfl w2.heap.size 0 #[.int .i64 (xN : Int), .int .i64 y, .int .i64 z, .int .i64 (uN : Int), .int .i64 0, .slice (some ⟨sg, 0, none⟩) xN sc, .slice (some ⟨gb, 0, none⟩) uN uN, .slice (some ⟨nb, 0, none⟩) 1 1, .slice (some ⟨vb, 0, none⟩) 1 1, .slice (some ⟨hg, 0, none⟩) xN hc, .slice none 0 0, .slice none 0 0, .slice none 0 0, .int .i64 0] ?sx ?sy ?st qzn (by simp [Value.oneCell']) ?_; rw [hset])
 try (case sx => rfl)
 try (case sy => rfl)
 try (case st => exact FA)
 clear hset FA al I2 T2 D2 C2 OO2 hlow hlw OwN b2' T1 D1 C1 OO1 O1
 generalize hxx : (xN : Int) = x at *
 generalize huu : (uN : Int) = u at *
 generalize w2.alloc (.cells Q1i 50) = w3 at *
 generalize hb3 : Q78 = b3 at *
 obtain ⟨W, hWn⟩ : ∃ W, Hid (newW xN uN = W) := ⟨_, rfl⟩
 have now0 : (newW xN uN).now = 0 := rfl
 refine qz2z 10 (by kernel_rfl) (fun V => Play .i64 B b Q6o b3 w V a len cap x y z u Q3d Q3e Q3q Q3p Q5g (.slice none 0 0) (.slice none 0 0) (.slice none 0 0) (newW xN uN)) (P3.below hB ⟨rfl, rfl, rfl, Q6v _, fun _ _ => rfl⟩) (qzh8 b a len cap) (by kernel_rfl) (by kernel_rfl) (by kernel_rfl) (by kernel_rfl) (by rfl) ?step ?final
 case step =>
  intro i o hik ho' L aa V hLi hLk P hnn hd K hK
  obtain ⟨ii, hh, DV⟩ := P.dice
  have d0 := DV.c0
  match i, ho' with
  | 0, ho' =>
   obtain rfl := Q6p ho'
   have e0 : aa.eval (.tmp 0) = .pointer (some ⟨b, 0, none⟩) := hnn 0 rfl
   refine qz1 (v := .pointer (some ⟨b, 0, none⟩)) (w' := V) ?_ (hK _ _ rfl P (fun j v' _ _ q => qz33 j v' V V q))
   generalize aa.eval = ev at *
   go_simp
  | 1, ho' =>
   obtain rfl := Q6p ho'
   have e17 : aa.eval (.tmp 17) = .pointer (some ⟨b, 0, none⟩) := (hd ⟨0, .data⟩ (by simp) rfl 17 rfl).2
   refine qz1 (v := .pointer (some ⟨b, 0, none⟩)) (w' := V) ?_ (hK _ _ rfl P (fun j v' _ _ q => qz33 j v' V V q))
   generalize aa.eval = ev at *
   go_simp
  | 2, ho' =>
   obtain rfl := Q6p ho'
   have e18 : aa.eval (.tmp 18) = .pointer (some ⟨b, 0, none⟩) := (hd ⟨1, .data⟩ (by simp) rfl 18 rfl).2
   refine qz1 (v := .pointer (some ⟨b, 0, none⟩)) (w' := V) ?_ (hK _ _ rfl P (fun j v' _ _ q => qz33 j v' V V q))
   generalize aa.eval = ev at *
   go_simp
  | 3, ho' =>
   obtain rfl := Q6p ho'
   have e19 : aa.eval (.tmp 19) = .pointer (some ⟨b, 0, none⟩) := (hd ⟨2, .data⟩ (by simp) rfl 19 rfl).2
   refine qz1 (v := .slice a len cap) (w' := V) ?_ (hK _ _ rfl P (fun j v' _ _ q => qz33 j v' V V q))
   generalize aa.eval = ev at *
   go_simp
  | 4, ho' =>
   obtain rfl := Q6p ho'
   have e20 : aa.eval (.tmp 20) = .slice a len cap := (hd ⟨3, .data⟩ (by simp) rfl 20 rfl).2
   refine qz1 (v := .int .i64 (len : Int)) (w' := V) ?_ (hK _ _ rfl P (fun j v' _ _ q => qz33 j v' V V q))
   generalize aa.eval = ev at *
   go_simp
  | 5, ho' =>
   obtain rfl := Q6p ho'
   have e21 : aa.eval (.tmp 21) = .int .i64 (len : Int) := (hd ⟨4, .data⟩ (by simp) rfl 21 rfl).2
   have ec : aa.eval (.const (.int .i64 2)) = .int .i64 2 := rfl
   refine qz1 (v := .int .i64 (2 + (len : Int))) (w' := V) ?_ (hK _ _ rfl P (fun j v' _ _ q => qz33 j v' V V q))
   generalize aa.eval = ev at *
   go_simp
   rw [IntKind.wrap_i64]; omega
  | 6, ho' =>
   obtain rfl := Q6p ho'
   have e0 : aa.eval (.tmp 0) = .pointer (some ⟨b, 0, none⟩) := hnn 0 rfl
   refine qz1 (v := .pointer (some ⟨b, 0, none⟩)) (w' := V) ?_ (hK _ _ rfl P (fun j v' _ _ q => qz33 j v' V V q))
   generalize aa.eval = ev at *
   go_simp
  | 7, ho' =>
   obtain rfl := Q6p ho'
   have e1 : aa.eval (.tmp 23) = .pointer (some ⟨b, 0, none⟩) := (hd ⟨6, .data⟩ (by simp) rfl 23 rfl).2
   have ec : aa.eval (.const (.int .i64 60)) = .int .i64 60 := rfl
   have ef : aa.eval (.func 31) = .func (.func 31) #[] #[] := rfl
   refine qz19 (f := 31) (args := #[.pointer (some ⟨b, 0, none⟩), .int .i64 60]) (R := fun v w' => ∃ m i' h', v = .int .i64 m /\ 0 <= m /\ m < 60 /\ qz1f .i64 w' b a len cap i' h' /\ qz17 B w' a len /\ Only b V w') ?_ ((qzx B b a len cap ii hh 60 V hB hlen DV P.bytes (by omega) (by omega)).mono (fun e w' h => by obtain ⟨m, i', h', e, r⟩ := h; exact ⟨_, e, m, i', h', rfl, r⟩)) (fun v w' h => by obtain ⟨m, i', h', e, m0, m1, D', C', O'⟩ := h; exact hK v w' ⟨m, e, m0, m1⟩ (P.draw hbw D' C' O') (fun j v' _ _ q => qz33 j v' V w' q))
   generalize aa.eval = ev at *
   go_simp
  | 8, ho' =>
   obtain rfl := Q6p ho'
   obtain ⟨m, e24, m0, m1⟩ := (show ∃ m : Int, aa.eval (.tmp 24) = .int .i64 m /\ 0 <= m /\ m < 60 from (hd ⟨7, .data⟩ (by simp) rfl 24 rfl).2)
   have ec : aa.eval (.const (.int .i64 10)) = .int .i64 10 := rfl
   refine qz1 (v := .int .i64 (10 + m)) (w' := V) ?_ (hK _ _ ⟨10 + m, rfl, by omega, by omega⟩ P (fun j v' _ _ q => qz33 j v' V V q))
   generalize aa.eval = ev at *
   go_simp
   rw [IntKind.wrap_i64]; omega
  | 9, ho' =>
   obtain rfl := Q6p ho'
   have e22 : aa.eval (.tmp 22) = .int .i64 (2 + (len : Int)) := (hd ⟨5, .data⟩ (by simp) rfl 22 rfl).2
   obtain ⟨m, e25, m0, m1⟩ := (show ∃ m : Int, aa.eval (.tmp 25) = .int .i64 m /\ 10 <= m /\ m < 70 from (hd ⟨8, .data⟩ (by simp) rfl 25 rfl).2)
   have ef : aa.eval (.func 101) = .func (.func 101) #[] #[] := rfl
   refine qz19 (f := 101) (args := #[.int .i64 (2 + (len : Int)), .int .i64 m]) (R := fun v w' => v = .int .i64 (min (2 + (len : Int)) m) /\ w' = V) ?_ ((qzbl _ _ V).mono (fun e w' h => ⟨_, h.1, rfl, h.2⟩)) (fun v w' h => by obtain ⟨e, rfl⟩ := h; exact hK v w' ⟨_, e, by omega, by omega⟩ P (fun j v' _ _ q => qz33 j v' w' w' q))
   generalize aa.eval = ev at *
   go_simp
  | n + 10, ho' => omega
 intro L vs V hLall P4 hG
 obtain ⟨n0, g9, n00, n01⟩ := (show ∃ m : Int, vs 9 = .int .i64 m /\ 0 <= m /\ m <= 69 from hG 9 (by decide))
 generalize hl : laid _ vs _ _ _ = A'
 have hA' : A' = { tmps := #[.pointer (some ⟨b, 0, none⟩), undef, .pointer (some ⟨Q6o, 0, none⟩), .pointer (some ⟨b3, 0, none⟩), .bool true, undef, undef, undef, undef, undef, undef, .tuple #[.agg Q1i, .bool true], .pointer (some ⟨b, 0, none⟩), .agg Q06, .tuple #[.agg Q1i, .bool true], .agg Q1i, .bool true, vs 0, vs 1, vs 2, vs 3, vs 4, vs 5, vs 6, vs 7, vs 8, vs 9, undef, undef, undef, undef, undef, undef, undef, undef, undef, undef, undef, undef, undef, undef, undef, undef, undef, undef, undef, undef, undef, undef, undef, undef, undef, undef, undef, undef, undef, undef, undef, undef, undef, undef, undef, undef, undef, undef, undef, undef, undef, undef, undef, undef, undef, undef, undef, undef, undef, undef, undef], defers := [] } := by
  rw [<- hl]
  kernel_rfl
 subst hA'
 rw [g9]
 clear hl hG g9 hLall P3
 go_wp2
 go_loopw [5] (fun i wr => ∃ (nk : Int) (s g n r hs cs ds ts : Value) (W : Wd), i = .int .i64 nk /\ 0 <= nk /\ (nk <= 69 /\ W.now + 39 * nk <= 2691) /\ WInv x y z u W /\ Play .i64 B b Q6o b3 w wr a len cap x y z u s g n r hs cs ds ts W) (fun i _ => (intOf i).toNat)
 case atStart => exact ⟨n0, _, _, _, _, _, _, _, _, newW xN uN, rfl, n00, ⟨n01, by rw [now0]; omega⟩, VI, P4⟩
 case round =>
  obtain ⟨nk, s, g, n, r, hs, cs, ds, ts, W, rfl, nk0, ⟨nk1, hnow⟩, V1, P⟩ := hrel
  have hnw := V1.nw
  by_cases hpos : 0 < nk
  case neg =>
   have hlast : ¬ (0 < nk) := hpos
   obtain ⟨a0, a1, a2, a3, a4, a5, a6, a7, c0, c1, c2, c3, c4, c5, c6, c7, rfl, rfl, rfl, rfl, rfl, rfl, rfl, rfl⟩ := P.slices
   go_wp2_with (first | (refine wpList_load_mid rfl 50 (.tmp 3) rfl b3 0 rfl Q0g _ ?lf Tryz.underlying50 rfl qzn ?_) | (refine wpList_store_mid rfl 50 (.tmp 2) (.tmp 77) rfl w.heap.size 0 (Q0g).toArray ?fx ?fy ?ft qzn (by simp [wdC, Value.oneCell']) ?_))
   try (case lf => exact P.row)
   try (case fx => rfl)
   try (case fy => rfl)
   try (case ft => exact P.rm)
   have hO := qze Q6o Q0g 0 wr
   obtain ⟨ii, hh, DV⟩ := P.dice
   refine bodyPost_ret (v := .agg (Q0g).toArray) ?_ rfl ⟨x, y, z, u, _, _, _, _, _, _, _, _, W, rfl, V1, by omega, (P.is.far hO (Q6v _) (fun q e => (P.far q e).2.1)).weaken hO.size, fun q e => (P.far q e).1, P.own.farN hO (fun q e => (P.far q (e.elim Or.inl (fun e => Or.inr (e.elim Or.inl (fun e => Or.inr (e.elim Or.inl (fun e => Or.inr (Or.inl e)))))))).2.1), ⟨ii, hh, DV.only hO (by omega)⟩, P.bytes.below (hO.below (by omega) (by have := DV.blk; omega)), qz5v P.only hO (by omega)⟩
   exact qz3 Tryz.results112 _ _ Q6o 0 rfl Q0g _ (Q6u _ _ _ _ P.rm) Q7e rfl qzn
  have hxr := V1.plan.1
  have y0 : wr.cell? ⟨b3, 0, none⟩ = some (.int .i64 x) := P.cell 0 rfl
  obtain ⟨ii, hh, DV⟩ := P.dice
  go_wp2_with fail
  refine (qzx B b a len cap ii hh x wr hB hlen DV P.bytes (by omega) (by omega)).mono ?_
  rintro e wk ⟨kI, i4, h4, rfl, k0, k1, D4, C4, O4⟩
  have Pk := P.draw hbw D4 C4 O4
  clear y0 DV D4 C4 O4 P
  obtain ⟨k, rfl⟩ : ∃ k : Nat, kI = k := ⟨kI.toNat, by omega⟩
  have hkl : k < Q76 := by have := V1.hl; omega
  obtain ⟨a0, a1, a2, a3, a4, a5, a6, a7, c0, c1, c2, c3, c4, c5, c6, c7, rfl, rfl, rfl, rfl, rfl, rfl, rfl, rfl⟩ := Pk.slices
  obtain ⟨hb, ho, rfl, hbl, Rh⟩ := qzu.at Pk.is.h (by omega)
  have Eh := qzi (f := hdC) (sz := 22) (fun _ => rfl) Rh k hkl
  have y9 : wk.cell? ⟨b3, 9, none⟩ = some Q6m := Pk.cell 9 rfl
  have e0 : wk.cell? ⟨hb, ho + k * 22, none⟩ = some (.int .i64 W.hands[k].at_) := by have := Eh 0 (.int .i64 W.hands[k].at_) rfl; simpa using this
  have hk1 : (k : Int) < (Q76 : Int) := by omega
  have hk0 : (0 : Int) <= (k : Int) := by omega
  clear Rh
  obtain ⟨hd, hhd⟩ : ∃ hd, Hid (W.hands[k] = hd) := ⟨W.hands[k], (rfl : W.hands[k] = W.hands[k])⟩
  rw [hhd.out] at Eh e0
  by_cases hat : hd.at_ = 0
  ·rw [hat] at e0
   go_wp2_with (refine Q6z rfl 56 (.tmp 48) rfl hb (ho + k * 22) rfl (hdC hd) _ ?lh Q6x rfl (qz4 hd) ?_)
   try (case lh => exact Eh)
   obtain ⟨i5, h5, D5⟩ := Pk.dice
   refine (qz96 B b a len cap i5 h5 hd wk hB hlen D5 Pk.bytes).mono ?_
   rintro e wc ⟨qc, qk, qv, i6, h6, rfl, D6, C6, O6⟩
   have Pc := Pk.draw hbw D6 C6 O6
   clear y9 e0 Eh D5 D6 C6 O6 Pk
   go_wp2_with (refine Q6z rfl 50 (.tmp 3) rfl b3 0 rfl (wdC x y z u W.A.camera Q4l Q4j Q4k Q4n Q6m Q66 Q65 Q63 W.now) _ ?lw Q7e rfl qzn ?_)
   try (case lw => exact Pc.row)
   refine (qz8n wc.heap.size x y z u W a0 a1 a2 a3 (some ⟨hb, ho, none⟩) a5 a6 a7 c0 c1 c2 c3 c4 c5 c6 c7 k hd qc qk qv wc (Q6v _) V1.small Pc.is (V1.right (by omega)) hkl hhd.out).mono ?_
   rintro e wd ⟨s2, g2, n2, r2, hs2, cs2, ds2, ts2, cd, rfl, Oa, ba⟩
   have V2 := V1.ask hkl qc qk qv
   rw [hhd.out] at V2
   have hn2 := qzft x y z u W k hd qc qk qv
   have hA2 : (askW x y z u W k hd qc qk qv).A = W.A := qzc0 x y z u W k hd qc qk qv
   have Pd := Pc.store hB hbw ba Oa
   have Pt := qz5 Pc.th ba Pc.hi
   rw [<- congrArg Ar.camera hA2]
   generalize askW x y z u W k hd qc qk qv = W2 at *
   clear hA2
   obtain ⟨sa, sc', rfl⟩ := qzf Oa.ar.rs
   obtain ⟨ga, gc', rfl⟩ := qzf Oa.ar.rg
   obtain ⟨na, nc', rfl⟩ := qzf Oa.ar.rn
   obtain ⟨ra, rc', rfl⟩ := qzf Oa.ar.rr
   obtain ⟨ha, hc', rfl⟩ := qzf Oa.h
   obtain ⟨ca, cc', rfl⟩ := qzf Oa.c
   obtain ⟨da, dc', rfl⟩ := qzf Oa.d
   obtain ⟨ta, tc', rfl⟩ := qzf Oa.t
   clear Oa ba Pc
   go_wp2_with (refine wpList_store_mid rfl 50 (.tmp 3) (.tmp 61) rfl b3 0 (Q26).toArray ?sx1 ?sy1 ?st1 qzn (by simp [wdC, Value.oneCell']) ?_)
   try (case sx1 => rfl)
   try (case sy1 => rfl)
   try (case st1 => exact Pt)
   go_roundw
   case rel => exact ⟨nk - 1, _, _, _, _, _, _, _, _, W2, by go_num, by omega, ⟨by omega, by omega⟩, V2, Pd⟩
   case measure => simp [intOf]; omega
  have bat : (hd.at_ == 0) = false := by simp [hat]
  obtain ⟨i5, h5, D5⟩ := Pk.dice
  go_wp2_with fail
  refine (qz2g B b a len cap i5 h5 4 wk hB hlen D5 Pk.bytes (by omega) (by omega)).mono ?_
  rintro e wo ⟨ro, i6, h6, rfl, D6, C6, O6⟩
  have Po := Pk.draw hbw D6 C6 O6
  clear y9 e0 Eh D5 Pk O6 bat hhd hat
  cases ro
  ·go_wp2
   go_loopw [10] (fun i wr => ∃ (sk : Int) (s g n r hs cs ds ts : Value) (W : Wd), i = .int .i64 sk /\ 0 <= sk /\ (sk <= 39 /\ W.now + sk + 39 * (nk - 1) <= 2691) /\ WInv x y z u W /\ Play .i64 B b Q6o b3 w wr a len cap x y z u s g n r hs cs ds ts W) (fun i _ => (intOf i).toNat)
   case atStart => exact ⟨1, _, _, _, _, _, _, _, _, W, rfl, by omega, ⟨by omega, by omega⟩, V1, Po⟩
   case round =>
    clear hnow hnw
    obtain ⟨sk, s, g, n, r, hs, cs, ds, ts, W, rfl, sk0, ⟨sk1, hnow⟩, V1, P⟩ := hrel
    have hnw := V1.nw
    by_cases hsp : 0 < sk
    case neg =>
     have hlast : ¬ (0 < sk) := hsp
     go_wp2
     go_roundw
     case rel => exact ⟨nk - 1, _, _, _, _, _, _, _, _, W, by go_num, by omega, ⟨by omega, by omega⟩, V1, P⟩
     case measure => simp [intOf]; omega
    have hkl : k < Q76 := by have := V1.hl; omega
    obtain ⟨a0, a1, a2, a3, a4, a5, a6, a7, c0, c1, c2, c3, c4, c5, c6, c7, rfl, rfl, rfl, rfl, rfl, rfl, rfl, rfl⟩ := P.slices
    obtain ⟨hd, hhd⟩ : ∃ hd, Hid (W.hands[k] = hd) := ⟨W.hands[k], (rfl : W.hands[k] = W.hands[k])⟩
    go_wp2_with (refine Q6z rfl 50 (.tmp 3) rfl b3 0 rfl Q0g _ ?lw Q7e rfl qzn ?_)
    try (case lw => exact P.row)
    by_cases hat2 : hd.at_ = 0
    ·refine (Q60).mono ?_
     rintro e wd ⟨rfl, ba⟩
     have Pd := P.again hB hbw ba
     have Pt := qz5 P.th ba P.hi
     clear ba P
     go_wp2_with (refine wpList_store_mid rfl 50 (.tmp 3) (.tmp 75) rfl b3 0 (Q0g).toArray ?sx2 ?sy2 ?st2 qzn (by simp [wdC, Value.oneCell']) ?_)
     try (case sx2 => rfl)
     try (case sy2 => rfl)
     try (case st2 => exact Pt)
     go_roundw
     case rel => exact ⟨sk - 1, _, _, _, _, _, _, _, _, W, by go_num, by omega, ⟨by omega, by omega⟩, V1, Pd⟩
     case measure => simp [intOf]; omega
    ·have hf0 := (V1.hp k hkl).f0
     rw [hhd.out] at hf0
     refine (qz86 wr.heap.size x y z u W a0 a1 a2 a3 a4 a5 a6 a7 c0 c1 c2 c3 c4 c5 c6 c7 k hd wr (Q6v _) V1.small P.is hkl hhd.out ((qzbn x y z u W.A).2 V1.ar) (by rw [<- hhd.out]; exact V1.ready hkl) (by omega) (by omega) hnw.1 (by omega)).mono ?_
     rintro e wd ⟨s2, g2, n2, r2, hs2, cs2, ds2, ts2, rfl, Oa, ba⟩
     have V2 := V1.step hkl (by rw [hhd.out]; omega) (by omega)
     rw [hhd.out] at V2
     have Pd := P.store hB hbw ba Oa
     have Pt := qz5 P.th ba P.hi
     have hn2 : (qz98 x y z u W k hd).now = W.now + 1 := rfl
     rw [<- hn2]
     generalize qz98 x y z u W k hd = W2 at *
     obtain ⟨sa, sc', rfl⟩ := qzf Oa.ar.rs
     obtain ⟨ga, gc', rfl⟩ := qzf Oa.ar.rg
     obtain ⟨na, nc', rfl⟩ := qzf Oa.ar.rn
     obtain ⟨ra, rc', rfl⟩ := qzf Oa.ar.rr
     obtain ⟨ha, hc', rfl⟩ := qzf Oa.h
     obtain ⟨ca, cc', rfl⟩ := qzf Oa.c
     obtain ⟨da, dc', rfl⟩ := qzf Oa.d
     obtain ⟨ta, tc', rfl⟩ := qzf Oa.t
     clear Oa ba P
     have hn3 : W2.now <= W.now + 1 := by omega
     clear hn2
     go_wp2_with (refine wpList_store_mid rfl 50 (.tmp 3) (.tmp 75) rfl b3 0 (Q26).toArray ?sx3 ?sy3 ?st3 qzn (by simp [wdC, Value.oneCell']) ?_)
     try (case sx3 => rfl)
     try (case sy3 => rfl)
     try (case st3 => exact Pt)
     go_roundw
     case rel => exact ⟨sk - 1, _, _, _, _, _, _, _, _, W2, by go_num, by omega, ⟨by omega, by omega⟩, V2, Pd⟩
     case measure => simp [intOf]; omega
  ·go_wp2_with fail
   refine (qzx B b a len cap i6 h6 40 wo hB hlen D6 C6 (by omega) (by omega)).mono ?_
   rintro e wq ⟨rq, i7, h7, rfl, rq0, rq1, D7, C7, O7⟩
   have Pq := Po.draw hbw D7 C7 O7
   clear D6 C6 D7 C7 O7 Po
   go_wp2
   go_loopw [10] (fun i wr => ∃ (sk : Int) (s g n r hs cs ds ts : Value) (W : Wd), i = .int .i64 sk /\ 0 <= sk /\ (sk <= 39 /\ W.now + sk + 39 * (nk - 1) <= 2691) /\ WInv x y z u W /\ Play .i64 B b Q6o b3 w wr a len cap x y z u s g n r hs cs ds ts W) (fun i _ => (intOf i).toNat)
   case atStart => exact ⟨rq, _, _, _, _, _, _, _, _, W, rfl, by omega, ⟨by omega, by omega⟩, V1, Pq⟩
   case round =>
    clear hnow hnw
    obtain ⟨sk, s, g, n, r, hs, cs, ds, ts, W, rfl, sk0, ⟨sk1, hnow⟩, V1, P⟩ := hrel
    have hnw := V1.nw
    by_cases hsp : 0 < sk
    case neg =>
     have hlast : ¬ (0 < sk) := hsp
     go_wp2
     go_roundw
     case rel => exact ⟨nk - 1, _, _, _, _, _, _, _, _, W, by go_num, by omega, ⟨by omega, by omega⟩, V1, P⟩
     case measure => simp [intOf]; omega
    have hkl : k < Q76 := by have := V1.hl; omega
    obtain ⟨a0, a1, a2, a3, a4, a5, a6, a7, c0, c1, c2, c3, c4, c5, c6, c7, rfl, rfl, rfl, rfl, rfl, rfl, rfl, rfl⟩ := P.slices
    obtain ⟨hd, hhd⟩ : ∃ hd, Hid (W.hands[k] = hd) := ⟨W.hands[k], (rfl : W.hands[k] = W.hands[k])⟩
    go_wp2_with (refine Q6z rfl 50 (.tmp 3) rfl b3 0 rfl Q0g _ ?lw Q7e rfl qzn ?_)
    try (case lw => exact P.row)
    by_cases hat2 : hd.at_ = 0
    ·refine (Q60).mono ?_
     rintro e wd ⟨rfl, ba⟩
     have Pd := P.again hB hbw ba
     have Pt := qz5 P.th ba P.hi
     clear ba P
     go_wp2_with (refine wpList_store_mid rfl 50 (.tmp 3) (.tmp 75) rfl b3 0 (Q0g).toArray ?sx2 ?sy2 ?st2 qzn (by simp [wdC, Value.oneCell']) ?_)
     try (case sx2 => rfl)
     try (case sy2 => rfl)
     try (case st2 => exact Pt)
     go_roundw
     case rel => exact ⟨sk - 1, _, _, _, _, _, _, _, _, W, by go_num, by omega, ⟨by omega, by omega⟩, V1, Pd⟩
     case measure => simp [intOf]; omega
    ·have hf0 := (V1.hp k hkl).f0
     rw [hhd.out] at hf0
     refine (qz86 wr.heap.size x y z u W a0 a1 a2 a3 a4 a5 a6 a7 c0 c1 c2 c3 c4 c5 c6 c7 k hd wr (Q6v _) V1.small P.is hkl hhd.out ((qzbn x y z u W.A).2 V1.ar) (by rw [<- hhd.out]; exact V1.ready hkl) (by omega) (by omega) hnw.1 (by omega)).mono ?_
     rintro e wd ⟨s2, g2, n2, r2, hs2, cs2, ds2, ts2, rfl, Oa, ba⟩
     have V2 := V1.step hkl (by rw [hhd.out]; omega) (by omega)
     rw [hhd.out] at V2
     have Pd := P.store hB hbw ba Oa
     have Pt := qz5 P.th ba P.hi
     have hn2 : (qz98 x y z u W k hd).now = W.now + 1 := rfl
     rw [<- hn2]
     generalize qz98 x y z u W k hd = W2 at *
     obtain ⟨sa, sc', rfl⟩ := qzf Oa.ar.rs
     obtain ⟨ga, gc', rfl⟩ := qzf Oa.ar.rg
     obtain ⟨na, nc', rfl⟩ := qzf Oa.ar.rn
     obtain ⟨ra, rc', rfl⟩ := qzf Oa.ar.rr
     obtain ⟨ha, hc', rfl⟩ := qzf Oa.h
     obtain ⟨ca, cc', rfl⟩ := qzf Oa.c
     obtain ⟨da, dc', rfl⟩ := qzf Oa.d
     obtain ⟨ta, tc', rfl⟩ := qzf Oa.t
     clear Oa ba P
     have hn3 : W2.now <= W.now + 1 := by omega
     clear hn2
     go_wp2_with (refine wpList_store_mid rfl 50 (.tmp 3) (.tmp 75) rfl b3 0 (Q26).toArray ?sx3 ?sy3 ?st3 qzn (by simp [wdC, Value.oneCell']) ?_)
     try (case sx3 => rfl)
     try (case sy3 => rfl)
     try (case st3 => exact Pt)
     go_roundw
     case rel => exact ⟨sk - 1, _, _, _, _, _, _, _, _, W2, by go_num, by omega, ⟨by omega, by omega⟩, V2, Pd⟩
     case measure => simp [intOf]; omega
end
end Go.Proofs.YthjkdnlmopafkaaGreatDoor
