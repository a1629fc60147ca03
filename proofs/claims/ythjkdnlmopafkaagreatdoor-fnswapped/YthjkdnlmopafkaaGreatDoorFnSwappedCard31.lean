/-
  What the law's proof goes by, part 32.
-/
import Derived.Test.YthjkdnlmopafkaaGreatDoorFnSwappedCard00
import Derived.Test.YthjkdnlmopafkaaGreatDoorFnSwappedCard29
import Derived.Test.YthjkdnlmopafkaaGreatDoorFnSwappedCard30
namespace Go.Proofs.YthjkdnlmopafkaaGreatDoor
open Go.ChangeShapes Go.WideShapes Go.ChangeAt Go.RowKit
set_option maxRecDepth 100000
set_option maxHeartbeats 16000000
set_option linter.unusedVariables false
set_option linter.unusedSimpArgs false
set_option linter.unnecessarySimpa false
set_option linter.unusedSectionVars false
section
attribute [local go_sem ↓] Go.wp_at_zero Go.wp_at_succ
def askW (x y z u : Int) (W : Wd) (k : Nat) (h : Hd) (c q v : Int) : Wd :=
 if qz2y x y z u h c q v ≠ 0 then W else if W.now = 20000 then W else { W with hands := W.hands.set k { qz3a x y z u h c q v with begin := W.now + 1 }, now := W.now + 1 }
def askG (b5 lo : Nat) (x y z u : Int) (hb ho hl hc k : Nat) (h R : Hd) (c q v cd : Int) : Nat -> Value -> World -> Prop
 | 0, e, _ => e = .pointer (some ⟨b5, 0, none⟩)
 | 1, e, _ => e = .agg Q06
 | 2, e, _ => e = .pointer (some ⟨b5, 9, none⟩)
 | 3, e, _ => e = .slice (some ⟨hb, ho, none⟩) hl hc
 | 4, e, _ => e = .int .i64 (k : Int)
 | 5, e, _ => e = .pointer (some ⟨hb, ho + k * 22, none⟩)
 | 6, e, _ => e = .agg (hdC h).toArray
 | 7, e, _ => e = .int .i64 c
 | 8, e, _ => e = .int .i64 q
 | 9, e, _ => e = .int .i64 v
 | 10, e, _ => e = .tuple #[.agg (hdC R).toArray, .int .i64 cd]
 | 11, e, _ => e = .tuple #[.agg (hdC R).toArray, .int .i64 cd]
 | 12, e, _ => e = .agg (hdC R).toArray
 | 13, e, _ => e = .int .i64 cd
 | 14, e, w => ∃ b, e = .pointer (some ⟨b, 0, none⟩) /\ lo <= b /\ b < Q6o /\ w.there b 0 22
 | _, _, _ => True
theorem qzf4 {b5 lo : Nat} {x y z u : Int} {hb ho hl hc k : Nat} {h R : Hd} {c q v cd : Int} (i : Nat) (e : Value) (w w' : World) (hG : askG b5 lo x y z u hb ho hl hc k h R c q v cd i e w) (hb' : Below Q6o w w') : askG b5 lo x y z u hb ho hl hc k h R c q v cd i e w' := by
 match i, hG with
 | 0, g | 1, g | 2, g | 3, g | 4, g | 5, g | 6, g | 7, g | 8, g | 9, g | 10, g | 11, g | 12, g | 13, g => exact g
 | 14, g =>
  obtain ⟨b, e, h1, h2, h3⟩ := g
  exact ⟨b, e, h1, Q72 h2 hb'.size, qz5 h3 hb' h2⟩
 | n + 15, g => exact trivial
theorem qzh {w w' : World} {b c o : Nat} {cs : List Value} (h : w.rangeAt b o cs) (hO : Only c w w') (hb : b < Q6o) (hne : b ≠ c) : w'.rangeAt b o cs :=
 fun j v hv => (hO.cell (p := ⟨b, o + j, none⟩) hb hne).trans (h j v hv)
theorem qzj {w w' : World} {b c o n : Nat} (h : w.there b o n) (hO : Only c w w') (hb : b < Q6o) (hne : b ≠ c) : w'.there b o n :=
 fun j hj => by rw [hO.cell (p := ⟨b, o + j, none⟩) hb hne, hO.frozen (p := ⟨b, o + j, none⟩) hb hne]; exact h j hj
theorem qz8n (B : Nat) (x y z u : Int) (W : Wd) (a0 a1 a2 a3 a4 a5 a6 a7 : Option Addr) (c0 c1 c2 c3 c4 c5 c6 c7 : Nat) (k : Nat) (h : Hd) (c q v : Int) (w : World) (hB : B <= Q6o) (hW : W.size <= 1000000) (I : WdIs B w Q4l Q4j Q4k Q4n Q6k Q66 Q65 Q63 W) (hP : WdP x y z u W) (hk : k < Q76) (hkh : W.hands[k] = h) :
  Calls Tryz.prog 61 #[.agg Q0d, .int .i64 (k : Int), .int .i64 c, .int .i64 q, .int .i64 v] w fun e w' => ∃ s g n r hs cs ds ts cd, e = .returned (.tuple #[.agg (wdC x y z u W.A.camera s g n r hs cs ds ts (askW x y z u W k h c q v).now).toArray, .int .i64 cd]) /\ qza9 Q6o w' s g n r hs cs ds ts (askW x y z u W k h c q v) /\ Below Q6o w w' := by
 have hlen := qz2x hP.ar
 have hx := ((qz2n x y z u).1 hlen.1).1
 have hs0 := (qz1r hP.ar).1
 simp only [qz6r, Bool.and_eq_true, beq_iff_eq, qz13] at hs0
 have hsl0 : 0 < W.A.slots.length := by omega
 clear hs0
 obtain ⟨hb, ho, rfl, hbB, Rh⟩ : ∃ hb ho, a4 = some ⟨hb, ho, none⟩ /\ hb < B /\ w.rangeAt hb ho (qz8 hdC W.hands) := by
  obtain ⟨a', cap', e4, h4⟩ := I.h
  cases e4
  rcases h4 with h4 | ⟨hb, ho, e, h5, h6⟩
  ·omega
  ·exact ⟨hb, ho, e, h5, h6⟩
 have E0 := qzi (f := hdC) (sz := 22) (fun _ => rfl) Rh k hk
 rw [hkh] at E0
 have X0 := Q7b (qz6 w Q0o 50) (.cells Q04 50)
 have F0 := qzg (w.alloc (.cells Q03 50)) Q04 50 14 (by decide)
 have K0 := ((Q6s Q6o w).alloc (Q6v _) (.cells Q03 50)).alloc (by simp) (.cells Q04 50)
 have hz0 : (Q2c).heap.size = Q6o + 2 := by simp
 simp only [World.size_alloc] at F0
 have I0 := I.below (K0.mono hB)
 have E1 := qz0 E0 K0 (Q72 hbB hB)
 clear Rh I E0
 obtain ⟨Rr, hR⟩ : ∃ R, Hid (qz3a x y z u h c q v = R) := ⟨_, rfl⟩
 obtain ⟨cd, hC⟩ : ∃ cd, Hid (qz2y x y z u h c q v = cd) := ⟨_, rfl⟩
 go_enter Tryz.func61, Tryz.ntmps61
 go_wp2_with (refine Q6z rfl 50 (.tmp 5) rfl Q6o 0 rfl Q0o _ ?hc1 Q7e rfl qzn ?_)
 case hc1 => exact X0
 generalize hw0 : (w.alloc (.cells Q03 50)).alloc (.cells Q04 50) = w0 at *
 clear hw0
 refine (qzc1 B x y z u W a0 a1 a2 a3 (some ⟨hb, ho, none⟩) a5 a6 a7 c0 c1 c2 c3 c4 c5 c6 c7 w0 (by omega) hW I0 hP).mono ?_
 rintro e w5 ⟨rfl, b1⟩
 have X5 := qz0 X0 b1 (by omega)
 have F5 := qz5 F0 b1 (by omega)
 have E5 := qz0 E1 b1 (by omega)
 have I5 := I0.below (b1.mono (by omega))
 have KK := K0.trans (b1.mono (by omega))
 have hz5 := b1.size
 clear X0 F0 E1 I0 K0 b1
 have x0 : w5.cell? ⟨Q6o, 0, none⟩ = some (.int .i64 x) := by simpa using X5 0 (.int .i64 x) rfl
 have hin : inB (k : Int) 0 (x - 1) = true := (qz13 _ _ _).2 (by have := hP.hl; omega)
 go_upto_region 3 with (go_at_call 44; refine (qzd _ _ _ _).mono ?_; rintro e w' ⟨rfl, hw⟩; obtain rfl := hw.symm)
 clear x0 hin
 go_wp2_with (refine Q6z rfl 50 (.tmp 5) rfl Q6o 0 rfl Q0o _ ?hc6 Q7e rfl qzn ?_)
 case hc6 => exact X5
 refine (qz7p B x y z u W a0 a1 a2 a3 (some ⟨hb, ho, none⟩) a5 a6 a7 c0 c1 c2 c3 c4 c5 c6 c7 w5 (by omega) (by omega) I5 hsl0 (by omega) (by omega) (by omega)).mono ?_
 rintro e w6 ⟨s6, g6, n6, r6, hs6, cs6, ds6, ts6, rfl, O6, b6⟩
 obtain ⟨sa6, sc6, rfl⟩ := qzf O6.ar.rs
 obtain ⟨ga6, gc6, rfl⟩ := qzf O6.ar.rg
 obtain ⟨na6, nc6, rfl⟩ := qzf O6.ar.rn
 obtain ⟨ra6, rc6, rfl⟩ := qzf O6.ar.rr
 obtain ⟨hg, hcap, rfl⟩ : ∃ hg hcap, hs6 = .slice (some ⟨hg, 0, none⟩) Q76 hcap := by
  rcases O6.h.2 with ⟨rfl, h0⟩ | ⟨g, cap, cur, rfl, _⟩
  ·omega
  ·exact ⟨g, cap, rfl⟩
 obtain ⟨ca, cc, rfl⟩ := qzf O6.c
 obtain ⟨da, dc, rfl⟩ := qzf O6.d
 obtain ⟨ta, tc, rfl⟩ := qzf O6.t
 have hset9 : (w6.alloc (.cells Q04 50)).setCells w6.heap.size 0 (Q0s).toArray.toList = w6.alloc (.cells Q0f 50) := qz1c w6 50 Q0s [] Q2l rfl
 have FA9 := qzg w6 Q04 50 14 (by decide)
 have S7 : Und Q7i w5 (w6.alloc (.cells Q0f 50)) w6.heap.size Q23 Q2y Q37 Q33 W.hands W.calls W.deeds W.ticks Q0k :=
  ⟨qz6 w6 Q0k 50, qzg w6 Q0f 50 14 (by simp), b6.size, by simp, qz1o O6.h ((Q6s _ _).alloc (Q6v _) _), qz1o O6.c ((Q6s _ _).alloc (Q6v _) _), qz1o O6.d ((Q6s _ _).alloc (Q6v _) _), qz1o O6.t ((Q6s _ _).alloc (Q6v _) _),
   fun q e => by have := qz2d O6.h e; omega, fun q e => by have := qz2d O6.c e; omega, fun q e => by have := qz2d O6.d e; omega, fun q e => by have := qz2d O6.t e; omega, b6.alloc b6.size _⟩
 have OA : qz1t Q7i (w6.alloc (.cells Q0f 50)) (.slice sa6 W.A.slots.length sc6) (.slice ga6 W.A.guides.length gc6) (.slice na6 W.A.nodes.length nc6) (.slice ra6 W.A.vers.length rc6) W.A := O6.ar.below ((Q6s _ _).alloc (Q6v _) _)
 have OB : ∀ p, OwnB (.slice sa6 W.A.slots.length sc6) (.slice ga6 W.A.guides.length gc6) (.slice na6 W.A.nodes.length nc6) (.slice ra6 W.A.vers.length rc6) p -> p ≠ w6.heap.size /\ p ≠ hg := fun p hp => by
  have h1 := O6.ar.lt p hp
  refine ⟨by omega, ?_⟩
  rintro rfl
  rcases hp with e | e | e | e
  ·exact qz2b O6.ar.rs O6.h (by decide) p e rfl
  ·exact qz2b O6.ar.rg O6.h (by decide) p e rfl
  ·exact qz2b O6.ar.rn O6.h (by decide) p e rfl
  ·exact qz2b O6.ar.rr O6.h (by decide) p e rfl
 go_upto_region 4 with (refine wpList_store_mid rfl 50 (.tmp 12) (.tmp 29) rfl w6.heap.size 0 _ rfl rfl FA9 qzn (by simp [wdC, Value.oneCell']) ?_; rw [hset9])
 clear hset9 FA9
 have hb9 := b6.size
 generalize w6.alloc (.cells Q0f 50) = w7 at *
 generalize hb9' : w6.heap.size = b9 at *
 clear hb9' O6 b6 I5
 have X7 := qz0 X5 S7.bel (by omega)
 have E7 := qz0 E5 S7.bel (by omega)
 have hz7 := S7.bel.size
 refine qz77 15 13 (by decide) (by kernel_rfl) (askG Q6o w7.heap.size x y z u hb ho Q76 c4 k h Rr c q v cd) (fun _ => false) (by kernel_rfl) (by kernel_rfl) (by kernel_rfl) (by kernel_rfl) (by kernel_rfl) (by rfl) (fun i v' w w' _ hq hb => qzf4 i v' w w' hq hb) (fun _ _ _ _ h => by cases h) ?step1 (fun _ _ _ _ h => h) ?float1 ?final1
 case float1 =>
  intro o ho' a V hd
  obtain rfl := Q6p ho'
  have e1 : a.eval (.tmp 30) = .tuple Q4x := hd ⟨11, .data⟩ (by simp) rfl 30 rfl
  refine ⟨.int .i64 cd, fun w' => ?_, rfl, rfl⟩
  generalize a.eval = ev at *
  go_simp
 case step1 =>
  intro i o hik ho' a V hb' hnn hd K hK
  have XV := qz0 X7 hb' (by omega)
  have EV := qz0 E7 hb' (by omega)
  have hzV := hb'.size
  have x9 : V.cell? ⟨Q6o, 9, none⟩ = some Q6m := by simpa using XV 9 _ rfl
  have hk1 : (k : Int) < (Q76 : Int) := by omega
  have hk0 : (0 : Int) <= (k : Int) := by omega
  match i, ho' with
  | 0, ho' =>
   obtain rfl := Q6p ho'
   have e5 : a.eval (.tmp 5) = .pointer (some ⟨Q6o, 0, none⟩) := hnn 5 rfl
   refine qz1 (v := .pointer (some ⟨Q6o, 0, none⟩)) (w' := V) ?_ (hK _ _ rfl (Q6s _ _) (fun h => by cases h))
   generalize a.eval = ev at *
   go_simp
  | 1, ho' =>
   obtain rfl := Q6p ho'
   exact qz1s 25 (.tmp 31) rfl Q6o 0 (hd ⟨0, .data⟩ (by simp) rfl 31 rfl) Q0n _ (fun j v hv => XV j v (by match j, hv with | 0, h => exact h | 1, h => exact h | 2, h => exact h | 3, h => exact h)) Tryz.underlying25 rfl qz92 (hK _ _ rfl (Q6s _ _) (fun h => by cases h))
  | 2, ho' =>
   obtain rfl := Q6p ho'
   have e5 : a.eval (.tmp 5) = .pointer (some ⟨Q6o, 0, none⟩) := hnn 5 rfl
   refine qz1 (v := .pointer (some ⟨Q6o, 9, none⟩)) (w' := V) ?_ (hK _ _ rfl (Q6s _ _) (fun h => by cases h))
   generalize a.eval = ev at *
   go_simp
  | 3, ho' =>
   obtain rfl := Q6p ho'
   have e33 : a.eval (.tmp 33) = .pointer (some ⟨Q6o, 9, none⟩) := hd ⟨2, .data⟩ (by simp) rfl 33 rfl
   refine qz1 (v := .slice (some ⟨hb, ho, none⟩) Q76 c4) (w' := V) ?_ (hK _ _ rfl (Q6s _ _) (fun h => by cases h))
   generalize a.eval = ev at *
   go_simp
  | 4, ho' =>
   obtain rfl := Q6p ho'
   have e1 : a.eval (.tmp 1) = .int .i64 (k : Int) := hnn 1 rfl
   refine qz1 (v := .int .i64 (k : Int)) (w' := V) ?_ (hK _ _ rfl (Q6s _ _) (fun h => by cases h))
   generalize a.eval = ev at *
   go_simp
  | 5, ho' =>
   obtain rfl := Q6p ho'
   have e34 : a.eval (.tmp 34) = .slice (some ⟨hb, ho, none⟩) Q76 c4 := hd ⟨3, .data⟩ (by simp) rfl 34 rfl
   have e35 : a.eval (.tmp 35) = .int .i64 (k : Int) := hd ⟨4, .data⟩ (by simp) rfl 35 rfl
   refine qz1 (v := .pointer (some ⟨hb, ho + k * 22, none⟩)) (w' := V) ?_ (hK _ _ rfl (Q6s _ _) (fun h => by cases h))
   generalize a.eval = ev at *
   go_simp
  | 6, ho' =>
   obtain rfl := Q6p ho'
   exact qz1s 56 (.tmp 36) rfl hb (ho + k * 22) (hd ⟨5, .data⟩ (by simp) rfl 36 rfl) (hdC h) _ EV Q6x rfl (qz4 h) (hK _ _ rfl (Q6s _ _) (fun h => by cases h))
  | 7, ho' =>
   obtain rfl := Q6p ho'
   have e2 : a.eval (.tmp 2) = .int .i64 c := hnn 2 rfl
   refine qz1 (v := .int .i64 c) (w' := V) ?_ (hK _ _ rfl (Q6s _ _) (fun h => by cases h))
   generalize a.eval = ev at *
   go_simp
  | 8, ho' =>
   obtain rfl := Q6p ho'
   have e3 : a.eval (.tmp 3) = .int .i64 q := hnn 3 rfl
   refine qz1 (v := .int .i64 q) (w' := V) ?_ (hK _ _ rfl (Q6s _ _) (fun h => by cases h))
   generalize a.eval = ev at *
   go_simp
  | 9, ho' =>
   obtain rfl := Q6p ho'
   have e4 : a.eval (.tmp 4) = .int .i64 v := hnn 4 rfl
   refine qz1 (v := .int .i64 v) (w' := V) ?_ (hK _ _ rfl (Q6s _ _) (fun h => by cases h))
   generalize a.eval = ev at *
   go_simp
  | 10, ho' =>
   obtain rfl := Q6p ho'
   have e1 : a.eval (.tmp 32) = .agg Q06 := hd ⟨1, .data⟩ (by simp) rfl 32 rfl
   have e2 : a.eval (.tmp 37) = .agg (hdC h).toArray := hd ⟨6, .data⟩ (by simp) rfl 37 rfl
   have e3 : a.eval (.tmp 38) = .int .i64 c := hd ⟨7, .data⟩ (by simp) rfl 38 rfl
   have e4 : a.eval (.tmp 39) = .int .i64 q := hd ⟨8, .data⟩ (by simp) rfl 39 rfl
   have e5 : a.eval (.tmp 40) = .int .i64 v := hd ⟨9, .data⟩ (by simp) rfl 40 rfl
   have ef : a.eval (.func 110) = .func (.func 110) #[] #[] := rfl
   refine qz19 (f := 110) (args := #[.agg Q06, .agg (hdC h).toArray, .int .i64 c, .int .i64 q, .int .i64 v]) (R := fun e w' => e = .tuple Q4x /\ Below V.heap.size V w') ?_ ((qz8p x y z u h c q v V).mono (fun e w' h => ⟨_, h.1, by rw [hR.out, hC.out], h.2⟩)) (fun e w' h => hK e w' h.1 h.2 (fun h => by cases h))
   generalize a.eval = ev at *
   go_simp
  | 11, ho' =>
   obtain rfl := Q6p ho'
   have e41 : a.eval (.tmp 41) = .tuple Q4x := hd ⟨10, .data⟩ (by simp) rfl 41 rfl
   refine qz1 (v := .tuple Q4x) (w' := V) ?_ (hK _ _ rfl (Q6s _ _) (fun h => by cases h))
   generalize a.eval = ev at *
   go_simp
  | 12, ho' =>
   obtain rfl := Q6p ho'
   have e30 : a.eval (.tmp 30) = .tuple Q4x := hd ⟨11, .data⟩ (by simp) rfl 30 rfl
   refine qz1 (v := .agg (hdC Rr).toArray) (w' := V) ?_ (hK _ _ rfl (Q6s _ _) (fun h => by cases h))
   generalize a.eval = ev at *
   go_simp
  | 13, ho' =>
   obtain rfl := Q6p ho'
   have e30 : a.eval (.tmp 30) = .tuple Q4x := hd ⟨11, .data⟩ (by simp) rfl 30 rfl
   refine qz1 (v := .int .i64 cd) (w' := V) ?_ (hK _ _ rfl (Q6s _ _) (fun h => by cases h))
   generalize a.eval = ev at *
   go_simp
  | 14, ho' =>
   obtain rfl := Q6p ho'
   refine qz1 (v := .pointer (some ⟨V.heap.size, 0, none⟩)) (w' := V.alloc (.cells Q00 56)) ?_ (hK _ _ ⟨_, rfl, hzV, by simp, qzg V Q00 56 22 (by decide)⟩ ((Q6s _ _).alloc (Q6v _) _) (fun h => by cases h))
   generalize a.eval = ev at *
   go_simp
  | n + 15, ho' => omega
 intro vs V hb' hG _
 have g12 : vs 12 = .agg (hdC Rr).toArray := hG 12 (by decide)
 have g13 : vs 13 = .int .i64 cd := hG 13 (by decide)
 obtain ⟨bh, g14, lbh, ubh, Th⟩ := (show ∃ b, vs 14 = .pointer (some ⟨b, 0, none⟩) /\ w7.heap.size <= b /\ b < V.heap.size /\ V.there b 0 22 from hG 14 (by decide))
 generalize hl : laid _ vs _ _ _ = A'
 have hA' : A' = { tmps := #[.agg Q03, .int .i64 (k : Int), .int .i64 c, .int .i64 q, .int .i64 v, .pointer (some ⟨Q6o, 0, none⟩), undef, undef, undef, undef, .pointer (some ⟨Q6o + 1, 0, none⟩), .int .i64 0, .pointer (some ⟨b9, 0, none⟩), vs 14, undef, .agg Q03, .bool true, .bool false, .bool false, .int .i64 (k : Int), .pointer (some ⟨Q6o, 0, none⟩), .pointer (some ⟨Q6o, 0, none⟩), .int .i64 x, .int .i64 (x - 1), .bool true, .bool false, .bool false, undef, .agg Q03, .agg (Q0s).toArray, vs 11, vs 0, vs 1, vs 2, vs 3, vs 4, vs 5, vs 6, vs 7, vs 8, vs 9, vs 10, vs 12, vs 13, undef, undef, undef, undef, undef, undef, undef, undef, undef, undef, undef, undef, undef, undef, undef, undef, undef, undef, undef, undef, undef, undef], defers := [] } := by
  rw [<- hl]
  kernel_rfl
 subst hA'
 rw [g12, g13, g14]
 clear hl hG g12 g13 g14
 have Hb8 := hb'.trans ((qze bh (hdC Rr) 0 V).below lbh hb'.size)
 have Y8 : (V.setCells bh 0 (hdC Rr)).rangeAt bh 0 (hdC Rr) := Q6u V bh 0 (hdC Rr) Th
 have T8 : (V.setCells bh 0 (hdC Rr)).there bh 0 22 := Q7f Th _ _ _
 have hy8 : bh < (V.setCells bh 0 (hdC Rr)).heap.size := Q72 ubh (qze bh (hdC Rr) 0 V).size
 simp only [List.drop_succ_cons, List.drop_zero]
 refine Q6t rfl 56 (.tmp 13) (.tmp 42) rfl bh 0 (hdC Rr).toArray ?sx1 ?sy1 ?st1 (qzc Rr) (qzk Rr) ?_
 case sx1 => rfl
 case sy1 => rfl
 case st1 => exact Th
 rw [List.toList_toArray]
 go_upto_region 5 with fail
 clear hb' Th ubh
 generalize V.setCells bh 0 (hdC Rr) = w8 at *
 have S8 := S7.below Hb8 (Q77 S7.lo (Nat.le_of_lt S7.hi))
 have O8 := OA.below Hb8
 have F8 := qz5 F5 S8.bel (by omega)
 have X8 := qz0 X7 Hb8 (by omega)
 have hlb : b9 < w7.heap.size := S7.hi
 have hfar : ∀ p, (Value.ownBlock Q23 = some p ∨ Value.ownBlock Q2y = some p ∨ Value.ownBlock Q37 = some p ∨ Value.ownBlock Q33 = some p) -> p ≠ bh := by
  rintro p (e | e | e | e)
  ·have := qz2d S7.h e; omega
  ·have := qz2d S7.c e; omega
  ·have := qz2d S7.d e; omega
  ·have := qz2d S7.t e; omega
 have hfarA : ∀ p, OwnB (.slice sa6 W.A.slots.length sc6) (.slice ga6 W.A.guides.length gc6) (.slice na6 W.A.nodes.length nc6) (.slice ra6 W.A.vers.length rc6) p -> p ≠ bh := fun p hp => by have := OA.lt p hp; omega
 have F11' : ∀ wq, Below Q7i w5 wq -> wq.there (Q6o + 1) 0 14 := fun wq hq => qz5 F5 hq (by omega)
 clear S7 OA F5 X5 X7 E5 E7 Hb8
 by_cases e0 : cd = 0
 case neg =>
  have b0 : (cd != 0) = true := by simp [e0]
  have e0' : Hid (cd ≠ 0) := e0
  clear e0
  go_upto_region 6 with fail
  have RR := S8.row
  go_wp2_with (first | (refine wpList_load_mid rfl 50 (.tmp 12) rfl b9 0 rfl Q0k _ ?lfa Tryz.underlying50 rfl qzn ?_) | (refine wpList_store_mid rfl 50 (.tmp 10) (.tmp 46) rfl (w.heap.size + 1) 0 Q0f ?fxa ?fya ?fta qzn (by simp [Value.oneCell']) ?_))
  try (case lfa => exact RR)
  try (case fxa => rfl)
  try (case fya => rfl)
  try (case fta => exact F8)
  have hSW : askW x y z u W k h c q v = W := by
   unfold askW
   rw [hC.out, if_pos e0'.out]
  rw [hSW]
  refine bodyPost_ret (v := .tuple #[.agg Q0f, .int .i64 cd]) ?_ rfl ⟨.slice sa6 W.A.slots.length sc6, .slice ga6 W.A.guides.length gc6, .slice na6 W.A.nodes.length nc6, .slice ra6 W.A.vers.length rc6, .slice (some ⟨hg, 0, none⟩) Q76 hcap, .slice ca Q79 cc, .slice da Q7c dc, .slice ta Q7a tc, cd, rfl, ?_, ?_⟩
  ·exact qzl Tryz.results61 _ _ (Q6o + 1) 0 rfl Q0k _ (Q6u _ _ _ _ F8) Q7e rfl qzn
  ·have hO := qze (Q6o + 1) Q0k 0 w8
   have g1 := qzm S8.h hO (fun j e => by have := qz1g S8.h e; omega)
   have g2 := qzm S8.c hO (fun j e => by have := qz1g S8.c e; omega)
   have g3 := qzm S8.d hO (fun j e => by have := qz1g S8.d e; omega)
   have g4 := qzm S8.t hO (fun j e => by have := qz1g S8.t e; omega)
   exact ⟨(O8.only hO (by omega)).lo (by omega), by simpa using qz26 g1 (base' := Q6o) (by omega), by simpa using qz26 g2 (base' := Q6o) (by omega), by simpa using qz26 g3 (base' := Q6o) (by omega), by simpa using qz26 g4 (base' := Q6o) (by omega)⟩
  ·exact Below.setCells (by omega) _ _ _ (KK.trans (S8.bel.mono (by omega)))
 have b0 : (cd != 0) = false := by simp [e0]
 have e0' : Hid (cd = 0) := e0
 clear e0
 have x13 : w8.cell? ⟨Q6o, 13, none⟩ = some (.int .i64 W.now) := by simpa using X8 13 _ rfl
 by_cases e1 : W.now = 20000
 ·have b1 : (W.now == 20000) = true := by simp [e1]
  have e1' : Hid (W.now = 20000) := e1
  clear e1
  go_upto_region 8 with fail
  clear x13
  have RR := S8.row
  go_wp2_with (first | (refine wpList_load_mid rfl 50 (.tmp 12) rfl b9 0 rfl Q0k _ ?lfb Tryz.underlying50 rfl qzn ?_) | (refine wpList_store_mid rfl 50 (.tmp 10) (.tmp 51) rfl (w.heap.size + 1) 0 Q0f ?fxb ?fyb ?ftb qzn (by simp [Value.oneCell']) ?_))
  try (case lfb => exact RR)
  try (case fxb => rfl)
  try (case fyb => rfl)
  try (case ftb => exact F8)
  have hSW : askW x y z u W k h c q v = W := by
   unfold askW
   rw [hC.out, if_neg (fun hh => hh e0'.out), if_pos e1'.out]
  rw [hSW]
  refine bodyPost_ret (v := .tuple #[.agg Q0f, .int .i64 1]) ?_ rfl ⟨.slice sa6 W.A.slots.length sc6, .slice ga6 W.A.guides.length gc6, .slice na6 W.A.nodes.length nc6, .slice ra6 W.A.vers.length rc6, .slice (some ⟨hg, 0, none⟩) Q76 hcap, .slice ca Q79 cc, .slice da Q7c dc, .slice ta Q7a tc, 1, rfl, ?_, ?_⟩
  ·exact qzl Tryz.results61 _ _ (Q6o + 1) 0 rfl Q0k _ (Q6u _ _ _ _ F8) Q7e rfl qzn
  ·have hO := qze (Q6o + 1) Q0k 0 w8
   have g1 := qzm S8.h hO (fun j e => by have := qz1g S8.h e; omega)
   have g2 := qzm S8.c hO (fun j e => by have := qz1g S8.c e; omega)
   have g3 := qzm S8.d hO (fun j e => by have := qz1g S8.d e; omega)
   have g4 := qzm S8.t hO (fun j e => by have := qz1g S8.t e; omega)
   exact ⟨(O8.only hO (by omega)).lo (by omega), by simpa using qz26 g1 (base' := Q6o) (by omega), by simpa using qz26 g2 (base' := Q6o) (by omega), by simpa using qz26 g3 (base' := Q6o) (by omega), by simpa using qz26 g4 (base' := Q6o) (by omega)⟩
  ·exact Below.setCells (by omega) _ _ _ (KK.trans (S8.bel.mono (by omega)))
 have b1 : (W.now == 20000) = false := by simp [e1]
 have hn0 := hP.nw
 have hnow : W.now < 20000 := by omega
 have e1' : Hid (W.now ≠ 20000) := e1
 clear e1
 have hnn0 := hn0.1
 go_upto_region 9 with fail
 have y13 := S8.cell 13 rfl
 have v13 := S8.free 13 (by decide)
 go_upto_region 10 with fail
 clear x13 y13 v13
 have S9 : Und Q7i w5 (w8.setCell ⟨b9, 13, none⟩ (.int .i64 (W.now + 1))) b9 Q23 Q2y Q37 Q33 W.hands W.calls W.deeds W.ticks Q0r := S8.put 13 (by simp) (.int .i64 (W.now + 1))
 have hO9 : Only b9 w8 (w8.setCell ⟨b9, 13, none⟩ (.int .i64 (W.now + 1))) := (Only.refl b9 w8).setCell (p := ⟨b9, 13, none⟩) (Or.inl rfl) _
 have O9 := O8.kept (But.of_only (S := fun p => p = b9) hO9 rfl) (fun p hp => (OB p hp).1)
 have Y9 := qzh Y8 hO9 hy8 (by omega)
 have T9 := qzj T8 hO9 hy8 (by omega)
 have hy9 := Q72 hy8 hO9.size
 clear S8 O8 Y8 T8 hy8 hO9
 generalize w8.setCell ⟨b9, 13, none⟩ (.int .i64 (W.now + 1)) = w9 at *
 have y13 := S9.cell 13 rfl
 have z5 : w9.cell? ⟨bh, 5, none⟩ = some (.int .i64 Rr.begin) := by simpa using Y9 5 _ rfl
 have f5 : w9.frozen? ⟨bh, 5, none⟩ = false := by simpa using (T9 5 (by decide)).2
 go_upto_region 11 with fail
 clear y13 z5 f5
 have Y10 : (Q6h).rangeAt bh 0 (hdC { Rr with begin := W.now + 1 }) := qzb Y9 5 (by simp [hdC]) (.int .i64 (W.now + 1))
 have hO10 : Only bh w9 Q6h := (Only.refl bh w9).setCell (p := ⟨bh, 5, none⟩) (Or.inl rfl) _
 have hne10 : ∀ p, p < w7.heap.size -> p ≠ bh := fun p hp => by omega
 have S10 : Und Q7i w5 Q6h b9 Q23 Q2y Q37 Q33 W.hands W.calls W.deeds W.ticks Q0r :=
  ⟨qzh S9.row hO10 S9.hi (by omega), qzj S9.th hO10 S9.hi (by omega), S9.lo, Q72 S9.hi hO10.size, qzm S9.h hO10 (fun j e => hfar j (Or.inl e)), qzm S9.c hO10 (fun j e => hfar j (Or.inr (Or.inl e))), qzm S9.d hO10 (fun j e => hfar j (Or.inr (Or.inr (Or.inl e)))), qzm S9.t hO10 (fun j e => hfar j (Or.inr (Or.inr (Or.inr e)))), S9.nh, S9.nc, S9.nd, S9.nt, S9.bel.trans (hO10.below (by omega) (Q77 S9.lo (Nat.le_of_lt S9.hi)))⟩
 have O10 := O9.kept (But.of_only (S := fun p => p = bh) hO10 rfl) (fun p hp => hfarA p hp)
 clear S9 O9 Y9 T9
 have hy10 := Q72 hy9 hO10.size
 clear hO10
 generalize w9.setCell ⟨bh, 5, none⟩ (.int .i64 (W.now + 1)) = w10 at *
 have y9 := S10.cell 9 rfl
 have hk1 : (k : Int) < (Q76 : Int) := by omega
 have hk0 : (0 : Int) <= (k : Int) := by omega
 have T11 := qzb7 S10.h (k * 22) 22 (by have := Nat.mul_le_mul_right 22 (Nat.succ_le_of_lt hk); rw [Nat.succ_mul] at this; omega)
 go_upto_region 12 with (first | (refine Q6z rfl 56 (.tmp 13) rfl bh 0 rfl (hdC { Rr with begin := W.now + 1 }) _ ?hc9 Q6x rfl (qz4 _) ?_) | (refine Q6t rfl 56 (.tmp 63) (.tmp 62) rfl hg (k * 22) (hdC { Rr with begin := W.now + 1 }).toArray ?ux9 ?uy9 ?ut9 (qzc _) (qzk _) ?_))
 case hc9 => exact Y10
 try (case ux9 => first | rfl | simp)
 try (case uy9 => rfl)
 case ut9 => exact T11
 have S11 : Und Q7i w5 (w10.setCells hg (k * 22) (hdC { Rr with begin := W.now + 1 })) b9 Q23 Q2y Q37 Q33 (W.hands.set k { Rr with begin := W.now + 1 }) W.calls W.deeds W.ticks Q0r := by simpa using S10.hand k hk { Rr with begin := W.now + 1 }
 have O11 := O10.kept (But.of_only (S := fun p => p = hg) (qze hg (hdC { Rr with begin := W.now + 1 }) (k * 22) w10) rfl) (fun p hp => (OB p hp).2)
 clear S10 O10 y9 T11
 generalize w10.setCells hg (k * 22) (hdC { Rr with begin := W.now + 1 }) = w11 at *
 have F11 := F11' w11 S11.bel
 have RR := S11.row
 go_wp2_with (first | (refine wpList_load_mid rfl 50 (.tmp 12) rfl b9 0 rfl Q0r _ ?lfc Tryz.underlying50 rfl qzn ?_) | (refine wpList_store_mid rfl 50 (.tmp 10) (.tmp 64) rfl (w.heap.size + 1) 0 Q2s ?fxc ?fyc ?ftc qzn (by simp [Value.oneCell']) ?_))
 try (case lfc => exact RR)
 try (case fxc => rfl)
 try (case fyc => rfl)
 try (case ftc => exact F11)
 have hSW : askW x y z u W k h c q v = { W with hands := W.hands.set k { Rr with begin := W.now + 1 }, now := W.now + 1 } := by
  unfold askW
  rw [hC.out, hR.out, if_neg (fun hh => hh e0'.out), if_neg e1'.out]
 rw [hSW]
 refine bodyPost_ret (v := .tuple #[.agg Q2s, .int .i64 cd]) ?_ rfl ⟨.slice sa6 W.A.slots.length sc6, .slice ga6 W.A.guides.length gc6, .slice na6 W.A.nodes.length nc6, .slice ra6 W.A.vers.length rc6, .slice (some ⟨hg, 0, none⟩) Q76 hcap, .slice ca Q79 cc, .slice da Q7c dc, .slice ta Q7a tc, cd, rfl, ?_, ?_⟩
 ·exact qzl Tryz.results61 _ _ (Q6o + 1) 0 rfl Q0r _ (Q6u _ _ _ _ F11) Q7e rfl qzn
 ·have hO := qze (Q6o + 1) Q0r 0 w11
  have g1 := qzm S11.h hO (fun j e => by have := qz1g S11.h e; omega)
  have g2 := qzm S11.c hO (fun j e => by have := qz1g S11.c e; omega)
  have g3 := qzm S11.d hO (fun j e => by have := qz1g S11.d e; omega)
  have g4 := qzm S11.t hO (fun j e => by have := qz1g S11.t e; omega)
  exact ⟨(O11.only hO (by omega)).lo (by omega), by simpa using qz26 g1 (base' := Q6o) (by omega), by simpa using qz26 g2 (base' := Q6o) (by omega), by simpa using qz26 g3 (base' := Q6o) (by omega), by simpa using qz26 g4 (base' := Q6o) (by omega)⟩
 ·exact Below.setCells (by omega) _ _ _ (KK.trans (S11.bel.mono (by omega)))
end
end Go.Proofs.YthjkdnlmopafkaaGreatDoor
