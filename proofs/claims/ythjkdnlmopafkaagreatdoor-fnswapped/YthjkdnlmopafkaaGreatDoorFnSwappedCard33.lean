/-
  What the law's proof goes by, part 34.
-/
import Derived.Deep.RegionHeld3
import Derived.Deep.RegionLaw
import Derived.Deep.AppendLies
import Derived.Deep.DrawnRows
import Derived.Deep.DeepCutAuto
import Derived.Test.YthjkdnlmopafkaaGreatDoorFnSwappedCard00
import Derived.Test.YthjkdnlmopafkaaGreatDoorFnSwappedCard01
import Derived.Test.YthjkdnlmopafkaaGreatDoorFnSwappedCard05
import Derived.Test.YthjkdnlmopafkaaGreatDoorFnSwappedCard32
namespace Go.Proofs.YthjkdnlmopafkaaGreatDoor
open Go.ChangeShapes Go.WideShapes Go.ChangeAt Go.RowKit
set_option maxRecDepth 100000
set_option maxHeartbeats 16000000
set_option linter.unusedVariables false
set_option linter.unusedSimpArgs false
set_option linter.unnecessarySimpa false
set_option linter.unusedSectionVars false
section
attribute [local go_sem ↓] Go.wp_at_zero Go.wp_at_succ
theorem qz45.drew {W : World} {b : Nat} {x y z u : Int} (h : qz45 W b x y z u) : qz45 W.drew b x y z u := h
theorem qz45.only {w w' : World} {b c : Nat} {x y z u : Int} (P : qz45 w b x y z u) (hO : Only c w w') (hb : b < Q6o) (hne : b ≠ c) : qz45 w' b x y z u :=
 ⟨(hO.cell (p := ⟨b, 0, none⟩) hb hne).trans P.1, (hO.cell (p := ⟨b, 1, none⟩) hb hne).trans P.2.1, (hO.cell (p := ⟨b, 2, none⟩) hb hne).trans P.2.2.1, (hO.cell (p := ⟨b, 3, none⟩) hb hne).trans P.2.2.2⟩
theorem qz45.alloc {W : World} {b : Nat} {x y z u : Int} (h : qz45 W b x y z u) (hb : b < W.heap.size) (o : Obj) : qz45 (W.alloc o) b x y z u := h.below ((Q6s _ _).alloc (Q6v _) o) hb
theorem qzb4 {G : Prop} {w1 w2 : World} (b2 : Below (w1.alloc (Obj.cells Q04 50)).drew.heap.size (w1.alloc (Obj.cells Q04 50)).drew w2)
  (k : (w2.cell? ⟨Q6y, 0, none⟩ = some (.int .i64 0) /\ w2.cell? ⟨Q6y, 1, none⟩ = some (.int .i64 0) /\ w2.cell? ⟨Q6y, 2, none⟩ = some (.int .i64 0) /\ w2.cell? ⟨Q6y, 3, none⟩ = some (.int .i64 0) /\ w2.cell? ⟨Q6y, 4, none⟩ = some (.int .i64 0) /\ w2.cell? ⟨Q6y, 5, none⟩ = some (.slice none 0 0) /\ w2.cell? ⟨Q6y, 6, none⟩ = some (.slice none 0 0) /\ w2.cell? ⟨Q6y, 7, none⟩ = some (.slice none 0 0) /\ w2.cell? ⟨Q6y, 8, none⟩ = some (.slice none 0 0) /\ w2.cell? ⟨Q6y, 9, none⟩ = some (.slice none 0 0) /\ w2.cell? ⟨Q6y, 10, none⟩ = some (.slice none 0 0) /\ w2.cell? ⟨Q6y, 11, none⟩ = some (.slice none 0 0) /\ w2.cell? ⟨Q6y, 12, none⟩ = some (.slice none 0 0) /\ w2.cell? ⟨Q6y, 13, none⟩ = some (.int .i64 0) /\ w2.frozen? ⟨Q6y, 0, none⟩ = false /\ w2.frozen? ⟨Q6y, 1, none⟩ = false /\ w2.frozen? ⟨Q6y, 2, none⟩ = false /\ w2.frozen? ⟨Q6y, 3, none⟩ = false /\ w2.frozen? ⟨Q6y, 4, none⟩ = false /\ w2.frozen? ⟨Q6y, 5, none⟩ = false /\ w2.frozen? ⟨Q6y, 6, none⟩ = false /\ w2.frozen? ⟨Q6y, 7, none⟩ = false /\ w2.frozen? ⟨Q6y, 8, none⟩ = false /\ w2.frozen? ⟨Q6y, 9, none⟩ = false /\ w2.frozen? ⟨Q6y, 10, none⟩ = false /\ w2.frozen? ⟨Q6y, 11, none⟩ = false /\ w2.frozen? ⟨Q6y, 12, none⟩ = false /\ w2.frozen? ⟨Q6y, 13, none⟩ = false) -> G) : G := by
 have T := qz5 (qzg w1 Q04 50 14 (by decide)) ((Q6s _ _).drew.trans b2) (by simp)
 have hc : ∀ j, w2.cell? ⟨Q6y, j, none⟩ = (w1.alloc (Obj.cells Q04 50)).cell? ⟨Q6y, j, none⟩ := fun j => b2.cell (p := ⟨Q6y, j, none⟩) (by simp)
 have hf : ∀ j, j < 14 -> w2.frozen? ⟨Q6y, j, none⟩ = false := fun j hj => by simpa using (T j hj).2
 exact k ⟨(hc 0).trans (by simp [World.cell?_alloc_new]), (hc 1).trans (by simp [World.cell?_alloc_new]), (hc 2).trans (by simp [World.cell?_alloc_new]), (hc 3).trans (by simp [World.cell?_alloc_new]), (hc 4).trans (by simp [World.cell?_alloc_new]), (hc 5).trans (by simp [World.cell?_alloc_new]), (hc 6).trans (by simp [World.cell?_alloc_new]), (hc 7).trans (by simp [World.cell?_alloc_new]), (hc 8).trans (by simp [World.cell?_alloc_new]), (hc 9).trans (by simp [World.cell?_alloc_new]), (hc 10).trans (by simp [World.cell?_alloc_new]), (hc 11).trans (by simp [World.cell?_alloc_new]), (hc 12).trans (by simp [World.cell?_alloc_new]), (hc 13).trans (by simp [World.cell?_alloc_new]), hf 0 (by omega), hf 1 (by omega), hf 2 (by omega), hf 3 (by omega), hf 4 (by omega), hf 5 (by omega), hf 6 (by omega), hf 7 (by omega), hf 8 (by omega), hf 9 (by omega), hf 10 (by omega), hf 11 (by omega), hf 12 (by omega), hf 13 (by omega)⟩
theorem qz5y {w : World} {b o : Nat} {p q : List Value} {h : Value} (R : w.rangeAt b o (p ++ h :: q)) : w.cell? ⟨b, o + p.length, none⟩ = some h := R p.length h (by simp)
theorem qz3g {w : World} {b o : Nat} {p q : List Value} {h : Value} (R : w.rangeAt b o (p ++ h :: q)) (v : Value) : (w.setCell ⟨b, o + p.length, none⟩ v).rangeAt b o (p ++ v :: q) := by
 intro j u hj
 by_cases e : j = p.length
 ·subst e
  simp at hj
  subst hj
  exact World.cell?_setCell_same _ _ _ (qz5y R)
 ·have hne : (⟨b, o + p.length, none⟩ : Addr) ≠ ⟨b, o + j, none⟩ := by
   intro h'
   have := congrArg Addr.off h'
   simp at this
   omega
  refine (World.cell?_setCell_other _ _ _ _ hne).trans (R j u ?_)
  rw [List.getElem?_append] at hj ⊢
  by_cases hl : j < p.length
  ·simpa [hl] using hj
  ·simp only [hl, if_false] at hj ⊢
   obtain ⟨m, hm⟩ : ∃ m, j - p.length = m + 1 := ⟨j - p.length - 1, by omega⟩
   rw [hm] at hj ⊢
   simpa using hj
theorem qzaf {w w' : World} {b c o : Nat} {cs : List Value} (h : w.rangeAt b o cs) (hO : Only c w w') (hb : b < Q6o) (hne : b ≠ c) : w'.rangeAt b o cs :=
 fun j v hv => (hO.cell (p := ⟨b, o + j, none⟩) hb hne).trans (h j v hv)
theorem qz6s {w w' : World} {b c o n : Nat} (h : w.there b o n) (hO : Only c w w') (hb : b < Q6o) (hne : b ≠ c) : w'.there b o n :=
 fun j hj => by rw [hO.cell (p := ⟨b, o + j, none⟩) hb hne, hO.frozen (p := ⟨b, o + j, none⟩) hb hne]; exact h j hj
def qzhz : List Value := [.slice none 0 0, .slice none 0 0, .slice none 0 0, .int .i64 0]
def qz3s (k : Nat) : List Value := (List.replicate k qz3j).flatten
theorem qz52 : (Tryz.prog.info? 50).map (fun i => i.size) = some 14 := by kernel_rfl
theorem qzej : (Tryz.prog.info? 56).map (fun i => (i.zero, i.size, i.bytes)) = some (some (.agg Q00), 22, 176) := by kernel_rfl
theorem qzbo (wa : World) (C : Array Value) (T : TypeId) (hC : C = qz3j.toArray) : ∀ j u, qz3j[j]? = some u -> (wa.alloc (.cells C T)).cell? ((⟨wa.heap.size, 0, none⟩ : Addr).add j) = some u := by
 intro j u hu
 subst hC
 rw [Addr.add_mid]
 exact qz6 wa qz3j T j u hu
theorem qzbd : ∀ u ∈ qz3j, u.oneCell' = true := by
 intro u hu
 simp only [qz3j, List.mem_cons, List.not_mem_nil, or_false] at hu
 rcases hu with rfl | rfl | rfl | rfl | rfl | rfl | rfl | rfl | rfl | rfl | rfl | rfl | rfl | rfl | rfl | rfl | rfl | rfl | rfl | rfl | rfl | rfl <;> rfl
theorem qzbp {w w' : World} {base : Nat} {e : TypeId} {size : Nat} {v : Value} {n : Nat} {xs : List Value} (h : w.ownsRow base e size v n xs) (hb : Below Q6o w w') : w'.ownsRow base e size v n xs := by
 obtain ⟨h1, h2⟩ := h
 refine ⟨h1, ?_⟩
 rcases h2 with h2 | ⟨g, cap, cur, hv, hg, hh, r⟩
 ·exact Or.inl h2
 ·have hlt : g < Q6o := by
   rcases Nat.lt_or_ge g Q6o with hl | hl
   ·exact hl
   ·rw [Array.getElem?_eq_none hl] at hh; cases hh
  exact Or.inr ⟨g, cap, cur, hv, hg, by rw [hb.block g hlt]; exact hh, r⟩
structure qzfw (w0 wr : World) (A : Nat) (p : List Value) (k : Nat) (h : Value) : Prop where
 row : wr.rangeAt A 0 (p ++ h :: qzhz)
 th : wr.there A 0 14
 own : wr.ownsRow Q73 56 22 h k (qz3s k)
 only : Only A w0 wr
 blk : A < Q73
theorem qzfw.step {w0 wr : World} {A : Nat} {p : List Value} {k : Nat} {h : Value} (hp : p.length = 9) (D : qzfw w0 wr A p k h) {wa w2 : World} {v' : Value} (ba : Below wr.heap.size wr wa)
  (ho : w2.ownsRow Q73 56 22 v' (k + 1) (qz3s k ++ qz3j)) (hg : wa.grownBy w2 h.ownBlock) :
  qzfw w0 (w2.setCell ⟨A, 9, none⟩ v') A p (k + 1) v' := by
 have hz := D.only.size
 have hz2 := ba.size
 have b2 : Below Q73 wr w2 := (ba.mono hz).grown hg (by omega) (fun j e => qz1g D.own e)
 have R2 := qz0 D.row b2 D.blk
 have T2 := qz5 D.th b2 D.blk
 have S2 := qz3g R2 v'
 simp only [hp, Nat.zero_add] at S2
 refine ⟨S2, qz2 T2 _ _, ?_, ?_, D.blk⟩
 ·have e : qz3s (k + 1) = qz3s k ++ qz3j := by
   unfold qz3s
   rw [List.replicate_succ', List.flatten_append]
   simp
  rw [e]
  exact ownsRow_setCell_below ho D.blk _
 ·have o2 : Only A w0 w2 := ⟨b2.os.trans D.only.os, b2.tape.trans D.only.tape, b2.output.trans D.only.output, Q77 hz b2.size, fun j hj hn => (b2.block j hj).trans (D.only.block j hj hn)⟩
  exact o2.setCell (Or.inl rfl) _
def newW (xN uN : Nat) : Wd := ⟨qz24 xN uN, List.replicate xN newH, [], [], [], 0⟩
theorem qzae (k : Nat) : qz3s k = qz8 hdC (List.replicate k newH) := by
 unfold qz3s qz8
 show _ = ((List.replicate k newH).map hdC).flatten
 rw [List.map_replicate]
 rfl
theorem qz5o {w w' : World} {A b len cap : Nat} {cs : List Value} (S : qzu Q6o w (.slice (some ⟨b, 0, none⟩) len cap) len cs) (hO : Only A w w') (hne : b ≠ A) : qzu w'.heap.size w' (.slice (some ⟨b, 0, none⟩) len cap) len cs := by
 obtain ⟨a', cap', e, h⟩ := S
 cases e
 refine ⟨_, _, rfl, ?_⟩
 rcases h with h | ⟨bb, off, e, lt, R⟩
 ·exact Or.inl h
 ·cases e
  exact Or.inr ⟨_, _, rfl, Q72 lt hO.size, qzaf R hO lt hne⟩
theorem qz70 {w w' : World} {A xN uN sg sc gb nb vb : Nat} (I : qz1j Q6o w Q3d Q3e Q3q Q3p (qz24 xN uN)) (hO : Only A w w') (h : sg ≠ A /\ gb ≠ A /\ nb ≠ A /\ vb ≠ A) : qz1j w'.heap.size w' Q3d Q3e Q3q Q3p (qz24 xN uN) := by
 have l1 : (qz24 xN uN).slots.length = xN := by simp [qz24]
 have l2 : (qz24 xN uN).guides.length = uN := by simp [qz24]
 refine ⟨?_, ?_, qz5o I.n hO h.2.2.1, qz5o I.r hO h.2.2.2⟩
 ·have := I.s
  rw [l1] at this ⊢
  exact qz5o this hO h.1
 ·have := I.g
  rw [l2] at this ⊢
  exact qz5o this hO h.2.1
theorem qzff {w0 wr : World} {A c xN uN sg sc gb nb vb hg hc : Nat} (I : qz1j Q73 w0 Q3d Q3e Q3q Q3p (qz24 xN uN)) (hne : sg ≠ A /\ gb ≠ A /\ nb ≠ A /\ vb ≠ A) (hcc : c < sg /\ c < gb /\ c < nb /\ c < vb) (hO : Only A w0 wr) (own : wr.ownsRow Q73 56 22 Q5g xN (qz3s xN)) (hcl : c < Q73) (cs : List Value) :
  WdIs (wr.setCells c 0 cs).heap.size (wr.setCells c 0 cs) Q3d Q3e Q3q Q3p Q5g (.slice none 0 0) (.slice none 0 0) (.slice none 0 0) (newW xN uN) := by
 have hO2 := qze c cs 0 wr
 have I2 := qz70 (qz70 I hO hne) hO2 (by omega)
 have own2 := qzm own hO2 (fun j e => by have := qz1g own e; omega)
 rw [qzae] at own2
 refine ⟨I2, ?_, ⟨_, _, rfl, Or.inl rfl⟩, ⟨_, _, rfl, Or.inl rfl⟩, ⟨_, _, rfl, Or.inl rfl⟩⟩
 have := qz2t own2
 simpa [newW] using this
theorem qzfp (xN uN : Nat) (y z : Int) (hp : qz3w xN y z uN = true) : WInv xN y z uN (newW xN uN) := by
 have hr := (qz2n xN y z uN).1 hp
 have hA : ArP xN y z uN (qz24 xN uN) := by
  refine ⟨hp, by simp [qz24], by simp [qz24], by simp [qz24], by simp [qz24]; omega, by simp [qz24]; omega, fun s hs => ?_, fun g hg => ?_, fun n a b => ?_, fun v a b => ?_⟩
  ·simp [qz24] at hs; omega
  ·simp [qz24] at hg ⊢; omega
  ·obtain rfl : n = 0 := by simp [qz24] at b; omega
   exact ⟨fun _ => by simp [ndOf, qz24], fun h => absurd rfl h, by simp [ndOf, qz24], by simp [ndOf, qz24]⟩
  ·obtain rfl : v = 0 := by simp [qz24] at b; omega
   exact ⟨by simp [vrOf, qz24], by simp [vrOf, qz24], by simp [vrOf, qz24], by simp [vrOf, qz24]⟩
 have hH : HP (qz24 xN uN) newH := by
  constructor <;> simp [newH, qz24]
 refine ⟨hA, ⟨fun v a b => ?_, ?_⟩, by simp [newW], fun i h => by simpa [newW] using hH, fun i hi p => ?_, by simp [newW], by simp [newW], fun c hc => by simp [newW] at hc, by simp [newW], fun d hd => by simp [newW] at hd, by simp [newW, qz24], fun t ht => by simp [newW] at ht, fun i h => by simp [newW] at h⟩
 ·obtain rfl : v = 0 := by simp [newW, qz24] at b; omega
  simp [vrOf, newW, qz24]
 ·simp [vrOf, ndOf, newW, qz24]
 ·have := p.1
  simp [newW, newH] at this
theorem qz69 (xN uN : Nat) (y z : Int) (w : World) (hp : qz3w xN y z uN = true) :
  Calls Tryz.prog 88 #[.agg Q49] w fun e w' => ∃ sg sc gb nb vb hg hc, e = .returned (.tuple #[.agg #[.int .i64 xN, .int .i64 y, .int .i64 z, .int .i64 uN, .int .i64 0, .slice (some ⟨sg, 0, none⟩) xN sc, .slice (some ⟨gb, 0, none⟩) uN uN, .slice (some ⟨nb, 0, none⟩) 1 1, .slice (some ⟨vb, 0, none⟩) 1 1, .slice (some ⟨hg, 0, none⟩) xN hc, .slice none 0 0, .slice none 0 0, .slice none 0 0, .int .i64 0], .bool true]) /\ WdIs w'.heap.size w' Q3d Q3e Q3q Q3p Q5g (.slice none 0 0) (.slice none 0 0) (.slice none 0 0) (newW xN uN) /\ Below Q6o w w' /\ Hid ((Q6o <= sg /\ Q6o <= gb /\ Q6o <= nb /\ Q6o <= vb /\ Q6o <= hg) /\ qz1t Q6o w' Q3d Q3e Q3q Q3p (qz24 xN uN)) := by
 have hr := (qz2n xN y z uN).1 hp
 obtain ⟨⟨hx1, hx2⟩, _⟩ := hr
 have P0 := qz1q w xN y z uN 25
 obtain ⟨i0, hi, hzr, hsz, hby⟩ := info_parts qzej
 have hl22 : qz3j.length = 22 := rfl
 go_enter Tryz.func88, Tryz.ntmps88
 go_wp2_with fail
 have R0 := qzg (w.alloc (Obj.cells Q49 25)) Q04 50 14 (by decide)
 refine (qz1y _ _ _ _ _).mono ?_
 rintro e w1 ⟨rfl, b1⟩
 have hz1 := b1.size
 simp at hz1
 have P1 := (P0.below ((Q6s _ _).alloc (Q6v _) _) (by simp)).below b1 (by simp; omega)
 have R1 := qz5 R0 b1 (by simp)
 have bb1 := (((Q6s Q6o w).alloc (Q6v _) (Obj.cells Q49 25)).alloc (by simp) (Obj.cells Q04 50)).trans (b1.mono (by simp; omega))
 simp only [World.size_alloc] at R1
 have P1' := P1
 obtain ⟨c0, c1, c2, c3⟩ := P1'
 clear b1 P0 R0
 rw [hp]
 go_wp2
 have n0 := World.new_ne w1 _ c0
 have n1 := World.new_ne w1 _ c1
 have n2 := World.new_ne w1 _ c2
 have n3 := World.new_ne w1 _ c3
 go_region_held3 (fun w' => w'.cell? ⟨Q6o, 0, none⟩ = some (.int .i64 xN) /\ w'.cell? ⟨Q6o, 1, none⟩ = some (.int .i64 y) /\ w'.cell? ⟨Q6o, 2, none⟩ = some (.int .i64 z) /\ w'.cell? ⟨Q6o, 3, none⟩ = some (.int .i64 uN)) (go_keep) ((go_at_call 124; refine (qz9a _ _ _ _ _ hp).mono ?_; rintro e w2 ⟨sg, sc, gb, nb, vb, rfl, IB, b2, hlow⟩; have Q2 : qz45 w2 Q6o xN y z uN := (by first | exact P1.drew.below b2 (by simp; omega) | exact (P1.alloc (by omega) _).drew.below b2 (by simp; omega)); obtain ⟨d0, d1, d2, d3⟩ := Q2; (first | (refine qzb4 b2 ?_; rintro ⟨t0, t1, t2, t3, t4, t5, t6, t7, t8, t9, t10, t11, t12, t13, u0, u1, u2, u3, u4, u5, u6, u7, u8, u9, u10, u11, u12, u13⟩) | skip)))
 ·clear n0 n1 n2 n3 c0 c1 c2 c3
  have N0 : qzfw Q62 Q62 Q78 Q22 0 (.slice none 0 0) :=
   ⟨qz6 w2 Q3r 50, qzg _ _ _ _ (by simp), World.ownsRow_nil _ _ _ _, Only.refl _ _, by simp⟩
  have hz2 := b2.size
  simp at hz2
  have P3 : qz45 Q62 Q6o xN y z uN := qz45.alloc ⟨d0, d1, d2, d3⟩ (by omega) _
  have R3 := Q7h (qz5 (World.there_drew _ _ _ _ |>.2 R1) b2 (by simp; omega)) (Obj.cells Q0u 50)
  have bb3 := (bb1.drew.trans (b2.mono (by simp; omega))).alloc (by omega) (Obj.cells Q0u 50)
  clear b2 d0 d1 d2 d3
  go_wp2
  go_loopw [5] (fun i wr => ∃ (k : Nat) (hd : Value), k <= xN /\ i = .int .i64 k /\ qzfw Q62 wr Q78 Q22 k hd) (fun i _ => xN - (intOf i).toNat)
  case atStart => exact ⟨0, _, Nat.zero_le _, rfl, N0⟩
  case round =>
   obtain ⟨k, hd, hk, rfl, D⟩ := hrel
   have hz := D.only.size
   obtain ⟨e0, e1, e2, e3⟩ := P3.only D.only (by have := D.blk; omega) (by omega)
   by_cases hlt : k < xN
   ·have m9 := qz5y D.row
    have q9 := (D.th 9 (by omega)).2
    simp only [List.length_cons, List.length_nil, Nat.zero_add, Nat.reduceAdd] at m9 q9
    go_wp2
    go_region_law (first | (go_simp; go_at_call 125; refine (qz57 _).mono ?_; rintro e wa ⟨rfl, ba1⟩; have ba : Below wr.heap.size wr wa := (Below.refl _ wr).drew.trans ba1; clear ba1; have m10 := (ba.cell (p := ⟨w2.heap.size, 9, none⟩) (Nat.lt_of_lt_of_le D.blk D.only.size)).trans m9; have q10 := (ba.frozen (p := ⟨w2.heap.size, 9, none⟩) (Nat.lt_of_lt_of_le D.blk D.only.size)).trans q9; have m10a : ∀ o, (wa.alloc o).cell? ⟨w2.heap.size, 9, none⟩ = some hd := (fun o => (((Below.refl _ wa).alloc (Nat.le_refl _) o).cell (p := ⟨w2.heap.size, 9, none⟩) (Nat.lt_of_lt_of_le (Nat.lt_of_lt_of_le D.blk D.only.size) ba.size)).trans m10); have tk : True := trivial) | (clear tk; refine step_append_lies _ (by rfl) (.tmp 21) (.tmp 23) 46 (by rfl) (Q62).heap.size 56 i0 _ 22 176 Tryz.underlying46 hi hzr hsz hby (by rfl) (by omega) hd k (qz3s k) (by rfl) ((qzbp D.own ba).alloc _) ⟨wa.heap.size, 0, none⟩ 1 1 qz3j (by rfl) (by rfl) (qzbo wa _ _ (by kernel_rfl)) qzbd (by omega) (by unfold maxLen; omega) (by omega) (by have := ba.size; have := D.only.size; (try simp only [World.size_alloc] at *); omega) (wa.heap.size + 1) (by simp) ?_; intro g cap w4 hown4 hgrow hat hlt4; have b4 : Below (Q62).heap.size wr w4 := (((ba.mono (by exact D.only.size)).alloc (by have := ba.size; have := D.only.size; (try simp only [World.size_alloc] at *); omega) _).grown hgrow (by have := ba.size; have := D.only.size; (try simp only [World.size_alloc] at *); omega) (fun j e => qz1g D.own e)); have m11 := (b4.cell (p := ⟨w2.heap.size, 9, none⟩) D.blk).trans m9; have q11 := (b4.frozen (p := ⟨w2.heap.size, 9, none⟩) D.blk).trans q9))
    all_goals
     have S := D.step rfl (ba.alloc ba.size _) hown4 hgrow
     clear hown4 hgrow b4 hat hlt4 ba
     go_wp2
     go_roundw
     case rel => exact ⟨k + 1, _, by omega, by go_num, S⟩
     case measure => simp [intOf]; omega
   ·obtain rfl : xN = k := by omega
    obtain ⟨hg, hc, rfl⟩ := qz12 D.own (by omega)
    have R4 := qz6s R3 D.only (by have := D.blk; omega) (by omega)
    have Drow : wr.rangeAt Q78 0 Q0q := D.row
    go_wp2_with (first | (refine Q6z rfl 50 (.tmp 4) rfl Q78 0 rfl Q0q _ Drow Q7e rfl qz52 ?_) | (refine Q6t rfl 50 (.tmp 2) (.tmp 26) rfl (Q6o + 1) 0 _ rfl rfl ?ht ?hi ?h1 ?_))
    case ht => exact R4
    case hi => exact qz52
    case h1 => simp [Value.oneCell']
    refine bodyPost_ret (v := .tuple #[.agg (Q0q).toArray, .bool true]) ?_ rfl ⟨_, _, _, _, _, _, _, rfl, ?_, ?_, ?_⟩
    ·exact qzl Tryz.results88 _ _ (Q6o + 1) 0 rfl Q0q _ (Q6u _ _ _ _ R4) Q7e rfl qz52
    ·have hl := hlow.out.1
     simp at hl
     exact qzff (w0 := w2.alloc _) ((IB.below ((Q6s _ _).alloc (Q6v _) _)).weaken (by simp)) (by have b1 := qzu.at IB.n (by decide); have b2 := qzu.at IB.r (by decide); have b3 := qzu.at (len := xN) (by simpa [qz24] using IB.s) (by omega); have b4 := qzu.at (len := uN) (by simpa [qz24] using IB.g) (by omega); obtain ⟨_, _, e1, l1, _⟩ := b1; obtain ⟨_, _, e2, l2, _⟩ := b2; obtain ⟨_, _, e3, l3, _⟩ := b3; obtain ⟨_, _, e4, l4, _⟩ := b4; cases e1; cases e2; cases e3; cases e4; omega) (by omega) D.only D.own (by simp; omega) _
    ·exact Below.setCells (by omega) _ _ _ (bb3.trans (D.only.below (by omega) (by have := D.blk; omega)))
    ·have hl := hlow.out.1
     simp at hl
     have hgg := qz1g D.own rfl
     have hgg' : (_ : Nat) <= hg := hgg
     simp [qzp] at hgg'
     refine ⟨by omega, ?_⟩
     exact ((hlow.out.2.onlyAt ((Q6s _ _).alloc (Q6v _) _) D.only (Q6v _)).only (qze (Q6o + 1) _ 0 wr) (by simp; omega)).lo (by simp; omega)
 ·clear n0 n1 n2 n3 c0 c1 c2 c3 t0 t1 t2 t3 t4 t5 t6 t7 t8 t9 t10 t11 t12 t13 u0 u1 u2 u3 u4 u5 u6 u7 u8 u9 u10 u11 u12 u13
  have T2 := qz5 (qzg w1 Q04 50 14 (by decide)) ((Q6s _ _).drew.trans b2) (by simp)
  have hz2 := b2.size
  simp at hz2
  have N0 : qzfw Q17 Q17 Q6y Q22 0 (.slice none 0 0) :=
   ⟨World.rangeAt_setCells_same _ _ _ _ T2, World.there_setCells T2 _ _ _, World.ownsRow_nil _ _ _ _, Only.refl _ _, by rw [qzp]; omega⟩
  have oo := qze Q6y Q3r 0 w2
  have P3 := qz45.only ⟨d0, d1, d2, d3⟩ oo (by omega) (by omega)
  have R3 := qz6s (qz5 (World.there_drew _ _ _ _ |>.2 (Q7h R1 _)) b2 (by simp; omega)) oo (by omega) (by omega)
  have bb3 := ((bb1.alloc (by omega) _).drew.trans (b2.mono (by simp; omega))).trans (oo.below (B := Q6o) (by omega) (by omega))
  clear b2 d0 d1 d2 d3 T2 oo
  go_wp2
  go_loopw [5] (fun i wr => ∃ (k : Nat) (hd : Value), k <= xN /\ i = .int .i64 k /\ qzfw Q17 wr Q6y Q22 k hd) (fun i _ => xN - (intOf i).toNat)
  case atStart => exact ⟨0, _, Nat.zero_le _, rfl, N0⟩
  case round =>
   obtain ⟨k, hd, hk, rfl, D⟩ := hrel
   have hz := D.only.size
   obtain ⟨e0, e1, e2, e3⟩ := P3.only D.only (by have := D.blk; omega) (by omega)
   by_cases hlt : k < xN
   ·have m9 := qz5y D.row
    have q9 := (D.th 9 (by omega)).2
    simp only [List.length_cons, List.length_nil, Nat.zero_add, Nat.reduceAdd] at m9 q9
    go_wp2
    go_region_law (first | (go_simp; go_at_call 125; refine (qz57 _).mono ?_; rintro e wa ⟨rfl, ba1⟩; have ba : Below wr.heap.size wr wa := (Below.refl _ wr).drew.trans ba1; clear ba1; have m10 := (ba.cell (p := ⟨w1.heap.size, 9, none⟩) (Nat.lt_of_lt_of_le D.blk D.only.size)).trans m9; have q10 := (ba.frozen (p := ⟨w1.heap.size, 9, none⟩) (Nat.lt_of_lt_of_le D.blk D.only.size)).trans q9; have m10a : ∀ o, (wa.alloc o).cell? ⟨w1.heap.size, 9, none⟩ = some hd := (fun o => (((Below.refl _ wa).alloc (Nat.le_refl _) o).cell (p := ⟨w1.heap.size, 9, none⟩) (Nat.lt_of_lt_of_le (Nat.lt_of_lt_of_le D.blk D.only.size) ba.size)).trans m10); have tk : True := trivial) | (clear tk; refine step_append_lies _ (by rfl) (.tmp 21) (.tmp 23) 46 (by rfl) (Q17).heap.size 56 i0 _ 22 176 Tryz.underlying46 hi hzr hsz hby (by rfl) (by omega) hd k (qz3s k) (by rfl) ((qzbp D.own ba).alloc _) ⟨wa.heap.size, 0, none⟩ 1 1 qz3j (by rfl) (by rfl) (qzbo wa _ _ (by kernel_rfl)) qzbd (by omega) (by unfold maxLen; omega) (by omega) (by have := ba.size; have := D.only.size; (try simp only [World.size_alloc] at *); omega) (wa.heap.size + 1) (by simp) ?_; intro g cap w4 hown4 hgrow hat hlt4; have b4 : Below (Q17).heap.size wr w4 := (((ba.mono (by exact D.only.size)).alloc (by have := ba.size; have := D.only.size; (try simp only [World.size_alloc] at *); omega) _).grown hgrow (by have := ba.size; have := D.only.size; (try simp only [World.size_alloc] at *); omega) (fun j e => qz1g D.own e)); have m11 := (b4.cell (p := ⟨w1.heap.size, 9, none⟩) D.blk).trans m9; have q11 := (b4.frozen (p := ⟨w1.heap.size, 9, none⟩) D.blk).trans q9))
    all_goals
     have S := D.step rfl (ba.alloc ba.size _) hown4 hgrow
     clear hown4 hgrow b4 hat hlt4 ba
     go_wp2
     go_roundw
     case rel => exact ⟨k + 1, _, by omega, by go_num, S⟩
     case measure => simp [intOf]; omega
   ·obtain rfl : xN = k := by omega
    obtain ⟨hg, hc, rfl⟩ := qz12 D.own (by omega)
    have R4 := qz6s R3 D.only (by have := D.blk; omega) (by omega)
    have Drow : wr.rangeAt Q6y 0 Q0q := D.row
    go_wp2_with (first | (refine Q6z rfl 50 (.tmp 4) rfl Q6y 0 rfl Q0q _ Drow Q7e rfl qz52 ?_) | (refine Q6t rfl 50 (.tmp 2) (.tmp 26) rfl (Q6o + 1) 0 _ rfl rfl ?ht ?hi ?h1 ?_))
    case ht => exact R4
    case hi => exact qz52
    case h1 => simp [Value.oneCell']
    refine bodyPost_ret (v := .tuple #[.agg (Q0q).toArray, .bool true]) ?_ rfl ⟨_, _, _, _, _, _, _, rfl, ?_, ?_, ?_⟩
    ·exact qzl Tryz.results88 _ _ (Q6o + 1) 0 rfl Q0q _ (Q6u _ _ _ _ R4) Q7e rfl qz52
    ·have hl := hlow.out.1
     simp at hl
     exact qzff (qz70 IB (qze Q6y _ 0 w2) (by omega)) (by omega) (by omega) D.only D.own (by rw [qzp]; omega) _
    ·exact Below.setCells (by omega) _ _ _ (bb3.trans (D.only.below (by omega) (by have := D.blk; omega)))
    ·have hl := hlow.out.1
     simp at hl
     have hgg := qz1g D.own rfl
     have hgg' : (_ : Nat) <= hg := hgg
     simp [qzp] at hgg'
     refine ⟨by omega, ?_⟩
     exact (((hlow.out.2.only (qze Q6y _ 0 w2) (by simp)).only D.only (by simp)).only (qze (Q6o + 1) _ 0 wr) (by simp; omega)).lo (by simp; omega)
end
end Go.Proofs.YthjkdnlmopafkaaGreatDoor
