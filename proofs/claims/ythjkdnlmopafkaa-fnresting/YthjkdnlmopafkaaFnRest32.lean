/-
  What the law's proof goes by, part 33.
-/
import Derived.Deep.RegionHeld3
import Derived.Deep.RegionLaw
import Derived.Deep.AppendLies
import Derived.Deep.DrawnRows
import Derived.Deep.DeepCutAuto
import Derived.Test.YthjkdnlmopafkaaFnRest00
import Derived.Test.YthjkdnlmopafkaaFnRest01
import Derived.Test.YthjkdnlmopafkaaFnRest31
namespace Go.Proofs.Ythjkdnlmopafkaa
open Go.ChangeShapes Go.WideShapes Go.ChangeAt Go.RowKit
set_option maxRecDepth 100000
set_option maxHeartbeats 16000000
set_option linter.unusedVariables false
set_option linter.unusedSimpArgs false
set_option linter.unnecessarySimpa false
set_option linter.unusedSectionVars false
section
attribute [local go_sem ↓] Go.wp_at_zero Go.wp_at_succ
theorem qz3l.drew {W : World} {b : Nat} {x y z u : Int} (h : qz3l W b x y z u) : qz3l W.drew b x y z u := h
theorem qz3l.only {w w' : World} {b c : Nat} {x y z u : Int} (P : qz3l w b x y z u) (hO : Only c w w') (hb : b < w.heap.size) (hne : b ≠ c) : qz3l w' b x y z u :=
 ⟨(hO.cell (p := ⟨b, 0, none⟩) hb hne).trans P.1, (hO.cell (p := ⟨b, 1, none⟩) hb hne).trans P.2.1, (hO.cell (p := ⟨b, 2, none⟩) hb hne).trans P.2.2.1, (hO.cell (p := ⟨b, 3, none⟩) hb hne).trans P.2.2.2⟩
theorem qz3l.alloc {W : World} {b : Nat} {x y z u : Int} (h : qz3l W b x y z u) (hb : b < W.heap.size) (o : Obj) : qz3l (W.alloc o) b x y z u := h.below ((Below.refl _ _).alloc (Nat.le_refl _) o) hb
theorem qz7z {G : Prop} {w1 w2 : World} (b2 : Below (w1.alloc (Obj.cells #[.int .i64 0, .int .i64 0, .int .i64 0, .int .i64 0, .int .i64 0, .slice none 0 0, .slice none 0 0, .slice none 0 0, .slice none 0 0, .slice none 0 0, .slice none 0 0, .slice none 0 0, .slice none 0 0, .int .i64 0] 35)).drew.heap.size (w1.alloc (Obj.cells #[.int .i64 0, .int .i64 0, .int .i64 0, .int .i64 0, .int .i64 0, .slice none 0 0, .slice none 0 0, .slice none 0 0, .slice none 0 0, .slice none 0 0, .slice none 0 0, .slice none 0 0, .slice none 0 0, .int .i64 0] 35)).drew w2)
  (k : (w2.cell? ⟨w1.heap.size, 0, none⟩ = some (.int .i64 0) /\ w2.cell? ⟨w1.heap.size, 1, none⟩ = some (.int .i64 0) /\ w2.cell? ⟨w1.heap.size, 2, none⟩ = some (.int .i64 0) /\ w2.cell? ⟨w1.heap.size, 3, none⟩ = some (.int .i64 0) /\ w2.cell? ⟨w1.heap.size, 4, none⟩ = some (.int .i64 0) /\ w2.cell? ⟨w1.heap.size, 5, none⟩ = some (.slice none 0 0) /\ w2.cell? ⟨w1.heap.size, 6, none⟩ = some (.slice none 0 0) /\ w2.cell? ⟨w1.heap.size, 7, none⟩ = some (.slice none 0 0) /\ w2.cell? ⟨w1.heap.size, 8, none⟩ = some (.slice none 0 0) /\ w2.cell? ⟨w1.heap.size, 9, none⟩ = some (.slice none 0 0) /\ w2.cell? ⟨w1.heap.size, 10, none⟩ = some (.slice none 0 0) /\ w2.cell? ⟨w1.heap.size, 11, none⟩ = some (.slice none 0 0) /\ w2.cell? ⟨w1.heap.size, 12, none⟩ = some (.slice none 0 0) /\ w2.cell? ⟨w1.heap.size, 13, none⟩ = some (.int .i64 0) /\ w2.frozen? ⟨w1.heap.size, 0, none⟩ = false /\ w2.frozen? ⟨w1.heap.size, 1, none⟩ = false /\ w2.frozen? ⟨w1.heap.size, 2, none⟩ = false /\ w2.frozen? ⟨w1.heap.size, 3, none⟩ = false /\ w2.frozen? ⟨w1.heap.size, 4, none⟩ = false /\ w2.frozen? ⟨w1.heap.size, 5, none⟩ = false /\ w2.frozen? ⟨w1.heap.size, 6, none⟩ = false /\ w2.frozen? ⟨w1.heap.size, 7, none⟩ = false /\ w2.frozen? ⟨w1.heap.size, 8, none⟩ = false /\ w2.frozen? ⟨w1.heap.size, 9, none⟩ = false /\ w2.frozen? ⟨w1.heap.size, 10, none⟩ = false /\ w2.frozen? ⟨w1.heap.size, 11, none⟩ = false /\ w2.frozen? ⟨w1.heap.size, 12, none⟩ = false /\ w2.frozen? ⟨w1.heap.size, 13, none⟩ = false) -> G) : G := by
 have T := qz6 (qzh w1 #[.int .i64 0, .int .i64 0, .int .i64 0, .int .i64 0, .int .i64 0, .slice none 0 0, .slice none 0 0, .slice none 0 0, .slice none 0 0, .slice none 0 0, .slice none 0 0, .slice none 0 0, .slice none 0 0, .int .i64 0] 35 14 (by decide)) ((Below.refl _ _).drew.trans b2) (by simp)
 have hc : ∀ j, w2.cell? ⟨w1.heap.size, j, none⟩ = (w1.alloc (Obj.cells #[.int .i64 0, .int .i64 0, .int .i64 0, .int .i64 0, .int .i64 0, .slice none 0 0, .slice none 0 0, .slice none 0 0, .slice none 0 0, .slice none 0 0, .slice none 0 0, .slice none 0 0, .slice none 0 0, .int .i64 0] 35)).cell? ⟨w1.heap.size, j, none⟩ := fun j => b2.cell (p := ⟨w1.heap.size, j, none⟩) (by simp)
 have hf : ∀ j, j < 14 -> w2.frozen? ⟨w1.heap.size, j, none⟩ = false := fun j hj => by simpa using (T j hj).2
 exact k ⟨(hc 0).trans (by simp [World.cell?_alloc_new]), (hc 1).trans (by simp [World.cell?_alloc_new]), (hc 2).trans (by simp [World.cell?_alloc_new]), (hc 3).trans (by simp [World.cell?_alloc_new]), (hc 4).trans (by simp [World.cell?_alloc_new]), (hc 5).trans (by simp [World.cell?_alloc_new]), (hc 6).trans (by simp [World.cell?_alloc_new]), (hc 7).trans (by simp [World.cell?_alloc_new]), (hc 8).trans (by simp [World.cell?_alloc_new]), (hc 9).trans (by simp [World.cell?_alloc_new]), (hc 10).trans (by simp [World.cell?_alloc_new]), (hc 11).trans (by simp [World.cell?_alloc_new]), (hc 12).trans (by simp [World.cell?_alloc_new]), (hc 13).trans (by simp [World.cell?_alloc_new]), hf 0 (by omega), hf 1 (by omega), hf 2 (by omega), hf 3 (by omega), hf 4 (by omega), hf 5 (by omega), hf 6 (by omega), hf 7 (by omega), hf 8 (by omega), hf 9 (by omega), hf 10 (by omega), hf 11 (by omega), hf 12 (by omega), hf 13 (by omega)⟩
theorem qz57 {w : World} {b o : Nat} {p q : List Value} {h : Value} (R : w.rangeAt b o (p ++ h :: q)) : w.cell? ⟨b, o + p.length, none⟩ = some h := R p.length h (by simp)
theorem qz6z {w : World} {b o : Nat} {p q : List Value} {h : Value} (R : w.rangeAt b o (p ++ h :: q)) (v : Value) : (w.setCell ⟨b, o + p.length, none⟩ v).rangeAt b o (p ++ v :: q) := by
 intro j u hj
 by_cases e : j = p.length
 ·subst e
  simp at hj
  subst hj
  exact World.cell?_setCell_same _ _ _ (qz57 R)
 ·have hne : (⟨b, o + p.length, none⟩ : Addr) ≠ ⟨b, o + j, none⟩ := by
   intro h'
   have := congrArg Addr.off h'
   simp at this
   omega
  refine (World.cell?_setCell_other _ _ _ _ hne).trans (R j u ?_)
  rw [List.getElem?_append] at hj ⊢
  by_cases hl : j < p.length
  ·simpa [hl] using hj
  ·simp only [hl, if_false] at hj ⊢
   obtain ⟨m, hm⟩ : ∃ m, j - p.length = m + 1 := ⟨j - p.length - 1, by omega⟩
   rw [hm] at hj ⊢
   simpa using hj
theorem qz83 {w w' : World} {b c o : Nat} {cs : List Value} (h : w.rangeAt b o cs) (hO : Only c w w') (hb : b < w.heap.size) (hne : b ≠ c) : w'.rangeAt b o cs :=
 fun j v hv => (hO.cell (p := ⟨b, o + j, none⟩) hb hne).trans (h j v hv)
theorem qz5s {w w' : World} {b c o n : Nat} (h : w.there b o n) (hO : Only c w w') (hb : b < w.heap.size) (hne : b ≠ c) : w'.there b o n :=
 fun j hj => by rw [hO.cell (p := ⟨b, o + j, none⟩) hb hne, hO.frozen (p := ⟨b, o + j, none⟩) hb hne]; exact h j hj
def qzdd : List Value := [.slice none 0 0, .slice none 0 0, .slice none 0 0, .int .i64 0]
def qz3a (k : Nat) : List Value := (List.replicate k qz36).flatten
theorem qz4f : (Try.prog.info? 35).map (fun i => i.size) = some 14 := by kernel_rfl
theorem qzb7 : (Try.prog.info? 56).map (fun i => (i.zero, i.size, i.bytes)) = some (some (.agg #[.int .i64 0, .int .i64 0, .int .i64 0, .int .i64 0, .int .i64 0, .int .i64 0, .int .i64 0, .int .i64 0, .int .i64 0, .int .i64 0, .int .i64 0, .int .i64 0, .int .i64 0, .int .i64 0, .int .i64 0, .int .i64 0, .int .i64 0, .int .i64 0, .int .i64 0, .int .i64 0, .int .i64 0, .int .i64 0]), 22, 176) := by kernel_rfl
theorem qz8i (wa : World) (C : Array Value) (T : TypeId) (hC : C = qz36.toArray) : ∀ j u, qz36[j]? = some u -> (wa.alloc (.cells C T)).cell? ((⟨wa.heap.size, 0, none⟩ : Addr).add j) = some u := by
 intro j u hu
 subst hC
 rw [Addr.add_mid]
 exact qzd wa qz36 T j u hu
theorem qz8t : ∀ u ∈ qz36, u.oneCell' = true := by
 intro u hu
 simp only [qz36, List.mem_cons, List.not_mem_nil, or_false] at hu
 rcases hu with rfl | rfl | rfl | rfl | rfl | rfl | rfl | rfl | rfl | rfl | rfl | rfl | rfl | rfl | rfl | rfl | rfl | rfl | rfl | rfl | rfl | rfl <;> rfl
theorem qz8o {w w' : World} {base : Nat} {e : TypeId} {size : Nat} {v : Value} {n : Nat} {xs : List Value} (h : w.ownsRow base e size v n xs) (hb : Below w.heap.size w w') : w'.ownsRow base e size v n xs := by
 obtain ⟨h1, h2⟩ := h
 refine ⟨h1, ?_⟩
 rcases h2 with h2 | ⟨g, cap, cur, hv, hg, hh, r⟩
 ·exact Or.inl h2
 ·have hlt : g < w.heap.size := by
   rcases Nat.lt_or_ge g w.heap.size with hl | hl
   ·exact hl
   ·rw [Array.getElem?_eq_none hl] at hh; cases hh
  exact Or.inr ⟨g, cap, cur, hv, hg, by rw [hb.block g hlt]; exact hh, r⟩
structure qzce (w0 wr : World) (A : Nat) (p : List Value) (k : Nat) (h : Value) : Prop where
 row : wr.rangeAt A 0 (p ++ h :: qzdd)
 th : wr.there A 0 14
 own : wr.ownsRow w0.heap.size 56 22 h k (qz3a k)
 only : Only A w0 wr
 blk : A < w0.heap.size
theorem qzce.step {w0 wr : World} {A : Nat} {p : List Value} {k : Nat} {h : Value} (hp : p.length = 9) (D : qzce w0 wr A p k h) {wa w2 : World} {v' : Value} (ba : Below wr.heap.size wr wa)
  (ho : w2.ownsRow w0.heap.size 56 22 v' (k + 1) (qz3a k ++ qz36)) (hg : wa.grownBy w2 h.ownBlock) :
  qzce w0 (w2.setCell ⟨A, 9, none⟩ v') A p (k + 1) v' := by
 have hz := D.only.size
 have hz2 := ba.size
 have b2 : Below w0.heap.size wr w2 := (ba.mono hz).grown hg (by omega) (fun j e => qz1g D.own e)
 have R2 := qz0 D.row b2 D.blk
 have T2 := qz6 D.th b2 D.blk
 have S2 := qz6z R2 v'
 simp only [hp, Nat.zero_add] at S2
 refine ⟨S2, qz3 T2 _ _, ?_, ?_, D.blk⟩
 ·have e : qz3a (k + 1) = qz3a k ++ qz36 := by
   unfold qz3a
   rw [List.replicate_succ', List.flatten_append]
   simp
  rw [e]
  exact ownsRow_setCell_below ho D.blk _
 ·have o2 : Only A w0 w2 := ⟨b2.os.trans D.only.os, b2.tape.trans D.only.tape, b2.output.trans D.only.output, Nat.le_trans hz b2.size, fun j hj hn => (b2.block j hj).trans (D.only.block j hj hn)⟩
  exact o2.setCell (Or.inl rfl) _
def newW (xN uN : Nat) : Wd := ⟨qz2a xN uN, List.replicate xN newH, [], [], [], 0⟩
theorem qz8b (k : Nat) : qz3a k = qzm hdC (List.replicate k newH) := by
 unfold qz3a qzm
 show _ = ((List.replicate k newH).map hdC).flatten
 rw [List.map_replicate]
 rfl
theorem qz51 {w w' : World} {A b len cap : Nat} {cs : List Value} (S : qz12 w.heap.size w (.slice (some ⟨b, 0, none⟩) len cap) len cs) (hO : Only A w w') (hne : b ≠ A) : qz12 w'.heap.size w' (.slice (some ⟨b, 0, none⟩) len cap) len cs := by
 obtain ⟨a', cap', e, h⟩ := S
 cases e
 refine ⟨_, _, rfl, ?_⟩
 rcases h with h | ⟨bb, off, e, lt, R⟩
 ·exact Or.inl h
 ·cases e
  exact Or.inr ⟨_, _, rfl, Nat.lt_of_lt_of_le lt hO.size, qz83 R hO lt hne⟩
theorem qz5u {w w' : World} {A xN uN sg sc gb nb vb : Nat} (I : qz1v w.heap.size w (.slice (some ⟨sg, 0, none⟩) xN sc) (.slice (some ⟨gb, 0, none⟩) uN uN) (.slice (some ⟨nb, 0, none⟩) 1 1) (.slice (some ⟨vb, 0, none⟩) 1 1) (qz2a xN uN)) (hO : Only A w w') (h : sg ≠ A /\ gb ≠ A /\ nb ≠ A /\ vb ≠ A) : qz1v w'.heap.size w' (.slice (some ⟨sg, 0, none⟩) xN sc) (.slice (some ⟨gb, 0, none⟩) uN uN) (.slice (some ⟨nb, 0, none⟩) 1 1) (.slice (some ⟨vb, 0, none⟩) 1 1) (qz2a xN uN) := by
 have l1 : (qz2a xN uN).slots.length = xN := by simp [qz2a]
 have l2 : (qz2a xN uN).guides.length = uN := by simp [qz2a]
 refine ⟨?_, ?_, qz51 I.n hO h.2.2.1, qz51 I.r hO h.2.2.2⟩
 ·have := I.s
  rw [l1] at this ⊢
  exact qz51 this hO h.1
 ·have := I.g
  rw [l2] at this ⊢
  exact qz51 this hO h.2.1
theorem qzbq {w0 wr : World} {A c xN uN sg sc gb nb vb hg hc : Nat} (I : qz1v w0.heap.size w0 (.slice (some ⟨sg, 0, none⟩) xN sc) (.slice (some ⟨gb, 0, none⟩) uN uN) (.slice (some ⟨nb, 0, none⟩) 1 1) (.slice (some ⟨vb, 0, none⟩) 1 1) (qz2a xN uN)) (hne : sg ≠ A /\ gb ≠ A /\ nb ≠ A /\ vb ≠ A) (hcc : c < sg /\ c < gb /\ c < nb /\ c < vb) (hO : Only A w0 wr) (own : wr.ownsRow w0.heap.size 56 22 (.slice (some ⟨hg, 0, none⟩) xN hc) xN (qz3a xN)) (hcl : c < w0.heap.size) (cs : List Value) :
  WdIs (wr.setCells c 0 cs).heap.size (wr.setCells c 0 cs) (.slice (some ⟨sg, 0, none⟩) xN sc) (.slice (some ⟨gb, 0, none⟩) uN uN) (.slice (some ⟨nb, 0, none⟩) 1 1) (.slice (some ⟨vb, 0, none⟩) 1 1) (.slice (some ⟨hg, 0, none⟩) xN hc) (.slice none 0 0) (.slice none 0 0) (.slice none 0 0) (newW xN uN) := by
 have hO2 := qz9 c cs 0 wr
 have I2 := qz5u (qz5u I hO hne) hO2 (by omega)
 have own2 := qzx own hO2 (fun j e => by have := qz1g own e; omega)
 rw [qz8b] at own2
 refine ⟨I2, ?_, ⟨_, _, rfl, Or.inl rfl⟩, ⟨_, _, rfl, Or.inl rfl⟩, ⟨_, _, rfl, Or.inl rfl⟩⟩
 have := qz2o own2
 simpa [newW] using this
theorem qzc8 (xN uN : Nat) (y z : Int) (hp : qz3j xN y z uN = true) : WInv xN y z uN (newW xN uN) := by
 have hr := (qz27 xN y z uN).1 hp
 have hA : ArP xN y z uN (qz2a xN uN) := by
  refine ⟨hp, by simp [qz2a], by simp [qz2a], by simp [qz2a], by simp [qz2a]; omega, by simp [qz2a]; omega, fun s hs => ?_, fun g hg => ?_, fun n a b => ?_, fun v a b => ?_⟩
  ·simp [qz2a] at hs; omega
  ·simp [qz2a] at hg ⊢; omega
  ·obtain rfl : n = 0 := by simp [qz2a] at b; omega
   exact ⟨fun _ => by simp [ndOf, qz2a], fun h => absurd rfl h, by simp [ndOf, qz2a], by simp [ndOf, qz2a]⟩
  ·obtain rfl : v = 0 := by simp [qz2a] at b; omega
   exact ⟨by simp [vrOf, qz2a], by simp [vrOf, qz2a], by simp [vrOf, qz2a], by simp [vrOf, qz2a]⟩
 have hH : HP (qz2a xN uN) newH := by
  constructor <;> simp [newH, qz2a]
 refine ⟨hA, ⟨fun v a b => ?_, ?_⟩, by simp [newW], fun i h => by simpa [newW] using hH, fun i hi p => ?_, by simp [newW], by simp [newW], fun c hc => by simp [newW] at hc, by simp [newW], fun d hd => by simp [newW] at hd, by simp [newW, qz2a], fun t ht => by simp [newW] at ht, fun i h => by simp [newW] at h⟩
 ·obtain rfl : v = 0 := by simp [newW, qz2a] at b; omega
  simp [vrOf, newW, qz2a]
 ·simp [vrOf, ndOf, newW, qz2a]
 ·have := p.1
  simp [newW, newH] at this
theorem qz5f (xN uN : Nat) (y z : Int) (w : World) (hp : qz3j xN y z uN = true) :
  Calls Try.prog 31 #[.agg #[.int .i64 xN, .int .i64 y, .int .i64 z, .int .i64 uN]] w fun e w' => ∃ sg sc gb nb vb hg hc, e = .returned (.tuple #[.agg #[.int .i64 xN, .int .i64 y, .int .i64 z, .int .i64 uN, .int .i64 0, .slice (some ⟨sg, 0, none⟩) xN sc, .slice (some ⟨gb, 0, none⟩) uN uN, .slice (some ⟨nb, 0, none⟩) 1 1, .slice (some ⟨vb, 0, none⟩) 1 1, .slice (some ⟨hg, 0, none⟩) xN hc, .slice none 0 0, .slice none 0 0, .slice none 0 0, .int .i64 0], .bool true]) /\ WdIs w'.heap.size w' (.slice (some ⟨sg, 0, none⟩) xN sc) (.slice (some ⟨gb, 0, none⟩) uN uN) (.slice (some ⟨nb, 0, none⟩) 1 1) (.slice (some ⟨vb, 0, none⟩) 1 1) (.slice (some ⟨hg, 0, none⟩) xN hc) (.slice none 0 0) (.slice none 0 0) (.slice none 0 0) (newW xN uN) /\ Below w.heap.size w w' /\ Hid (w.heap.size <= sg /\ w.heap.size <= gb /\ w.heap.size <= nb /\ w.heap.size <= vb /\ w.heap.size <= hg) := by
 have hr := (qz27 xN y z uN).1 hp
 obtain ⟨⟨hx1, hx2⟩, _⟩ := hr
 have P0 := qz1t w xN y z uN 25
 obtain ⟨i0, hi, hzr, hsz, hby⟩ := info_parts qzb7
 have hl22 : qz36.length = 22 := rfl
 go_enter Try.func31, Try.ntmps31
 go_wp2_with fail
 have R0 := qzh (w.alloc (Obj.cells #[.int .i64 xN, .int .i64 y, .int .i64 z, .int .i64 uN] 25)) #[.int .i64 0, .int .i64 0, .int .i64 0, .int .i64 0, .int .i64 0, .slice none 0 0, .slice none 0 0, .slice none 0 0, .slice none 0 0, .slice none 0 0, .slice none 0 0, .slice none 0 0, .slice none 0 0, .int .i64 0] 35 14 (by decide)
 refine (qz1p _ _ _ _ _).mono ?_
 rintro e w1 ⟨rfl, b1⟩
 have hz1 := b1.size
 simp at hz1
 have P1 := (P0.below ((Below.refl _ _).alloc (Nat.le_refl _) _) (by simp)).below b1 (by simp; omega)
 have R1 := qz6 R0 b1 (by simp)
 have bb1 := (((Below.refl w.heap.size w).alloc (Nat.le_refl _) (Obj.cells #[.int .i64 xN, .int .i64 y, .int .i64 z, .int .i64 uN] 25)).alloc (by simp) (Obj.cells #[.int .i64 0, .int .i64 0, .int .i64 0, .int .i64 0, .int .i64 0, .slice none 0 0, .slice none 0 0, .slice none 0 0, .slice none 0 0, .slice none 0 0, .slice none 0 0, .slice none 0 0, .slice none 0 0, .int .i64 0] 35)).trans (b1.mono (by simp; omega))
 simp only [World.size_alloc] at R1
 have P1' := P1
 obtain ⟨c0, c1, c2, c3⟩ := P1'
 clear b1 P0 R0
 rw [hp]
 go_wp2
 have n0 := World.new_ne w1 _ c0
 have n1 := World.new_ne w1 _ c1
 have n2 := World.new_ne w1 _ c2
 have n3 := World.new_ne w1 _ c3
 go_region_held3 (fun w' => w'.cell? ⟨w.heap.size, 0, none⟩ = some (.int .i64 xN) /\ w'.cell? ⟨w.heap.size, 1, none⟩ = some (.int .i64 y) /\ w'.cell? ⟨w.heap.size, 2, none⟩ = some (.int .i64 z) /\ w'.cell? ⟨w.heap.size, 3, none⟩ = some (.int .i64 uN)) (go_keep) ((go_at_call 13; refine (qz7g _ _ _ _ _ hp).mono ?_; rintro e w2 ⟨sg, sc, gb, nb, vb, rfl, IB, b2, hlow⟩; have Q2 : qz3l w2 w.heap.size xN y z uN := (by first | exact P1.drew.below b2 (by simp; omega) | exact (P1.alloc (by omega) _).drew.below b2 (by simp; omega)); obtain ⟨d0, d1, d2, d3⟩ := Q2; (first | (refine qz7z b2 ?_; rintro ⟨t0, t1, t2, t3, t4, t5, t6, t7, t8, t9, t10, t11, t12, t13, u0, u1, u2, u3, u4, u5, u6, u7, u8, u9, u10, u11, u12, u13⟩) | skip)))
 ·clear n0 n1 n2 n3 c0 c1 c2 c3
  have N0 : qzce (w2.alloc (Obj.cells #[.int .i64 xN, .int .i64 y, .int .i64 z, .int .i64 uN, .int .i64 0, .slice (some ⟨sg, 0, none⟩) xN sc, .slice (some ⟨gb, 0, none⟩) uN uN, .slice (some ⟨nb, 0, none⟩) 1 1, .slice (some ⟨vb, 0, none⟩) 1 1, .slice none 0 0, .slice none 0 0, .slice none 0 0, .slice none 0 0, .int .i64 0] 35)) (w2.alloc (Obj.cells #[.int .i64 xN, .int .i64 y, .int .i64 z, .int .i64 uN, .int .i64 0, .slice (some ⟨sg, 0, none⟩) xN sc, .slice (some ⟨gb, 0, none⟩) uN uN, .slice (some ⟨nb, 0, none⟩) 1 1, .slice (some ⟨vb, 0, none⟩) 1 1, .slice none 0 0, .slice none 0 0, .slice none 0 0, .slice none 0 0, .int .i64 0] 35)) w2.heap.size [.int .i64 xN, .int .i64 y, .int .i64 z, .int .i64 uN, .int .i64 0, .slice (some ⟨sg, 0, none⟩) xN sc, .slice (some ⟨gb, 0, none⟩) uN uN, .slice (some ⟨nb, 0, none⟩) 1 1, .slice (some ⟨vb, 0, none⟩) 1 1] 0 (.slice none 0 0) :=
   ⟨qzd w2 [.int .i64 xN, .int .i64 y, .int .i64 z, .int .i64 uN, .int .i64 0, .slice (some ⟨sg, 0, none⟩) xN sc, .slice (some ⟨gb, 0, none⟩) uN uN, .slice (some ⟨nb, 0, none⟩) 1 1, .slice (some ⟨vb, 0, none⟩) 1 1, .slice none 0 0, .slice none 0 0, .slice none 0 0, .slice none 0 0, .int .i64 0] 35, qzh _ _ _ _ (by simp), World.ownsRow_nil _ _ _ _, Only.refl _ _, by simp⟩
  have hz2 := b2.size
  simp at hz2
  have P3 : qz3l (w2.alloc (Obj.cells #[.int .i64 xN, .int .i64 y, .int .i64 z, .int .i64 uN, .int .i64 0, .slice (some ⟨sg, 0, none⟩) xN sc, .slice (some ⟨gb, 0, none⟩) uN uN, .slice (some ⟨nb, 0, none⟩) 1 1, .slice (some ⟨vb, 0, none⟩) 1 1, .slice none 0 0, .slice none 0 0, .slice none 0 0, .slice none 0 0, .int .i64 0] 35)) w.heap.size xN y z uN := qz3l.alloc ⟨d0, d1, d2, d3⟩ (by omega) _
  have R3 := World.there_alloc (qz6 (World.there_drew _ _ _ _ |>.2 R1) b2 (by simp; omega)) (Obj.cells #[.int .i64 xN, .int .i64 y, .int .i64 z, .int .i64 uN, .int .i64 0, .slice (some ⟨sg, 0, none⟩) xN sc, .slice (some ⟨gb, 0, none⟩) uN uN, .slice (some ⟨nb, 0, none⟩) 1 1, .slice (some ⟨vb, 0, none⟩) 1 1, .slice none 0 0, .slice none 0 0, .slice none 0 0, .slice none 0 0, .int .i64 0] 35)
  have bb3 := (bb1.drew.trans (b2.mono (by simp; omega))).alloc (by omega) (Obj.cells #[.int .i64 xN, .int .i64 y, .int .i64 z, .int .i64 uN, .int .i64 0, .slice (some ⟨sg, 0, none⟩) xN sc, .slice (some ⟨gb, 0, none⟩) uN uN, .slice (some ⟨nb, 0, none⟩) 1 1, .slice (some ⟨vb, 0, none⟩) 1 1, .slice none 0 0, .slice none 0 0, .slice none 0 0, .slice none 0 0, .int .i64 0] 35)
  clear b2 d0 d1 d2 d3
  go_wp2
  go_loopw [5] (fun i wr => ∃ (k : Nat) (hd : Value), k <= xN /\ i = .int .i64 k /\ qzce (w2.alloc (Obj.cells #[.int .i64 xN, .int .i64 y, .int .i64 z, .int .i64 uN, .int .i64 0, .slice (some ⟨sg, 0, none⟩) xN sc, .slice (some ⟨gb, 0, none⟩) uN uN, .slice (some ⟨nb, 0, none⟩) 1 1, .slice (some ⟨vb, 0, none⟩) 1 1, .slice none 0 0, .slice none 0 0, .slice none 0 0, .slice none 0 0, .int .i64 0] 35)) wr w2.heap.size [.int .i64 xN, .int .i64 y, .int .i64 z, .int .i64 uN, .int .i64 0, .slice (some ⟨sg, 0, none⟩) xN sc, .slice (some ⟨gb, 0, none⟩) uN uN, .slice (some ⟨nb, 0, none⟩) 1 1, .slice (some ⟨vb, 0, none⟩) 1 1] k hd) (fun i _ => xN - (intOf i).toNat)
  case atStart => exact ⟨0, _, Nat.zero_le _, rfl, N0⟩
  case round =>
   obtain ⟨k, hd, hk, rfl, D⟩ := hrel
   have hz := D.only.size
   obtain ⟨e0, e1, e2, e3⟩ := P3.only D.only (by have := D.blk; omega) (by omega)
   by_cases hlt : k < xN
   ·have m9 := qz57 D.row
    have q9 := (D.th 9 (by omega)).2
    simp only [List.length_cons, List.length_nil, Nat.zero_add, Nat.reduceAdd] at m9 q9
    go_wp2
    go_region_law (first | (go_simp; go_at_call 66; refine (qz4m _).mono ?_; rintro e wa ⟨rfl, ba1⟩; have ba : Below wr.heap.size wr wa := (Below.refl _ wr).drew.trans ba1; clear ba1; have m10 := (ba.cell (p := ⟨w2.heap.size, 9, none⟩) (Nat.lt_of_lt_of_le D.blk D.only.size)).trans m9; have q10 := (ba.frozen (p := ⟨w2.heap.size, 9, none⟩) (Nat.lt_of_lt_of_le D.blk D.only.size)).trans q9; have m10a : ∀ o, (wa.alloc o).cell? ⟨w2.heap.size, 9, none⟩ = some hd := (fun o => (((Below.refl _ wa).alloc (Nat.le_refl _) o).cell (p := ⟨w2.heap.size, 9, none⟩) (Nat.lt_of_lt_of_le (Nat.lt_of_lt_of_le D.blk D.only.size) ba.size)).trans m10); have tk : True := trivial) | (clear tk; refine step_append_lies _ (by rfl) (.tmp 21) (.tmp 23) 31 (by rfl) (w2.alloc (Obj.cells #[.int .i64 xN, .int .i64 y, .int .i64 z, .int .i64 uN, .int .i64 0, .slice (some ⟨sg, 0, none⟩) xN sc, .slice (some ⟨gb, 0, none⟩) uN uN, .slice (some ⟨nb, 0, none⟩) 1 1, .slice (some ⟨vb, 0, none⟩) 1 1, .slice none 0 0, .slice none 0 0, .slice none 0 0, .slice none 0 0, .int .i64 0] 35)).heap.size 56 i0 _ 22 176 Try.underlying31 hi hzr hsz hby (by rfl) (by omega) hd k (qz3a k) (by rfl) ((qz8o D.own ba).alloc _) ⟨wa.heap.size, 0, none⟩ 1 1 qz36 (by rfl) (by rfl) (qz8i wa _ _ (by kernel_rfl)) qz8t (by omega) (by unfold maxLen; omega) (by omega) (by have := ba.size; have := D.only.size; (try simp only [World.size_alloc] at *); omega) (wa.heap.size + 1) (by simp) ?_; intro g cap w4 hown4 hgrow hat hlt4; have b4 : Below (w2.alloc (Obj.cells #[.int .i64 xN, .int .i64 y, .int .i64 z, .int .i64 uN, .int .i64 0, .slice (some ⟨sg, 0, none⟩) xN sc, .slice (some ⟨gb, 0, none⟩) uN uN, .slice (some ⟨nb, 0, none⟩) 1 1, .slice (some ⟨vb, 0, none⟩) 1 1, .slice none 0 0, .slice none 0 0, .slice none 0 0, .slice none 0 0, .int .i64 0] 35)).heap.size wr w4 := (((ba.mono (by exact D.only.size)).alloc (by have := ba.size; have := D.only.size; (try simp only [World.size_alloc] at *); omega) _).grown hgrow (by have := ba.size; have := D.only.size; (try simp only [World.size_alloc] at *); omega) (fun j e => qz1g D.own e)); have m11 := (b4.cell (p := ⟨w2.heap.size, 9, none⟩) D.blk).trans m9; have q11 := (b4.frozen (p := ⟨w2.heap.size, 9, none⟩) D.blk).trans q9))
    all_goals
     have S := D.step rfl (ba.alloc ba.size _) hown4 hgrow
     clear hown4 hgrow b4 hat hlt4 ba
     go_wp2
     go_roundw
     case rel => exact ⟨k + 1, _, by omega, by go_num, S⟩
     case measure => simp [intOf]; omega
   ·obtain rfl : xN = k := by omega
    obtain ⟨hg, hc, rfl⟩ := qz19 D.own (by omega)
    have R4 := qz5s R3 D.only (by have := D.blk; omega) (by omega)
    have Drow : wr.rangeAt w2.heap.size 0 [.int .i64 xN, .int .i64 y, .int .i64 z, .int .i64 uN, .int .i64 0, .slice (some ⟨sg, 0, none⟩) xN sc, .slice (some ⟨gb, 0, none⟩) uN uN, .slice (some ⟨nb, 0, none⟩) 1 1, .slice (some ⟨vb, 0, none⟩) 1 1, .slice (some ⟨hg, 0, none⟩) xN hc, .slice none 0 0, .slice none 0 0, .slice none 0 0, .int .i64 0] := D.row
    go_wp2_with (first | (refine wpList_load_mid rfl 35 (.tmp 4) rfl w2.heap.size 0 rfl [.int .i64 xN, .int .i64 y, .int .i64 z, .int .i64 uN, .int .i64 0, .slice (some ⟨sg, 0, none⟩) xN sc, .slice (some ⟨gb, 0, none⟩) uN uN, .slice (some ⟨nb, 0, none⟩) 1 1, .slice (some ⟨vb, 0, none⟩) 1 1, .slice (some ⟨hg, 0, none⟩) xN hc, .slice none 0 0, .slice none 0 0, .slice none 0 0, .int .i64 0] _ Drow Try.underlying35 rfl qz4f ?_) | (refine wpList_store_mid rfl 35 (.tmp 2) (.tmp 26) rfl (w.heap.size + 1) 0 _ rfl rfl ?ht ?hi ?h1 ?_))
    case ht => exact R4
    case hi => exact qz4f
    case h1 => simp [Value.oneCell']
    refine bodyPost_ret (v := .tuple #[.agg [.int .i64 xN, .int .i64 y, .int .i64 z, .int .i64 uN, .int .i64 0, .slice (some ⟨sg, 0, none⟩) xN sc, .slice (some ⟨gb, 0, none⟩) uN uN, .slice (some ⟨nb, 0, none⟩) 1 1, .slice (some ⟨vb, 0, none⟩) 1 1, .slice (some ⟨hg, 0, none⟩) xN hc, .slice none 0 0, .slice none 0 0, .slice none 0 0, .int .i64 0].toArray, .bool true]) ?_ rfl ⟨_, _, _, _, _, _, _, rfl, ?_, ?_, ?_⟩
    ·exact qzn Try.results31 _ _ (w.heap.size + 1) 0 rfl [.int .i64 xN, .int .i64 y, .int .i64 z, .int .i64 uN, .int .i64 0, .slice (some ⟨sg, 0, none⟩) xN sc, .slice (some ⟨gb, 0, none⟩) uN uN, .slice (some ⟨nb, 0, none⟩) 1 1, .slice (some ⟨vb, 0, none⟩) 1 1, .slice (some ⟨hg, 0, none⟩) xN hc, .slice none 0 0, .slice none 0 0, .slice none 0 0, .int .i64 0] _ (World.rangeAt_setCells_same _ _ _ _ R4) Try.underlying35 rfl qz4f
    ·have hl := hlow.out
     simp at hl
     exact qzbq (w0 := w2.alloc _) ((IB.below ((Below.refl _ _).alloc (Nat.le_refl _) _)).weaken (by simp)) (by have b1 := qz12.at IB.n (by decide); have b2 := qz12.at IB.r (by decide); have b3 := qz12.at (len := xN) (by simpa [qz2a] using IB.s) (by omega); have b4 := qz12.at (len := uN) (by simpa [qz2a] using IB.g) (by omega); obtain ⟨_, _, e1, l1, _⟩ := b1; obtain ⟨_, _, e2, l2, _⟩ := b2; obtain ⟨_, _, e3, l3, _⟩ := b3; obtain ⟨_, _, e4, l4, _⟩ := b4; cases e1; cases e2; cases e3; cases e4; omega) (by omega) D.only D.own (by simp; omega) _
    ·exact Below.setCells (by omega) _ _ _ (bb3.trans (D.only.below (by omega) (by have := D.blk; omega)))
    ·have hl := hlow.out
     simp at hl
     have hgg := qz1g D.own rfl
     have hgg' : (_ : Nat) <= hg := hgg
     simp [qzy] at hgg'
     show _ /\ _
     omega
 ·clear n0 n1 n2 n3 c0 c1 c2 c3 t0 t1 t2 t3 t4 t5 t6 t7 t8 t9 t10 t11 t12 t13 u0 u1 u2 u3 u4 u5 u6 u7 u8 u9 u10 u11 u12 u13
  have T2 := qz6 (qzh w1 #[.int .i64 0, .int .i64 0, .int .i64 0, .int .i64 0, .int .i64 0, .slice none 0 0, .slice none 0 0, .slice none 0 0, .slice none 0 0, .slice none 0 0, .slice none 0 0, .slice none 0 0, .slice none 0 0, .int .i64 0] 35 14 (by decide)) ((Below.refl _ _).drew.trans b2) (by simp)
  have hz2 := b2.size
  simp at hz2
  have N0 : qzce (w2.setCells w1.heap.size 0 [.int .i64 xN, .int .i64 y, .int .i64 z, .int .i64 uN, .int .i64 0, .slice (some ⟨sg, 0, none⟩) xN sc, .slice (some ⟨gb, 0, none⟩) uN uN, .slice (some ⟨nb, 0, none⟩) 1 1, .slice (some ⟨vb, 0, none⟩) 1 1, .slice none 0 0, .slice none 0 0, .slice none 0 0, .slice none 0 0, .int .i64 0]) (w2.setCells w1.heap.size 0 [.int .i64 xN, .int .i64 y, .int .i64 z, .int .i64 uN, .int .i64 0, .slice (some ⟨sg, 0, none⟩) xN sc, .slice (some ⟨gb, 0, none⟩) uN uN, .slice (some ⟨nb, 0, none⟩) 1 1, .slice (some ⟨vb, 0, none⟩) 1 1, .slice none 0 0, .slice none 0 0, .slice none 0 0, .slice none 0 0, .int .i64 0]) w1.heap.size [.int .i64 xN, .int .i64 y, .int .i64 z, .int .i64 uN, .int .i64 0, .slice (some ⟨sg, 0, none⟩) xN sc, .slice (some ⟨gb, 0, none⟩) uN uN, .slice (some ⟨nb, 0, none⟩) 1 1, .slice (some ⟨vb, 0, none⟩) 1 1] 0 (.slice none 0 0) :=
   ⟨World.rangeAt_setCells_same _ _ _ _ T2, World.there_setCells T2 _ _ _, World.ownsRow_nil _ _ _ _, Only.refl _ _, by rw [qzy]; omega⟩
  have oo := qz9 w1.heap.size [.int .i64 xN, .int .i64 y, .int .i64 z, .int .i64 uN, .int .i64 0, .slice (some ⟨sg, 0, none⟩) xN sc, .slice (some ⟨gb, 0, none⟩) uN uN, .slice (some ⟨nb, 0, none⟩) 1 1, .slice (some ⟨vb, 0, none⟩) 1 1, .slice none 0 0, .slice none 0 0, .slice none 0 0, .slice none 0 0, .int .i64 0] 0 w2
  have P3 := qz3l.only ⟨d0, d1, d2, d3⟩ oo (by omega) (by omega)
  have R3 := qz5s (qz6 (World.there_drew _ _ _ _ |>.2 (World.there_alloc R1 _)) b2 (by simp; omega)) oo (by omega) (by omega)
  have bb3 := ((bb1.alloc (by omega) _).drew.trans (b2.mono (by simp; omega))).trans (oo.below (B := w.heap.size) (by omega) (by omega))
  clear b2 d0 d1 d2 d3 T2 oo
  go_wp2
  go_loopw [5] (fun i wr => ∃ (k : Nat) (hd : Value), k <= xN /\ i = .int .i64 k /\ qzce (w2.setCells w1.heap.size 0 [.int .i64 xN, .int .i64 y, .int .i64 z, .int .i64 uN, .int .i64 0, .slice (some ⟨sg, 0, none⟩) xN sc, .slice (some ⟨gb, 0, none⟩) uN uN, .slice (some ⟨nb, 0, none⟩) 1 1, .slice (some ⟨vb, 0, none⟩) 1 1, .slice none 0 0, .slice none 0 0, .slice none 0 0, .slice none 0 0, .int .i64 0]) wr w1.heap.size [.int .i64 xN, .int .i64 y, .int .i64 z, .int .i64 uN, .int .i64 0, .slice (some ⟨sg, 0, none⟩) xN sc, .slice (some ⟨gb, 0, none⟩) uN uN, .slice (some ⟨nb, 0, none⟩) 1 1, .slice (some ⟨vb, 0, none⟩) 1 1] k hd) (fun i _ => xN - (intOf i).toNat)
  case atStart => exact ⟨0, _, Nat.zero_le _, rfl, N0⟩
  case round =>
   obtain ⟨k, hd, hk, rfl, D⟩ := hrel
   have hz := D.only.size
   obtain ⟨e0, e1, e2, e3⟩ := P3.only D.only (by have := D.blk; omega) (by omega)
   by_cases hlt : k < xN
   ·have m9 := qz57 D.row
    have q9 := (D.th 9 (by omega)).2
    simp only [List.length_cons, List.length_nil, Nat.zero_add, Nat.reduceAdd] at m9 q9
    go_wp2
    go_region_law (first | (go_simp; go_at_call 66; refine (qz4m _).mono ?_; rintro e wa ⟨rfl, ba1⟩; have ba : Below wr.heap.size wr wa := (Below.refl _ wr).drew.trans ba1; clear ba1; have m10 := (ba.cell (p := ⟨w1.heap.size, 9, none⟩) (Nat.lt_of_lt_of_le D.blk D.only.size)).trans m9; have q10 := (ba.frozen (p := ⟨w1.heap.size, 9, none⟩) (Nat.lt_of_lt_of_le D.blk D.only.size)).trans q9; have m10a : ∀ o, (wa.alloc o).cell? ⟨w1.heap.size, 9, none⟩ = some hd := (fun o => (((Below.refl _ wa).alloc (Nat.le_refl _) o).cell (p := ⟨w1.heap.size, 9, none⟩) (Nat.lt_of_lt_of_le (Nat.lt_of_lt_of_le D.blk D.only.size) ba.size)).trans m10); have tk : True := trivial) | (clear tk; refine step_append_lies _ (by rfl) (.tmp 21) (.tmp 23) 31 (by rfl) (w2.setCells w1.heap.size 0 [.int .i64 xN, .int .i64 y, .int .i64 z, .int .i64 uN, .int .i64 0, .slice (some ⟨sg, 0, none⟩) xN sc, .slice (some ⟨gb, 0, none⟩) uN uN, .slice (some ⟨nb, 0, none⟩) 1 1, .slice (some ⟨vb, 0, none⟩) 1 1, .slice none 0 0, .slice none 0 0, .slice none 0 0, .slice none 0 0, .int .i64 0]).heap.size 56 i0 _ 22 176 Try.underlying31 hi hzr hsz hby (by rfl) (by omega) hd k (qz3a k) (by rfl) ((qz8o D.own ba).alloc _) ⟨wa.heap.size, 0, none⟩ 1 1 qz36 (by rfl) (by rfl) (qz8i wa _ _ (by kernel_rfl)) qz8t (by omega) (by unfold maxLen; omega) (by omega) (by have := ba.size; have := D.only.size; (try simp only [World.size_alloc] at *); omega) (wa.heap.size + 1) (by simp) ?_; intro g cap w4 hown4 hgrow hat hlt4; have b4 : Below (w2.setCells w1.heap.size 0 [.int .i64 xN, .int .i64 y, .int .i64 z, .int .i64 uN, .int .i64 0, .slice (some ⟨sg, 0, none⟩) xN sc, .slice (some ⟨gb, 0, none⟩) uN uN, .slice (some ⟨nb, 0, none⟩) 1 1, .slice (some ⟨vb, 0, none⟩) 1 1, .slice none 0 0, .slice none 0 0, .slice none 0 0, .slice none 0 0, .int .i64 0]).heap.size wr w4 := (((ba.mono (by exact D.only.size)).alloc (by have := ba.size; have := D.only.size; (try simp only [World.size_alloc] at *); omega) _).grown hgrow (by have := ba.size; have := D.only.size; (try simp only [World.size_alloc] at *); omega) (fun j e => qz1g D.own e)); have m11 := (b4.cell (p := ⟨w1.heap.size, 9, none⟩) D.blk).trans m9; have q11 := (b4.frozen (p := ⟨w1.heap.size, 9, none⟩) D.blk).trans q9))
    all_goals
     have S := D.step rfl (ba.alloc ba.size _) hown4 hgrow
     clear hown4 hgrow b4 hat hlt4 ba
     go_wp2
     go_roundw
     case rel => exact ⟨k + 1, _, by omega, by go_num, S⟩
     case measure => simp [intOf]; omega
   ·obtain rfl : xN = k := by omega
    obtain ⟨hg, hc, rfl⟩ := qz19 D.own (by omega)
    have R4 := qz5s R3 D.only (by have := D.blk; omega) (by omega)
    have Drow : wr.rangeAt w1.heap.size 0 [.int .i64 xN, .int .i64 y, .int .i64 z, .int .i64 uN, .int .i64 0, .slice (some ⟨sg, 0, none⟩) xN sc, .slice (some ⟨gb, 0, none⟩) uN uN, .slice (some ⟨nb, 0, none⟩) 1 1, .slice (some ⟨vb, 0, none⟩) 1 1, .slice (some ⟨hg, 0, none⟩) xN hc, .slice none 0 0, .slice none 0 0, .slice none 0 0, .int .i64 0] := D.row
    go_wp2_with (first | (refine wpList_load_mid rfl 35 (.tmp 4) rfl w1.heap.size 0 rfl [.int .i64 xN, .int .i64 y, .int .i64 z, .int .i64 uN, .int .i64 0, .slice (some ⟨sg, 0, none⟩) xN sc, .slice (some ⟨gb, 0, none⟩) uN uN, .slice (some ⟨nb, 0, none⟩) 1 1, .slice (some ⟨vb, 0, none⟩) 1 1, .slice (some ⟨hg, 0, none⟩) xN hc, .slice none 0 0, .slice none 0 0, .slice none 0 0, .int .i64 0] _ Drow Try.underlying35 rfl qz4f ?_) | (refine wpList_store_mid rfl 35 (.tmp 2) (.tmp 26) rfl (w.heap.size + 1) 0 _ rfl rfl ?ht ?hi ?h1 ?_))
    case ht => exact R4
    case hi => exact qz4f
    case h1 => simp [Value.oneCell']
    refine bodyPost_ret (v := .tuple #[.agg [.int .i64 xN, .int .i64 y, .int .i64 z, .int .i64 uN, .int .i64 0, .slice (some ⟨sg, 0, none⟩) xN sc, .slice (some ⟨gb, 0, none⟩) uN uN, .slice (some ⟨nb, 0, none⟩) 1 1, .slice (some ⟨vb, 0, none⟩) 1 1, .slice (some ⟨hg, 0, none⟩) xN hc, .slice none 0 0, .slice none 0 0, .slice none 0 0, .int .i64 0].toArray, .bool true]) ?_ rfl ⟨_, _, _, _, _, _, _, rfl, ?_, ?_, ?_⟩
    ·exact qzn Try.results31 _ _ (w.heap.size + 1) 0 rfl [.int .i64 xN, .int .i64 y, .int .i64 z, .int .i64 uN, .int .i64 0, .slice (some ⟨sg, 0, none⟩) xN sc, .slice (some ⟨gb, 0, none⟩) uN uN, .slice (some ⟨nb, 0, none⟩) 1 1, .slice (some ⟨vb, 0, none⟩) 1 1, .slice (some ⟨hg, 0, none⟩) xN hc, .slice none 0 0, .slice none 0 0, .slice none 0 0, .int .i64 0] _ (World.rangeAt_setCells_same _ _ _ _ R4) Try.underlying35 rfl qz4f
    ·have hl := hlow.out
     simp at hl
     exact qzbq (qz5u IB (qz9 w1.heap.size _ 0 w2) (by omega)) (by omega) (by omega) D.only D.own (by rw [qzy]; omega) _
    ·exact Below.setCells (by omega) _ _ _ (bb3.trans (D.only.below (by omega) (by have := D.blk; omega)))
    ·have hl := hlow.out
     simp at hl
     have hgg := qz1g D.own rfl
     have hgg' : (_ : Nat) <= hg := hgg
     simp [qzy] at hgg'
     show _ /\ _
     omega
end
end Go.Proofs.Ythjkdnlmopafkaa
