/-
  What the law's proof goes by, part 13.
-/
import Derived.Deep.RegionHeld3
import Derived.Deep.RegionLaw
import Derived.Deep.AppendLies
import Derived.Deep.DrawnRows
import Derived.Deep.DeepCutAuto
import Derived.Test.YtclkglkhhnapiaaFnCallL
namespace Go.Proofs.Ytclkglkhhnapiaa
open Go.ChangeShapes Go.WideShapes Go.ChangeAt Go.RowKit
set_option maxRecDepth 100000
set_option maxHeartbeats 16000000
set_option linter.unusedVariables false
set_option linter.unusedSimpArgs false
set_option linter.unnecessarySimpa false
set_option linter.unusedSectionVars false
section
attribute [local go_sem ↓] Go.wp_at_zero Go.wp_at_succ
theorem qz3r.drew {W : World} {b : Nat} {x y z u : Int} (h : qz3r W b x y z u) : qz3r W.drew b x y z u := h
theorem qz3r.only {w w' : World} {b c : Nat} {x y z u : Int} (P : qz3r w b x y z u) (hO : Only c w w') (hb : b < w.heap.size) (hne : b ≠ c) : qz3r w' b x y z u :=
 ⟨(hO.cell (p := ⟨b, 0, none⟩) hb hne).trans P.1, (hO.cell (p := ⟨b, 1, none⟩) hb hne).trans P.2.1, (hO.cell (p := ⟨b, 2, none⟩) hb hne).trans P.2.2.1, (hO.cell (p := ⟨b, 3, none⟩) hb hne).trans P.2.2.2⟩
theorem qz3r.alloc {W : World} {b : Nat} {x y z u : Int} (h : qz3r W b x y z u) (hb : b < W.heap.size) (o : Obj) : qz3r (W.alloc o) b x y z u := h.below ((Below.refl _ _).alloc (Nat.le_refl _) o) hb
theorem qz8k {G : Prop} {w1 w2 : World} (b2 : Below (w1.alloc (Obj.cells #[.int .i64 0, .int .i64 0, .int .i64 0, .int .i64 0, .int .i64 0, .slice none 0 0, .slice none 0 0, .slice none 0 0, .slice none 0 0, .slice none 0 0, .slice none 0 0, .slice none 0 0, .slice none 0 0, .int .i64 0] 43)).drew.heap.size (w1.alloc (Obj.cells #[.int .i64 0, .int .i64 0, .int .i64 0, .int .i64 0, .int .i64 0, .slice none 0 0, .slice none 0 0, .slice none 0 0, .slice none 0 0, .slice none 0 0, .slice none 0 0, .slice none 0 0, .slice none 0 0, .int .i64 0] 43)).drew w2)
  (k : (w2.cell? ⟨w1.heap.size, 0, none⟩ = some (.int .i64 0) /\ w2.cell? ⟨w1.heap.size, 1, none⟩ = some (.int .i64 0) /\ w2.cell? ⟨w1.heap.size, 2, none⟩ = some (.int .i64 0) /\ w2.cell? ⟨w1.heap.size, 3, none⟩ = some (.int .i64 0) /\ w2.cell? ⟨w1.heap.size, 4, none⟩ = some (.int .i64 0) /\ w2.cell? ⟨w1.heap.size, 5, none⟩ = some (.slice none 0 0) /\ w2.cell? ⟨w1.heap.size, 6, none⟩ = some (.slice none 0 0) /\ w2.cell? ⟨w1.heap.size, 7, none⟩ = some (.slice none 0 0) /\ w2.cell? ⟨w1.heap.size, 8, none⟩ = some (.slice none 0 0) /\ w2.cell? ⟨w1.heap.size, 9, none⟩ = some (.slice none 0 0) /\ w2.cell? ⟨w1.heap.size, 10, none⟩ = some (.slice none 0 0) /\ w2.cell? ⟨w1.heap.size, 11, none⟩ = some (.slice none 0 0) /\ w2.cell? ⟨w1.heap.size, 12, none⟩ = some (.slice none 0 0) /\ w2.cell? ⟨w1.heap.size, 13, none⟩ = some (.int .i64 0) /\ w2.frozen? ⟨w1.heap.size, 0, none⟩ = false /\ w2.frozen? ⟨w1.heap.size, 1, none⟩ = false /\ w2.frozen? ⟨w1.heap.size, 2, none⟩ = false /\ w2.frozen? ⟨w1.heap.size, 3, none⟩ = false /\ w2.frozen? ⟨w1.heap.size, 4, none⟩ = false /\ w2.frozen? ⟨w1.heap.size, 5, none⟩ = false /\ w2.frozen? ⟨w1.heap.size, 6, none⟩ = false /\ w2.frozen? ⟨w1.heap.size, 7, none⟩ = false /\ w2.frozen? ⟨w1.heap.size, 8, none⟩ = false /\ w2.frozen? ⟨w1.heap.size, 9, none⟩ = false /\ w2.frozen? ⟨w1.heap.size, 10, none⟩ = false /\ w2.frozen? ⟨w1.heap.size, 11, none⟩ = false /\ w2.frozen? ⟨w1.heap.size, 12, none⟩ = false /\ w2.frozen? ⟨w1.heap.size, 13, none⟩ = false) -> G) : G := by
 have T := qz6 (qzh w1 #[.int .i64 0, .int .i64 0, .int .i64 0, .int .i64 0, .int .i64 0, .slice none 0 0, .slice none 0 0, .slice none 0 0, .slice none 0 0, .slice none 0 0, .slice none 0 0, .slice none 0 0, .slice none 0 0, .int .i64 0] 43 14 (by decide)) ((Below.refl _ _).drew.trans b2) (by simp)
 have hc : ∀ j, w2.cell? ⟨w1.heap.size, j, none⟩ = (w1.alloc (Obj.cells #[.int .i64 0, .int .i64 0, .int .i64 0, .int .i64 0, .int .i64 0, .slice none 0 0, .slice none 0 0, .slice none 0 0, .slice none 0 0, .slice none 0 0, .slice none 0 0, .slice none 0 0, .slice none 0 0, .int .i64 0] 43)).cell? ⟨w1.heap.size, j, none⟩ := fun j => b2.cell (p := ⟨w1.heap.size, j, none⟩) (by simp)
 have hf : ∀ j, j < 14 -> w2.frozen? ⟨w1.heap.size, j, none⟩ = false := fun j hj => by simpa using (T j hj).2
 exact k ⟨(hc 0).trans (by simp [World.cell?_alloc_new]), (hc 1).trans (by simp [World.cell?_alloc_new]), (hc 2).trans (by simp [World.cell?_alloc_new]), (hc 3).trans (by simp [World.cell?_alloc_new]), (hc 4).trans (by simp [World.cell?_alloc_new]), (hc 5).trans (by simp [World.cell?_alloc_new]), (hc 6).trans (by simp [World.cell?_alloc_new]), (hc 7).trans (by simp [World.cell?_alloc_new]), (hc 8).trans (by simp [World.cell?_alloc_new]), (hc 9).trans (by simp [World.cell?_alloc_new]), (hc 10).trans (by simp [World.cell?_alloc_new]), (hc 11).trans (by simp [World.cell?_alloc_new]), (hc 12).trans (by simp [World.cell?_alloc_new]), (hc 13).trans (by simp [World.cell?_alloc_new]), hf 0 (by omega), hf 1 (by omega), hf 2 (by omega), hf 3 (by omega), hf 4 (by omega), hf 5 (by omega), hf 6 (by omega), hf 7 (by omega), hf 8 (by omega), hf 9 (by omega), hf 10 (by omega), hf 11 (by omega), hf 12 (by omega), hf 13 (by omega)⟩
theorem qz5e {w : World} {b o : Nat} {p q : List Value} {h : Value} (R : w.rangeAt b o (p ++ h :: q)) : w.cell? ⟨b, o + p.length, none⟩ = some h := R p.length h (by simp)
theorem qz77 {w : World} {b o : Nat} {p q : List Value} {h : Value} (R : w.rangeAt b o (p ++ h :: q)) (v : Value) : (w.setCell ⟨b, o + p.length, none⟩ v).rangeAt b o (p ++ v :: q) := by
 intro j u hj
 by_cases e : j = p.length
 ·subst e
  simp at hj
  subst hj
  exact World.cell?_setCell_same _ _ _ (qz5e R)
 ·have hne : (⟨b, o + p.length, none⟩ : Addr) ≠ ⟨b, o + j, none⟩ := by
   intro h'
   have := congrArg Addr.off h'
   simp at this
   omega
  refine (World.cell?_setCell_other _ _ _ _ hne).trans (R j u ?_)
  rw [List.getElem?_append] at hj ⊢
  by_cases hl : j < p.length
  ·simpa [hl] using hj
  ·simp only [hl, if_false] at hj ⊢
   obtain ⟨m, hm⟩ : ∃ m, j - p.length = m + 1 := ⟨j - p.length - 1, by omega⟩
   rw [hm] at hj ⊢
   simpa using hj
theorem qz8n {w w' : World} {b c o : Nat} {cs : List Value} (h : w.rangeAt b o cs) (hO : Only c w w') (hb : b < w.heap.size) (hne : b ≠ c) : w'.rangeAt b o cs :=
 fun j v hv => (hO.cell (p := ⟨b, o + j, none⟩) hb hne).trans (h j v hv)
theorem qz69 {w w' : World} {b c o n : Nat} (h : w.there b o n) (hO : Only c w w') (hb : b < w.heap.size) (hne : b ≠ c) : w'.there b o n :=
 fun j hj => by rw [hO.cell (p := ⟨b, o + j, none⟩) hb hne, hO.frozen (p := ⟨b, o + j, none⟩) hb hne]; exact h j hj
def qzdn : List Value := [.slice none 0 0, .slice none 0 0, .slice none 0 0, .int .i64 0]
def qz3h (k : Nat) : List Value := (List.replicate k qz3d).flatten
theorem qz4o : (Try.prog.info? 43).map (fun i => i.size) = some 14 := by kernel_rfl
theorem qzbg : (Try.prog.info? 27).map (fun i => (i.zero, i.size, i.bytes)) = some (some (.agg #[.int .i64 0, .int .i64 0, .int .i64 0, .int .i64 0, .int .i64 0, .int .i64 0, .int .i64 0, .int .i64 0, .int .i64 0, .int .i64 0, .int .i64 0, .int .i64 0, .int .i64 0, .int .i64 0, .int .i64 0, .int .i64 0, .int .i64 0, .int .i64 0, .int .i64 0, .int .i64 0, .int .i64 0, .int .i64 0]), 22, 176) := by kernel_rfl
theorem qz8r (wa : World) (C : Array Value) (T : TypeId) (hC : C = qz3d.toArray) : ∀ j u, qz3d[j]? = some u -> (wa.alloc (.cells C T)).cell? ((⟨wa.heap.size, 0, none⟩ : Addr).add j) = some u := by
 intro j u hu
 subst hC
 rw [Addr.add_mid]
 exact qzd wa qz3d T j u hu
theorem qz8w : ∀ u ∈ qz3d, u.oneCell' = true := by
 intro u hu
 simp only [qz3d, List.mem_cons, List.not_mem_nil, or_false] at hu
 rcases hu with rfl | rfl | rfl | rfl | rfl | rfl | rfl | rfl | rfl | rfl | rfl | rfl | rfl | rfl | rfl | rfl | rfl | rfl | rfl | rfl | rfl | rfl <;> rfl
theorem qz91 {w w' : World} {base : Nat} {e : TypeId} {size : Nat} {v : Value} {n : Nat} {xs : List Value} (h : w.ownsRow base e size v n xs) (hb : Below w.heap.size w w') : w'.ownsRow base e size v n xs := by
 obtain ⟨h1, h2⟩ := h
 refine ⟨h1, ?_⟩
 rcases h2 with h2 | ⟨g, cap, cur, hv, hg, hh, r⟩
 ·exact Or.inl h2
 ·have hlt : g < w.heap.size := by
   rcases Nat.lt_or_ge g w.heap.size with hl | hl
   ·exact hl
   ·rw [Array.getElem?_eq_none hl] at hh; cases hh
  exact Or.inr ⟨g, cap, cur, hv, hg, by rw [hb.block g hlt]; exact hh, r⟩
structure qzcb (w0 wr : World) (A : Nat) (p : List Value) (k : Nat) (h : Value) : Prop where
 row : wr.rangeAt A 0 (p ++ h :: qzdn)
 th : wr.there A 0 14
 own : wr.ownsRow w0.heap.size 27 22 h k (qz3h k)
 only : Only A w0 wr
 blk : A < w0.heap.size
theorem qzcb.step {w0 wr : World} {A : Nat} {p : List Value} {k : Nat} {h : Value} (hp : p.length = 9) (D : qzcb w0 wr A p k h) {wa w2 : World} {v' : Value} (ba : Below wr.heap.size wr wa)
  (ho : w2.ownsRow w0.heap.size 27 22 v' (k + 1) (qz3h k ++ qz3d)) (hg : wa.grownBy w2 h.ownBlock) :
  qzcb w0 (w2.setCell ⟨A, 9, none⟩ v') A p (k + 1) v' := by
 have hz := D.only.size
 have hz2 := ba.size
 have b2 : Below w0.heap.size wr w2 := (ba.mono hz).grown hg (by omega) (fun j e => qz1l D.own e)
 have R2 := qz0 D.row b2 D.blk
 have T2 := qz6 D.th b2 D.blk
 have S2 := qz77 R2 v'
 simp only [hp, Nat.zero_add] at S2
 refine ⟨S2, qz4 T2 _ _, ?_, ?_, D.blk⟩
 ·have e : qz3h (k + 1) = qz3h k ++ qz3d := by
   unfold qz3h
   rw [List.replicate_succ', List.flatten_append]
   simp
  rw [e]
  exact ownsRow_setCell_below ho D.blk _
 ·have o2 : Only A w0 w2 := ⟨b2.os.trans D.only.os, b2.tape.trans D.only.tape, b2.output.trans D.only.output, Nat.le_trans hz b2.size, fun j hj hn => (b2.block j hj).trans (D.only.block j hj hn)⟩
  exact o2.setCell (Or.inl rfl) _
def newW (xN uN : Nat) : Wd := ⟨qz2g xN uN, List.replicate xN newH, [], [], [], 0⟩
theorem qz8b (k : Nat) : qz3h k = qzq hdC (List.replicate k newH) := by
 unfold qz3h qzq
 show _ = ((List.replicate k newH).map hdC).flatten
 rw [List.map_replicate]
 rfl
theorem qz54 {w w' : World} {A b len cap : Nat} {cs : List Value} (S : qz14 w.heap.size w (.slice (some ⟨b, 0, none⟩) len cap) len cs) (hO : Only A w w') (hne : b ≠ A) : qz14 w'.heap.size w' (.slice (some ⟨b, 0, none⟩) len cap) len cs := by
 obtain ⟨a', cap', e, h⟩ := S
 cases e
 refine ⟨_, _, rfl, ?_⟩
 rcases h with h | ⟨bb, off, e, lt, R⟩
 ·exact Or.inl h
 ·cases e
  exact Or.inr ⟨_, _, rfl, Nat.lt_of_lt_of_le lt hO.size, qz8n R hO lt hne⟩
theorem qz64 {w w' : World} {A xN uN sg sc gb nb vb : Nat} (I : qz25 w.heap.size w (.slice (some ⟨sg, 0, none⟩) xN sc) (.slice (some ⟨gb, 0, none⟩) uN uN) (.slice (some ⟨nb, 0, none⟩) 1 1) (.slice (some ⟨vb, 0, none⟩) 1 1) (qz2g xN uN)) (hO : Only A w w') (h : sg ≠ A /\ gb ≠ A /\ nb ≠ A /\ vb ≠ A) : qz25 w'.heap.size w' (.slice (some ⟨sg, 0, none⟩) xN sc) (.slice (some ⟨gb, 0, none⟩) uN uN) (.slice (some ⟨nb, 0, none⟩) 1 1) (.slice (some ⟨vb, 0, none⟩) 1 1) (qz2g xN uN) := by
 have l1 : (qz2g xN uN).slots.length = xN := by simp [qz2g]
 have l2 : (qz2g xN uN).guides.length = uN := by simp [qz2g]
 refine ⟨?_, ?_, qz54 I.n hO h.2.2.1, qz54 I.r hO h.2.2.2⟩
 ·have := I.s
  rw [l1] at this ⊢
  exact qz54 this hO h.1
 ·have := I.g
  rw [l2] at this ⊢
  exact qz54 this hO h.2.1
theorem qzc8 {w0 wr : World} {A c xN uN sg sc gb nb vb hg hc : Nat} (I : qz25 w0.heap.size w0 (.slice (some ⟨sg, 0, none⟩) xN sc) (.slice (some ⟨gb, 0, none⟩) uN uN) (.slice (some ⟨nb, 0, none⟩) 1 1) (.slice (some ⟨vb, 0, none⟩) 1 1) (qz2g xN uN)) (hne : sg ≠ A /\ gb ≠ A /\ nb ≠ A /\ vb ≠ A) (hcc : c < sg /\ c < gb /\ c < nb /\ c < vb) (hO : Only A w0 wr) (own : wr.ownsRow w0.heap.size 27 22 (.slice (some ⟨hg, 0, none⟩) xN hc) xN (qz3h xN)) (hcl : c < w0.heap.size) (cs : List Value) :
  WdIs (wr.setCells c 0 cs).heap.size (wr.setCells c 0 cs) (.slice (some ⟨sg, 0, none⟩) xN sc) (.slice (some ⟨gb, 0, none⟩) uN uN) (.slice (some ⟨nb, 0, none⟩) 1 1) (.slice (some ⟨vb, 0, none⟩) 1 1) (.slice (some ⟨hg, 0, none⟩) xN hc) (.slice none 0 0) (.slice none 0 0) (.slice none 0 0) (newW xN uN) := by
 have hO2 := qz8 c cs 0 wr
 have I2 := qz64 (qz64 I hO hne) hO2 (by omega)
 have own2 := qz10 own hO2 (fun j e => by have := qz1l own e; omega)
 rw [qz8b] at own2
 refine ⟨I2, ?_, ⟨_, _, rfl, Or.inl rfl⟩, ⟨_, _, rfl, Or.inl rfl⟩, ⟨_, _, rfl, Or.inl rfl⟩⟩
 have := qz2t own2
 simpa [newW] using this
theorem qzcf (xN uN : Nat) (y z : Int) (hp : qz3o xN y z uN = true) : WInv xN y z uN (newW xN uN) := by
 have hr := (qz28 xN y z uN).1 hp
 have hA : ArP xN y z uN (qz2g xN uN) := by
  refine ⟨hp, by simp [qz2g], by simp [qz2g], by simp [qz2g], by simp [qz2g]; omega, by simp [qz2g]; omega, fun s hs => ?_, fun g hg => ?_, fun n a b => ?_, fun v a b => ?_⟩
  ·simp [qz2g] at hs; omega
  ·simp [qz2g] at hg ⊢; omega
  ·obtain rfl : n = 0 := by simp [qz2g] at b; omega
   exact ⟨fun _ => by simp [ndOf, qz2g], fun h => absurd rfl h, by simp [ndOf, qz2g], by simp [ndOf, qz2g]⟩
  ·obtain rfl : v = 0 := by simp [qz2g] at b; omega
   exact ⟨by simp [vrOf, qz2g], by simp [vrOf, qz2g], by simp [vrOf, qz2g], by simp [vrOf, qz2g]⟩
 have hH : HP (qz2g xN uN) newH := by
  constructor <;> simp [newH, qz2g]
 refine ⟨hA, ⟨fun v a b => ?_, ?_⟩, by simp [newW], fun i h => by simpa [newW] using hH, fun i hi p => ?_, by simp [newW], by simp [newW], fun c hc => by simp [newW] at hc, by simp [newW], fun d hd => by simp [newW] at hd, by simp [newW, qz2g], fun t ht => by simp [newW] at ht, fun i h => by simp [newW] at h⟩
 ·obtain rfl : v = 0 := by simp [newW, qz2g] at b; omega
  simp [vrOf, newW, qz2g]
 ·simp [vrOf, ndOf, newW, qz2g]
 ·have := p.1
  simp [newW, newH] at this
theorem qz5o (xN uN : Nat) (y z : Int) (w : World) (hp : qz3o xN y z uN = true) :
  Calls Try.prog 51 #[.agg #[.int .i64 xN, .int .i64 y, .int .i64 z, .int .i64 uN]] w fun e w' => ∃ sg sc gb nb vb hg hc, e = .returned (.tuple #[.agg #[.int .i64 xN, .int .i64 y, .int .i64 z, .int .i64 uN, .int .i64 0, .slice (some ⟨sg, 0, none⟩) xN sc, .slice (some ⟨gb, 0, none⟩) uN uN, .slice (some ⟨nb, 0, none⟩) 1 1, .slice (some ⟨vb, 0, none⟩) 1 1, .slice (some ⟨hg, 0, none⟩) xN hc, .slice none 0 0, .slice none 0 0, .slice none 0 0, .int .i64 0], .bool true]) /\ WdIs w'.heap.size w' (.slice (some ⟨sg, 0, none⟩) xN sc) (.slice (some ⟨gb, 0, none⟩) uN uN) (.slice (some ⟨nb, 0, none⟩) 1 1) (.slice (some ⟨vb, 0, none⟩) 1 1) (.slice (some ⟨hg, 0, none⟩) xN hc) (.slice none 0 0) (.slice none 0 0) (.slice none 0 0) (newW xN uN) /\ Below w.heap.size w w' /\ Hid (w.heap.size <= sg /\ w.heap.size <= gb /\ w.heap.size <= nb /\ w.heap.size <= vb /\ w.heap.size <= hg) := by
 have hr := (qz28 xN y z uN).1 hp
 obtain ⟨⟨hx1, hx2⟩, _⟩ := hr
 have P0 := qz1t w xN y z uN 25
 obtain ⟨i0, hi, hzr, hsz, hby⟩ := info_parts qzbg
 have hl22 : qz3d.length = 22 := rfl
 go_enter Try.func51, Try.ntmps51
 go_wp2_with fail
 have R0 := qzh (w.alloc (Obj.cells #[.int .i64 xN, .int .i64 y, .int .i64 z, .int .i64 uN] 25)) #[.int .i64 0, .int .i64 0, .int .i64 0, .int .i64 0, .int .i64 0, .slice none 0 0, .slice none 0 0, .slice none 0 0, .slice none 0 0, .slice none 0 0, .slice none 0 0, .slice none 0 0, .slice none 0 0, .int .i64 0] 43 14 (by decide)
 refine (qz1w _ _ _ _ _).mono ?_
 rintro e w1 ⟨rfl, b1⟩
 have hz1 := b1.size
 simp at hz1
 have P1 := (P0.below ((Below.refl _ _).alloc (Nat.le_refl _) _) (by simp)).below b1 (by simp; omega)
 have R1 := qz6 R0 b1 (by simp)
 have bb1 := (((Below.refl w.heap.size w).alloc (Nat.le_refl _) (Obj.cells #[.int .i64 xN, .int .i64 y, .int .i64 z, .int .i64 uN] 25)).alloc (by simp) (Obj.cells #[.int .i64 0, .int .i64 0, .int .i64 0, .int .i64 0, .int .i64 0, .slice none 0 0, .slice none 0 0, .slice none 0 0, .slice none 0 0, .slice none 0 0, .slice none 0 0, .slice none 0 0, .slice none 0 0, .int .i64 0] 43)).trans (b1.mono (by simp; omega))
 simp only [World.size_alloc] at R1
 have P1' := P1
 obtain ⟨c0, c1, c2, c3⟩ := P1'
 clear b1 P0 R0
 rw [hp]
 go_wp2
 have n0 := World.new_ne w1 _ c0
 have n1 := World.new_ne w1 _ c1
 have n2 := World.new_ne w1 _ c2
 have n3 := World.new_ne w1 _ c3
 go_region_held3 (fun w' => w'.cell? ⟨w.heap.size, 0, none⟩ = some (.int .i64 xN) /\ w'.cell? ⟨w.heap.size, 1, none⟩ = some (.int .i64 y) /\ w'.cell? ⟨w.heap.size, 2, none⟩ = some (.int .i64 z) /\ w'.cell? ⟨w.heap.size, 3, none⟩ = some (.int .i64 uN)) (go_keep) ((go_at_call 19; refine (qz7q _ _ _ _ _ hp).mono ?_; rintro e w2 ⟨sg, sc, gb, nb, vb, rfl, IB, b2, hlow⟩; have Q2 : qz3r w2 w.heap.size xN y z uN := (by first | exact P1.drew.below b2 (by simp; omega) | exact (P1.alloc (by omega) _).drew.below b2 (by simp; omega)); obtain ⟨d0, d1, d2, d3⟩ := Q2; (first | (refine qz8k b2 ?_; rintro ⟨t0, t1, t2, t3, t4, t5, t6, t7, t8, t9, t10, t11, t12, t13, u0, u1, u2, u3, u4, u5, u6, u7, u8, u9, u10, u11, u12, u13⟩) | skip)))
 ·clear n0 n1 n2 n3 c0 c1 c2 c3
  have N0 : qzcb (w2.alloc (Obj.cells #[.int .i64 xN, .int .i64 y, .int .i64 z, .int .i64 uN, .int .i64 0, .slice (some ⟨sg, 0, none⟩) xN sc, .slice (some ⟨gb, 0, none⟩) uN uN, .slice (some ⟨nb, 0, none⟩) 1 1, .slice (some ⟨vb, 0, none⟩) 1 1, .slice none 0 0, .slice none 0 0, .slice none 0 0, .slice none 0 0, .int .i64 0] 43)) (w2.alloc (Obj.cells #[.int .i64 xN, .int .i64 y, .int .i64 z, .int .i64 uN, .int .i64 0, .slice (some ⟨sg, 0, none⟩) xN sc, .slice (some ⟨gb, 0, none⟩) uN uN, .slice (some ⟨nb, 0, none⟩) 1 1, .slice (some ⟨vb, 0, none⟩) 1 1, .slice none 0 0, .slice none 0 0, .slice none 0 0, .slice none 0 0, .int .i64 0] 43)) w2.heap.size [.int .i64 xN, .int .i64 y, .int .i64 z, .int .i64 uN, .int .i64 0, .slice (some ⟨sg, 0, none⟩) xN sc, .slice (some ⟨gb, 0, none⟩) uN uN, .slice (some ⟨nb, 0, none⟩) 1 1, .slice (some ⟨vb, 0, none⟩) 1 1] 0 (.slice none 0 0) :=
   ⟨qzd w2 [.int .i64 xN, .int .i64 y, .int .i64 z, .int .i64 uN, .int .i64 0, .slice (some ⟨sg, 0, none⟩) xN sc, .slice (some ⟨gb, 0, none⟩) uN uN, .slice (some ⟨nb, 0, none⟩) 1 1, .slice (some ⟨vb, 0, none⟩) 1 1, .slice none 0 0, .slice none 0 0, .slice none 0 0, .slice none 0 0, .int .i64 0] 43, qzh _ _ _ _ (by simp), World.ownsRow_nil _ _ _ _, Only.refl _ _, by simp⟩
  have hz2 := b2.size
  simp at hz2
  have P3 : qz3r (w2.alloc (Obj.cells #[.int .i64 xN, .int .i64 y, .int .i64 z, .int .i64 uN, .int .i64 0, .slice (some ⟨sg, 0, none⟩) xN sc, .slice (some ⟨gb, 0, none⟩) uN uN, .slice (some ⟨nb, 0, none⟩) 1 1, .slice (some ⟨vb, 0, none⟩) 1 1, .slice none 0 0, .slice none 0 0, .slice none 0 0, .slice none 0 0, .int .i64 0] 43)) w.heap.size xN y z uN := qz3r.alloc ⟨d0, d1, d2, d3⟩ (by omega) _
  have R3 := World.there_alloc (qz6 (World.there_drew _ _ _ _ |>.2 R1) b2 (by simp; omega)) (Obj.cells #[.int .i64 xN, .int .i64 y, .int .i64 z, .int .i64 uN, .int .i64 0, .slice (some ⟨sg, 0, none⟩) xN sc, .slice (some ⟨gb, 0, none⟩) uN uN, .slice (some ⟨nb, 0, none⟩) 1 1, .slice (some ⟨vb, 0, none⟩) 1 1, .slice none 0 0, .slice none 0 0, .slice none 0 0, .slice none 0 0, .int .i64 0] 43)
  have bb3 := (bb1.drew.trans (b2.mono (by simp; omega))).alloc (by omega) (Obj.cells #[.int .i64 xN, .int .i64 y, .int .i64 z, .int .i64 uN, .int .i64 0, .slice (some ⟨sg, 0, none⟩) xN sc, .slice (some ⟨gb, 0, none⟩) uN uN, .slice (some ⟨nb, 0, none⟩) 1 1, .slice (some ⟨vb, 0, none⟩) 1 1, .slice none 0 0, .slice none 0 0, .slice none 0 0, .slice none 0 0, .int .i64 0] 43)
  clear b2 d0 d1 d2 d3
  go_wp2
  go_loopw [5] (fun i wr => ∃ (k : Nat) (hd : Value), k <= xN /\ i = .int .i64 k /\ qzcb (w2.alloc (Obj.cells #[.int .i64 xN, .int .i64 y, .int .i64 z, .int .i64 uN, .int .i64 0, .slice (some ⟨sg, 0, none⟩) xN sc, .slice (some ⟨gb, 0, none⟩) uN uN, .slice (some ⟨nb, 0, none⟩) 1 1, .slice (some ⟨vb, 0, none⟩) 1 1, .slice none 0 0, .slice none 0 0, .slice none 0 0, .slice none 0 0, .int .i64 0] 43)) wr w2.heap.size [.int .i64 xN, .int .i64 y, .int .i64 z, .int .i64 uN, .int .i64 0, .slice (some ⟨sg, 0, none⟩) xN sc, .slice (some ⟨gb, 0, none⟩) uN uN, .slice (some ⟨nb, 0, none⟩) 1 1, .slice (some ⟨vb, 0, none⟩) 1 1] k hd) (fun i _ => xN - (intOf i).toNat)
  case atStart => exact ⟨0, _, Nat.zero_le _, rfl, N0⟩
  case round =>
   obtain ⟨k, hd, hk, rfl, D⟩ := hrel
   have hz := D.only.size
   obtain ⟨e0, e1, e2, e3⟩ := P3.only D.only (by have := D.blk; omega) (by omega)
   by_cases hlt : k < xN
   ·have m9 := qz5e D.row
    have q9 := (D.th 9 (by omega)).2
    simp only [List.length_cons, List.length_nil, Nat.zero_add, Nat.reduceAdd] at m9 q9
    go_wp2
    go_region_law (first | (go_simp; go_at_call 76; refine (qz4v _).mono ?_; rintro e wa ⟨rfl, ba1⟩; have ba : Below wr.heap.size wr wa := (Below.refl _ wr).drew.trans ba1; clear ba1; have m10 := (ba.cell (p := ⟨w2.heap.size, 9, none⟩) (Nat.lt_of_lt_of_le D.blk D.only.size)).trans m9; have q10 := (ba.frozen (p := ⟨w2.heap.size, 9, none⟩) (Nat.lt_of_lt_of_le D.blk D.only.size)).trans q9; have m10a : ∀ o, (wa.alloc o).cell? ⟨w2.heap.size, 9, none⟩ = some hd := (fun o => (((Below.refl _ wa).alloc (Nat.le_refl _) o).cell (p := ⟨w2.heap.size, 9, none⟩) (Nat.lt_of_lt_of_le (Nat.lt_of_lt_of_le D.blk D.only.size) ba.size)).trans m10); have tk : True := trivial) | (clear tk; refine step_append_lies _ (by rfl) (.tmp 21) (.tmp 23) 39 (by rfl) (w2.alloc (Obj.cells #[.int .i64 xN, .int .i64 y, .int .i64 z, .int .i64 uN, .int .i64 0, .slice (some ⟨sg, 0, none⟩) xN sc, .slice (some ⟨gb, 0, none⟩) uN uN, .slice (some ⟨nb, 0, none⟩) 1 1, .slice (some ⟨vb, 0, none⟩) 1 1, .slice none 0 0, .slice none 0 0, .slice none 0 0, .slice none 0 0, .int .i64 0] 43)).heap.size 27 i0 _ 22 176 Try.underlying39 hi hzr hsz hby (by rfl) (by omega) hd k (qz3h k) (by rfl) ((qz91 D.own ba).alloc _) ⟨wa.heap.size, 0, none⟩ 1 1 qz3d (by rfl) (by rfl) (qz8r wa _ _ (by kernel_rfl)) qz8w (by omega) (by unfold maxLen; omega) (by omega) (by have := ba.size; have := D.only.size; (try simp only [World.size_alloc] at *); omega) (wa.heap.size + 1) (by simp) ?_; intro g cap w4 hown4 hgrow hat hlt4; have b4 : Below (w2.alloc (Obj.cells #[.int .i64 xN, .int .i64 y, .int .i64 z, .int .i64 uN, .int .i64 0, .slice (some ⟨sg, 0, none⟩) xN sc, .slice (some ⟨gb, 0, none⟩) uN uN, .slice (some ⟨nb, 0, none⟩) 1 1, .slice (some ⟨vb, 0, none⟩) 1 1, .slice none 0 0, .slice none 0 0, .slice none 0 0, .slice none 0 0, .int .i64 0] 43)).heap.size wr w4 := (((ba.mono (by exact D.only.size)).alloc (by have := ba.size; have := D.only.size; (try simp only [World.size_alloc] at *); omega) _).grown hgrow (by have := ba.size; have := D.only.size; (try simp only [World.size_alloc] at *); omega) (fun j e => qz1l D.own e)); have m11 := (b4.cell (p := ⟨w2.heap.size, 9, none⟩) D.blk).trans m9; have q11 := (b4.frozen (p := ⟨w2.heap.size, 9, none⟩) D.blk).trans q9))
    all_goals
     have S := D.step rfl (ba.alloc ba.size _) hown4 hgrow
     clear hown4 hgrow b4 hat hlt4 ba
     go_wp2
     go_roundw
     case rel => exact ⟨k + 1, _, by omega, by go_num, S⟩
     case measure => simp [intOf]; omega
   ·obtain rfl : xN = k := by omega
    obtain ⟨hg, hc, rfl⟩ := qz19 D.own (by omega)
    have R4 := qz69 R3 D.only (by have := D.blk; omega) (by omega)
    have Drow : wr.rangeAt w2.heap.size 0 [.int .i64 xN, .int .i64 y, .int .i64 z, .int .i64 uN, .int .i64 0, .slice (some ⟨sg, 0, none⟩) xN sc, .slice (some ⟨gb, 0, none⟩) uN uN, .slice (some ⟨nb, 0, none⟩) 1 1, .slice (some ⟨vb, 0, none⟩) 1 1, .slice (some ⟨hg, 0, none⟩) xN hc, .slice none 0 0, .slice none 0 0, .slice none 0 0, .int .i64 0] := D.row
    go_wp2_with (first | (refine wpList_load_mid rfl 43 (.tmp 4) rfl w2.heap.size 0 rfl [.int .i64 xN, .int .i64 y, .int .i64 z, .int .i64 uN, .int .i64 0, .slice (some ⟨sg, 0, none⟩) xN sc, .slice (some ⟨gb, 0, none⟩) uN uN, .slice (some ⟨nb, 0, none⟩) 1 1, .slice (some ⟨vb, 0, none⟩) 1 1, .slice (some ⟨hg, 0, none⟩) xN hc, .slice none 0 0, .slice none 0 0, .slice none 0 0, .int .i64 0] _ Drow Try.underlying43 rfl qz4o ?_) | (refine wpList_store_mid rfl 43 (.tmp 2) (.tmp 26) rfl (w.heap.size + 1) 0 _ rfl rfl ?ht ?hi ?h1 ?_))
    case ht => exact R4
    case hi => exact qz4o
    case h1 => simp [Value.oneCell']
    refine bodyPost_ret (v := .tuple #[.agg [.int .i64 xN, .int .i64 y, .int .i64 z, .int .i64 uN, .int .i64 0, .slice (some ⟨sg, 0, none⟩) xN sc, .slice (some ⟨gb, 0, none⟩) uN uN, .slice (some ⟨nb, 0, none⟩) 1 1, .slice (some ⟨vb, 0, none⟩) 1 1, .slice (some ⟨hg, 0, none⟩) xN hc, .slice none 0 0, .slice none 0 0, .slice none 0 0, .int .i64 0].toArray, .bool true]) ?_ rfl ⟨_, _, _, _, _, _, _, rfl, ?_, ?_, ?_⟩
    ·exact qzi Try.results51 _ _ (w.heap.size + 1) 0 rfl [.int .i64 xN, .int .i64 y, .int .i64 z, .int .i64 uN, .int .i64 0, .slice (some ⟨sg, 0, none⟩) xN sc, .slice (some ⟨gb, 0, none⟩) uN uN, .slice (some ⟨nb, 0, none⟩) 1 1, .slice (some ⟨vb, 0, none⟩) 1 1, .slice (some ⟨hg, 0, none⟩) xN hc, .slice none 0 0, .slice none 0 0, .slice none 0 0, .int .i64 0] _ (World.rangeAt_setCells_same _ _ _ _ R4) Try.underlying43 rfl qz4o
    ·have hl := hlow.out
     simp at hl
     exact qzc8 (w0 := w2.alloc _) ((IB.below ((Below.refl _ _).alloc (Nat.le_refl _) _)).weaken (by simp)) (by have b1 := qz14.at IB.n (by decide); have b2 := qz14.at IB.r (by decide); have b3 := qz14.at (len := xN) (by simpa [qz2g] using IB.s) (by omega); have b4 := qz14.at (len := uN) (by simpa [qz2g] using IB.g) (by omega); obtain ⟨_, _, e1, l1, _⟩ := b1; obtain ⟨_, _, e2, l2, _⟩ := b2; obtain ⟨_, _, e3, l3, _⟩ := b3; obtain ⟨_, _, e4, l4, _⟩ := b4; cases e1; cases e2; cases e3; cases e4; omega) (by omega) D.only D.own (by simp; omega) _
    ·exact Below.setCells (by omega) _ _ _ (bb3.trans (D.only.below (by omega) (by have := D.blk; omega)))
    ·have hl := hlow.out
     simp at hl
     have hgg := qz1l D.own rfl
     have hgg' : (_ : Nat) <= hg := hgg
     simp [qzj] at hgg'
     show _ /\ _
     omega
 ·clear n0 n1 n2 n3 c0 c1 c2 c3 t0 t1 t2 t3 t4 t5 t6 t7 t8 t9 t10 t11 t12 t13 u0 u1 u2 u3 u4 u5 u6 u7 u8 u9 u10 u11 u12 u13
  have T2 := qz6 (qzh w1 #[.int .i64 0, .int .i64 0, .int .i64 0, .int .i64 0, .int .i64 0, .slice none 0 0, .slice none 0 0, .slice none 0 0, .slice none 0 0, .slice none 0 0, .slice none 0 0, .slice none 0 0, .slice none 0 0, .int .i64 0] 43 14 (by decide)) ((Below.refl _ _).drew.trans b2) (by simp)
  have hz2 := b2.size
  simp at hz2
  have N0 : qzcb (w2.setCells w1.heap.size 0 [.int .i64 xN, .int .i64 y, .int .i64 z, .int .i64 uN, .int .i64 0, .slice (some ⟨sg, 0, none⟩) xN sc, .slice (some ⟨gb, 0, none⟩) uN uN, .slice (some ⟨nb, 0, none⟩) 1 1, .slice (some ⟨vb, 0, none⟩) 1 1, .slice none 0 0, .slice none 0 0, .slice none 0 0, .slice none 0 0, .int .i64 0]) (w2.setCells w1.heap.size 0 [.int .i64 xN, .int .i64 y, .int .i64 z, .int .i64 uN, .int .i64 0, .slice (some ⟨sg, 0, none⟩) xN sc, .slice (some ⟨gb, 0, none⟩) uN uN, .slice (some ⟨nb, 0, none⟩) 1 1, .slice (some ⟨vb, 0, none⟩) 1 1, .slice none 0 0, .slice none 0 0, .slice none 0 0, .slice none 0 0, .int .i64 0]) w1.heap.size [.int .i64 xN, .int .i64 y, .int .i64 z, .int .i64 uN, .int .i64 0, .slice (some ⟨sg, 0, none⟩) xN sc, .slice (some ⟨gb, 0, none⟩) uN uN, .slice (some ⟨nb, 0, none⟩) 1 1, .slice (some ⟨vb, 0, none⟩) 1 1] 0 (.slice none 0 0) :=
   ⟨World.rangeAt_setCells_same _ _ _ _ T2, World.there_setCells T2 _ _ _, World.ownsRow_nil _ _ _ _, Only.refl _ _, by rw [qzj]; omega⟩
  have oo := qz8 w1.heap.size [.int .i64 xN, .int .i64 y, .int .i64 z, .int .i64 uN, .int .i64 0, .slice (some ⟨sg, 0, none⟩) xN sc, .slice (some ⟨gb, 0, none⟩) uN uN, .slice (some ⟨nb, 0, none⟩) 1 1, .slice (some ⟨vb, 0, none⟩) 1 1, .slice none 0 0, .slice none 0 0, .slice none 0 0, .slice none 0 0, .int .i64 0] 0 w2
  have P3 := qz3r.only ⟨d0, d1, d2, d3⟩ oo (by omega) (by omega)
  have R3 := qz69 (qz6 (World.there_drew _ _ _ _ |>.2 (World.there_alloc R1 _)) b2 (by simp; omega)) oo (by omega) (by omega)
  have bb3 := ((bb1.alloc (by omega) _).drew.trans (b2.mono (by simp; omega))).trans (oo.below (B := w.heap.size) (by omega) (by omega))
  clear b2 d0 d1 d2 d3 T2 oo
  go_wp2
  go_loopw [5] (fun i wr => ∃ (k : Nat) (hd : Value), k <= xN /\ i = .int .i64 k /\ qzcb (w2.setCells w1.heap.size 0 [.int .i64 xN, .int .i64 y, .int .i64 z, .int .i64 uN, .int .i64 0, .slice (some ⟨sg, 0, none⟩) xN sc, .slice (some ⟨gb, 0, none⟩) uN uN, .slice (some ⟨nb, 0, none⟩) 1 1, .slice (some ⟨vb, 0, none⟩) 1 1, .slice none 0 0, .slice none 0 0, .slice none 0 0, .slice none 0 0, .int .i64 0]) wr w1.heap.size [.int .i64 xN, .int .i64 y, .int .i64 z, .int .i64 uN, .int .i64 0, .slice (some ⟨sg, 0, none⟩) xN sc, .slice (some ⟨gb, 0, none⟩) uN uN, .slice (some ⟨nb, 0, none⟩) 1 1, .slice (some ⟨vb, 0, none⟩) 1 1] k hd) (fun i _ => xN - (intOf i).toNat)
  case atStart => exact ⟨0, _, Nat.zero_le _, rfl, N0⟩
  case round =>
   obtain ⟨k, hd, hk, rfl, D⟩ := hrel
   have hz := D.only.size
   obtain ⟨e0, e1, e2, e3⟩ := P3.only D.only (by have := D.blk; omega) (by omega)
   by_cases hlt : k < xN
   ·have m9 := qz5e D.row
    have q9 := (D.th 9 (by omega)).2
    simp only [List.length_cons, List.length_nil, Nat.zero_add, Nat.reduceAdd] at m9 q9
    go_wp2
    go_region_law (first | (go_simp; go_at_call 76; refine (qz4v _).mono ?_; rintro e wa ⟨rfl, ba1⟩; have ba : Below wr.heap.size wr wa := (Below.refl _ wr).drew.trans ba1; clear ba1; have m10 := (ba.cell (p := ⟨w1.heap.size, 9, none⟩) (Nat.lt_of_lt_of_le D.blk D.only.size)).trans m9; have q10 := (ba.frozen (p := ⟨w1.heap.size, 9, none⟩) (Nat.lt_of_lt_of_le D.blk D.only.size)).trans q9; have m10a : ∀ o, (wa.alloc o).cell? ⟨w1.heap.size, 9, none⟩ = some hd := (fun o => (((Below.refl _ wa).alloc (Nat.le_refl _) o).cell (p := ⟨w1.heap.size, 9, none⟩) (Nat.lt_of_lt_of_le (Nat.lt_of_lt_of_le D.blk D.only.size) ba.size)).trans m10); have tk : True := trivial) | (clear tk; refine step_append_lies _ (by rfl) (.tmp 21) (.tmp 23) 39 (by rfl) (w2.setCells w1.heap.size 0 [.int .i64 xN, .int .i64 y, .int .i64 z, .int .i64 uN, .int .i64 0, .slice (some ⟨sg, 0, none⟩) xN sc, .slice (some ⟨gb, 0, none⟩) uN uN, .slice (some ⟨nb, 0, none⟩) 1 1, .slice (some ⟨vb, 0, none⟩) 1 1, .slice none 0 0, .slice none 0 0, .slice none 0 0, .slice none 0 0, .int .i64 0]).heap.size 27 i0 _ 22 176 Try.underlying39 hi hzr hsz hby (by rfl) (by omega) hd k (qz3h k) (by rfl) ((qz91 D.own ba).alloc _) ⟨wa.heap.size, 0, none⟩ 1 1 qz3d (by rfl) (by rfl) (qz8r wa _ _ (by kernel_rfl)) qz8w (by omega) (by unfold maxLen; omega) (by omega) (by have := ba.size; have := D.only.size; (try simp only [World.size_alloc] at *); omega) (wa.heap.size + 1) (by simp) ?_; intro g cap w4 hown4 hgrow hat hlt4; have b4 : Below (w2.setCells w1.heap.size 0 [.int .i64 xN, .int .i64 y, .int .i64 z, .int .i64 uN, .int .i64 0, .slice (some ⟨sg, 0, none⟩) xN sc, .slice (some ⟨gb, 0, none⟩) uN uN, .slice (some ⟨nb, 0, none⟩) 1 1, .slice (some ⟨vb, 0, none⟩) 1 1, .slice none 0 0, .slice none 0 0, .slice none 0 0, .slice none 0 0, .int .i64 0]).heap.size wr w4 := (((ba.mono (by exact D.only.size)).alloc (by have := ba.size; have := D.only.size; (try simp only [World.size_alloc] at *); omega) _).grown hgrow (by have := ba.size; have := D.only.size; (try simp only [World.size_alloc] at *); omega) (fun j e => qz1l D.own e)); have m11 := (b4.cell (p := ⟨w1.heap.size, 9, none⟩) D.blk).trans m9; have q11 := (b4.frozen (p := ⟨w1.heap.size, 9, none⟩) D.blk).trans q9))
    all_goals
     have S := D.step rfl (ba.alloc ba.size _) hown4 hgrow
     clear hown4 hgrow b4 hat hlt4 ba
     go_wp2
     go_roundw
     case rel => exact ⟨k + 1, _, by omega, by go_num, S⟩
     case measure => simp [intOf]; omega
   ·obtain rfl : xN = k := by omega
    obtain ⟨hg, hc, rfl⟩ := qz19 D.own (by omega)
    have R4 := qz69 R3 D.only (by have := D.blk; omega) (by omega)
    have Drow : wr.rangeAt w1.heap.size 0 [.int .i64 xN, .int .i64 y, .int .i64 z, .int .i64 uN, .int .i64 0, .slice (some ⟨sg, 0, none⟩) xN sc, .slice (some ⟨gb, 0, none⟩) uN uN, .slice (some ⟨nb, 0, none⟩) 1 1, .slice (some ⟨vb, 0, none⟩) 1 1, .slice (some ⟨hg, 0, none⟩) xN hc, .slice none 0 0, .slice none 0 0, .slice none 0 0, .int .i64 0] := D.row
    go_wp2_with (first | (refine wpList_load_mid rfl 43 (.tmp 4) rfl w1.heap.size 0 rfl [.int .i64 xN, .int .i64 y, .int .i64 z, .int .i64 uN, .int .i64 0, .slice (some ⟨sg, 0, none⟩) xN sc, .slice (some ⟨gb, 0, none⟩) uN uN, .slice (some ⟨nb, 0, none⟩) 1 1, .slice (some ⟨vb, 0, none⟩) 1 1, .slice (some ⟨hg, 0, none⟩) xN hc, .slice none 0 0, .slice none 0 0, .slice none 0 0, .int .i64 0] _ Drow Try.underlying43 rfl qz4o ?_) | (refine wpList_store_mid rfl 43 (.tmp 2) (.tmp 26) rfl (w.heap.size + 1) 0 _ rfl rfl ?ht ?hi ?h1 ?_))
    case ht => exact R4
    case hi => exact qz4o
    case h1 => simp [Value.oneCell']
    refine bodyPost_ret (v := .tuple #[.agg [.int .i64 xN, .int .i64 y, .int .i64 z, .int .i64 uN, .int .i64 0, .slice (some ⟨sg, 0, none⟩) xN sc, .slice (some ⟨gb, 0, none⟩) uN uN, .slice (some ⟨nb, 0, none⟩) 1 1, .slice (some ⟨vb, 0, none⟩) 1 1, .slice (some ⟨hg, 0, none⟩) xN hc, .slice none 0 0, .slice none 0 0, .slice none 0 0, .int .i64 0].toArray, .bool true]) ?_ rfl ⟨_, _, _, _, _, _, _, rfl, ?_, ?_, ?_⟩
    ·exact qzi Try.results51 _ _ (w.heap.size + 1) 0 rfl [.int .i64 xN, .int .i64 y, .int .i64 z, .int .i64 uN, .int .i64 0, .slice (some ⟨sg, 0, none⟩) xN sc, .slice (some ⟨gb, 0, none⟩) uN uN, .slice (some ⟨nb, 0, none⟩) 1 1, .slice (some ⟨vb, 0, none⟩) 1 1, .slice (some ⟨hg, 0, none⟩) xN hc, .slice none 0 0, .slice none 0 0, .slice none 0 0, .int .i64 0] _ (World.rangeAt_setCells_same _ _ _ _ R4) Try.underlying43 rfl qz4o
    ·have hl := hlow.out
     simp at hl
     exact qzc8 (qz64 IB (qz8 w1.heap.size _ 0 w2) (by omega)) (by omega) (by omega) D.only D.own (by rw [qzj]; omega) _
    ·exact Below.setCells (by omega) _ _ _ (bb3.trans (D.only.below (by omega) (by have := D.blk; omega)))
    ·have hl := hlow.out
     simp at hl
     have hgg := qz1l D.own rfl
     have hgg' : (_ : Nat) <= hg := hgg
     simp [qzj] at hgg'
     show _ /\ _
     omega
end
section
theorem qz49 (B b : Nat) (a : Option Addr) (len cap : Nat) (i h : Int) (lo hi : Int) (w : World) (hB : B <= b) (hlen : len <= 4096) (D : qz1y .i64 w b a len cap i h) (C : qz1p B w a len) (h1 : lo <= hi) (h2 : -100000 <= lo) (h3 : hi <= 100000) :
  Calls Try.prog 74 #[.pointer (some ⟨b, 0, none⟩), .int .i64 lo, .int .i64 hi] w fun e w' => ∃ r i' h', e = .returned (.int .i64 r) /\ lo <= r /\ r <= hi /\ qz1y .i64 w' b a len cap i' h' /\ qz1p B w' a len /\ Only b w w' := by
 go_enter Try.func74, Try.ntmps74
 go_wp2_with fail
 refine (qz12 B b a len cap i h (hi - lo + 1) _ hB hlen D C (by omega) (by omega)).mono ?_
 rintro e w1 ⟨r, i1, h1', rfl, r0, r1, D1, C1, O1⟩
 go_wp2
 go_ret
 exact ⟨lo + r, i1, h1', rfl, by omega, by omega, D1, C1, O1⟩
theorem qz3k (B b : Nat) (a : Option Addr) (len cap : Nat) (i h : Int) (g : Hd) (w : World) (hB : B <= b) (hlen : len <= 4096) (D : qz1y .i64 w b a len cap i h) (C : qz1p B w a len) :
  Calls Try.prog 34 #[.pointer (some ⟨b, 0, none⟩), .agg (hdC g).toArray] w fun e w' => ∃ c q v i' h', e = .returned (.tuple #[.int .i64 c, .int .i64 q, .int .i64 v]) /\ qz1y .i64 w' b a len cap i' h' /\ qz1p B w' a len /\ Only b w w' := by
 show Calls Try.prog 34 #[.pointer (some ⟨b, 0, none⟩), .agg #[.int .i64 g.at_, .int .i64 g.then_, .int .i64 g.code, .int .i64 g.key, .int .i64 g.value, .int .i64 g.begin, .int .i64 g.reply, .int .i64 g.out, .int .i64 g.sum, .int .i64 g.held, .int .i64 g.x_, .int .i64 g.ver, .int .i64 g.cam, .int .i64 g.camAt, .int .i64 g.pred, .int .i64 g.predVer, .int .i64 g.curr, .int .i64 g.currVer, .int .i64 g.new_, .int .i64 g.least, .int .i64 g.index, .int .i64 g.round]] w fun e w' => ∃ c q v i' h', e = .returned (.tuple #[.int .i64 c, .int .i64 q, .int .i64 v]) /\ qz1y .i64 w' b a len cap i' h' /\ qz1p B w' a len /\ Only b w w'
 have blk := D.blk
 have R0 := qzd w (hdC g) 27
 have hz0 : (w.alloc (.cells (hdC g).toArray 27)).heap.size = w.heap.size + 1 := by simp
 have D0 := D.alloc (.cells (hdC g).toArray 27)
 have C0 := C.alloc (by omega) (.cells (hdC g).toArray 27)
 have O0 := (Only.refl b w).alloc (.cells (hdC g).toArray 27)
 go_enter Try.func34, Try.ntmps34
 go_wp2_with fail
 change Calls Try.prog _ _ (w.alloc (.cells (hdC g).toArray 27)) _
 generalize hw0 : w.alloc (.cells (hdC g).toArray 27) = w0 at *
 clear hw0
 refine (qz49 B b a len cap i h 1 8 w0 hB hlen D0 C0 (by omega) (by omega) (by omega)).mono ?_
 rintro e w1 ⟨r, i1, h1, rfl, r0, r1, D1, C1, O1⟩
 have hz1 := O1.size
 have R1 := (fun j v hv => (O1.cell (p := ⟨w.heap.size, 0 + j, none⟩) (by show w.heap.size < _; omega) (by show w.heap.size ≠ b; omega)).trans (R0 j v hv) : w1.rangeAt w.heap.size 0 (hdC g))
 have x9 : w1.cell? ⟨w.heap.size, 9, none⟩ = some (.int .i64 g.held) := by simpa using R1 9 (.int .i64 g.held) rfl
 have OO := O0.trans O1
 clear R0 R1 D0 C0 O0 O1 D C
 have fin : ∀ (code : Int) (wq : World) (iq hq : Int), qz1y .i64 wq b a len cap iq hq -> qz1p B wq a len -> Only b w wq -> True := fun _ _ _ _ _ _ _ => trivial
 clear fin
 by_cases hh : g.held < 0
 ·go_wp2_with fail
  refine (qz2z B b a len cap i1 h1 5 _ hB hlen D1 C1 (by omega) (by omega)).mono ?_
  rintro e w2 ⟨r5, i2, h2, rfl, D2, C2, O2⟩
  have OO2 := OO.trans O2
  clear x9 OO O2 D1 C1
  have blk2 := D2.blk
  cases r5
  ·go_wp2_with fail
   refine (qz12 B b a len cap i2 h2 6 _ hB hlen (D2.alloc _) (C2.alloc (by omega) _) (by omega) (by omega)).mono ?_
   rintro e w3 ⟨r3, i3, h3, rfl, r30, r31, D3, C3, O3⟩
   have I1 := (qz51 w2 [1, 1, 2, 3, 4, 8] _ 2 rfl).only O3 (by omega)
   obtain ⟨rN, rfl⟩ := Int.eq_ofNat_of_zero_le r30
   obtain ⟨cv, hv⟩ : ∃ v, w3.cell? ⟨w2.heap.size, rN, none⟩ = some (.int .i64 v) := ⟨_, I1.2 rN (by simp; omega)⟩
   clear I1
   have r32 : (rN : Int) < 6 := r31
   have OO3 := (OO2.alloc (.cells #[.int .i64 1, .int .i64 1, .int .i64 2, .int .i64 3, .int .i64 4, .int .i64 8] 2)).trans O3
   clear OO2 O3 D2 C2
   go_wp2_with fail
   refine (qz12 B b a len cap i3 h3 6 _ hB hlen D3 C3 (by omega) (by omega)).mono ?_
   rintro e w3k ⟨kr, ik, hk, rfl, k0, k1, Dk, Ck, Ok⟩
   have OK := OO3.trans Ok
   by_cases cc1 : cv = 1
   ·rw [cc1]
    go_wp2_with fail
    refine (qz12 B b a len cap ik hk 20 _ hB hlen Dk Ck (by omega) (by omega)).mono ?_
    rintro e w3v ⟨vr, iv, hv, rfl, v0, v1, Dv, Cv, Ov⟩
    go_wp2
    go_ret3
    exact ⟨_, _, _, iv, hv, rfl, Dv, Cv, OK.trans Ov⟩
   by_cases cc7 : cv = 7
   ·rw [cc7]
    go_wp2_with fail
    refine (qz12 B b a len cap ik hk 64 _ hB hlen Dk Ck (by omega) (by omega)).mono ?_
    rintro e w3v ⟨vr, iv, hv, rfl, v0, v1, Dv, Cv, Ov⟩
    go_wp2
    go_ret3
    exact ⟨_, _, _, iv, hv, rfl, Dv, Cv, OK.trans Ov⟩
   by_cases cc2 : cv = 2
   ·rw [cc2]
    go_wp2
    go_ret3
    exact ⟨_, _, _, ik, hk, rfl, Dk, Ck, OK⟩
   by_cases cc3 : cv = 3
   ·rw [cc3]
    go_wp2
    go_ret3
    exact ⟨_, _, _, ik, hk, rfl, Dk, Ck, OK⟩
   by_cases cc6 : cv = 6
   ·rw [cc6]
    go_wp2
    go_ret3
    exact ⟨_, _, _, ik, hk, rfl, Dk, Ck, OK⟩
   have bb1 : (cv == 1) = false := by simp [cc1]
   have bb7 : (cv == 7) = false := by simp [cc7]
   have bb2 : (cv == 2) = false := by simp [cc2]
   have bb3 : (cv == 3) = false := by simp [cc3]
   have bb6 : (cv == 6) = false := by simp [cc6]
   go_wp2
   go_ret3
   exact ⟨_, _, _, ik, hk, rfl, Dk, Ck, OK⟩
  ·skip
   go_wp2_with fail
   refine (qz12 B b a len cap i2 h2 6 _ hB hlen D2 C2 (by omega) (by omega)).mono ?_
   rintro e w2k ⟨kr, ik, hk, rfl, k0, k1, Dk, Ck, Ok⟩
   have OK := OO2.trans Ok
   by_cases cc1 : r = 1
   ·rw [cc1]
    go_wp2_with fail
    refine (qz12 B b a len cap ik hk 20 _ hB hlen Dk Ck (by omega) (by omega)).mono ?_
    rintro e w2v ⟨vr, iv, hv, rfl, v0, v1, Dv, Cv, Ov⟩
    go_wp2
    go_ret3
    exact ⟨_, _, _, iv, hv, rfl, Dv, Cv, OK.trans Ov⟩
   by_cases cc7 : r = 7
   ·rw [cc7]
    go_wp2_with fail
    refine (qz12 B b a len cap ik hk 64 _ hB hlen Dk Ck (by omega) (by omega)).mono ?_
    rintro e w2v ⟨vr, iv, hv, rfl, v0, v1, Dv, Cv, Ov⟩
    go_wp2
    go_ret3
    exact ⟨_, _, _, iv, hv, rfl, Dv, Cv, OK.trans Ov⟩
   by_cases cc2 : r = 2
   ·rw [cc2]
    go_wp2
    go_ret3
    exact ⟨_, _, _, ik, hk, rfl, Dk, Ck, OK⟩
   by_cases cc3 : r = 3
   ·rw [cc3]
    go_wp2
    go_ret3
    exact ⟨_, _, _, ik, hk, rfl, Dk, Ck, OK⟩
   by_cases cc6 : r = 6
   ·rw [cc6]
    go_wp2
    go_ret3
    exact ⟨_, _, _, ik, hk, rfl, Dk, Ck, OK⟩
   have bb1 : (r == 1) = false := by simp [cc1]
   have bb7 : (r == 7) = false := by simp [cc7]
   have bb2 : (r == 2) = false := by simp [cc2]
   have bb3 : (r == 3) = false := by simp [cc3]
   have bb6 : (r == 6) = false := by simp [cc6]
   go_wp2
   go_ret3
   exact ⟨_, _, _, ik, hk, rfl, Dk, Ck, OK⟩
 go_wp2_with fail
 refine (qz12 B b a len cap i1 h1 6 _ hB hlen D1 C1 (by omega) (by omega)).mono ?_
 rintro e w1k ⟨kr, ik, hk, rfl, k0, k1, Dk, Ck, Ok⟩
 have OK := OO.trans Ok
 by_cases cc1 : r = 1
 ·rw [cc1]
  go_wp2_with fail
  refine (qz12 B b a len cap ik hk 20 _ hB hlen Dk Ck (by omega) (by omega)).mono ?_
  rintro e w1v ⟨vr, iv, hv, rfl, v0, v1, Dv, Cv, Ov⟩
  go_wp2
  go_ret3
  exact ⟨_, _, _, iv, hv, rfl, Dv, Cv, OK.trans Ov⟩
 by_cases cc7 : r = 7
 ·rw [cc7]
  go_wp2_with fail
  refine (qz12 B b a len cap ik hk 64 _ hB hlen Dk Ck (by omega) (by omega)).mono ?_
  rintro e w1v ⟨vr, iv, hv, rfl, v0, v1, Dv, Cv, Ov⟩
  go_wp2
  go_ret3
  exact ⟨_, _, _, iv, hv, rfl, Dv, Cv, OK.trans Ov⟩
 by_cases cc2 : r = 2
 ·rw [cc2]
  go_wp2
  go_ret3
  exact ⟨_, _, _, ik, hk, rfl, Dk, Ck, OK⟩
 by_cases cc3 : r = 3
 ·rw [cc3]
  go_wp2
  go_ret3
  exact ⟨_, _, _, ik, hk, rfl, Dk, Ck, OK⟩
 by_cases cc6 : r = 6
 ·rw [cc6]
  go_wp2
  go_ret3
  exact ⟨_, _, _, ik, hk, rfl, Dk, Ck, OK⟩
 have bb1 : (r == 1) = false := by simp [cc1]
 have bb7 : (r == 7) = false := by simp [cc7]
 have bb2 : (r == 2) = false := by simp [cc2]
 have bb3 : (r == 3) = false := by simp [cc3]
 have bb6 : (r == 6) = false := by simp [cc6]
 go_wp2
 go_ret3
 exact ⟨_, _, _, ik, hk, rfl, Dk, Ck, OK⟩
end
section
attribute [local go_sem ↓] Go.wp_at_zero Go.wp_at_succ
theorem qz17 {b c : Nat} {x w w' : World} (h : Only b x w) (k : Only c w w') (hc : x.heap.size <= c) : Only b x w' :=
 ⟨k.os.trans h.os, k.tape.trans h.tape, k.output.trans h.output, Nat.le_trans h.size k.size, fun q hq hn => (k.block q (Nat.lt_of_lt_of_le hq h.size) (by omega)).trans (h.block q hq hn)⟩
theorem qz3y {B c : Nat} {w w' : World} {v : Value} {n : Nat} {cs : List Value} (S : qz14 B w v n cs) (hO : Only c w w') (hB : B <= w.heap.size) (hne : ∀ q, qz5c v = some q -> q ≠ c) : qz14 B w' v n cs := by
 obtain ⟨a', cap', rfl, h⟩ := S
 refine ⟨a', cap', rfl, ?_⟩
 rcases h with h | ⟨bb, off, rfl, lt, R⟩
 ·exact Or.inl h
 ·exact Or.inr ⟨bb, off, rfl, lt, qz3 R hO (by omega) (hne bb rfl)⟩
def qzdb (s g n r hs cs ds ts : Value) (q : Nat) : Prop := qz5c s = some q ∨ qz5c g = some q ∨ qz5c n = some q ∨ qz5c r = some q ∨ qz5c hs = some q ∨ qz5c cs = some q ∨ qz5c ds = some q ∨ qz5c ts = some q
theorem WdIs.far {B c : Nat} {w w' : World} {s g n r hs cs ds ts : Value} {W : Wd} (I : WdIs B w s g n r hs cs ds ts W) (hO : Only c w w') (hB : B <= w.heap.size) (hne : ∀ q, qzdb s g n r hs cs ds ts q -> q ≠ c) : WdIs B w' s g n r hs cs ds ts W :=
 ⟨⟨qz3y I.ar.s hO hB (fun q e => hne q (Or.inl e)), qz3y I.ar.g hO hB (fun q e => hne q (Or.inr (Or.inl e))), qz3y I.ar.n hO hB (fun q e => hne q (Or.inr (Or.inr (Or.inl e)))), qz3y I.ar.r hO hB (fun q e => hne q (Or.inr (Or.inr (Or.inr (Or.inl e)))))⟩,
  qz3y I.h hO hB (fun q e => hne q (Or.inr (Or.inr (Or.inr (Or.inr (Or.inl e)))))), qz3y I.c hO hB (fun q e => hne q (Or.inr (Or.inr (Or.inr (Or.inr (Or.inr (Or.inl e))))))), qz3y I.d hO hB (fun q e => hne q (Or.inr (Or.inr (Or.inr (Or.inr (Or.inr (Or.inr (Or.inl e)))))))), qz3y I.t hO hB (fun q e => hne q (Or.inr (Or.inr (Or.inr (Or.inr (Or.inr (Or.inr (Or.inr e))))))))⟩
theorem WdIs.weaken {B B' : Nat} {w : World} {s g n r hs cs ds ts : Value} {W : Wd} (I : WdIs B w s g n r hs cs ds ts W) (hB : B <= B') : WdIs B' w s g n r hs cs ds ts W :=
 ⟨I.ar.weaken hB, I.h.weaken hB, I.c.weaken hB, I.d.weaken hB, I.t.weaken hB⟩
theorem qz83.blk {base : Nat} {w : World} {s g n r hs cs ds ts : Value} {W : Wd} (O : qz83 base w s g n r hs cs ds ts W) (q : Nat) (h : qzdb s g n r hs cs ds ts q) : base <= q /\ q < w.heap.size := by
 rcases h with e | e | e | e | e | e | e | e
 ·rw [qz3w O.ar.rs] at e; exact ⟨qz1l O.ar.rs e, qz2m O.ar.rs e⟩
 ·rw [qz3w O.ar.rg] at e; exact ⟨qz1l O.ar.rg e, qz2m O.ar.rg e⟩
 ·rw [qz3w O.ar.rn] at e; exact ⟨qz1l O.ar.rn e, qz2m O.ar.rn e⟩
 ·rw [qz3w O.ar.rr] at e; exact ⟨qz1l O.ar.rr e, qz2m O.ar.rr e⟩
 ·rw [qz3w O.h] at e; exact ⟨qz1l O.h e, qz2m O.h e⟩
 ·rw [qz3w O.c] at e; exact ⟨qz1l O.c e, qz2m O.c e⟩
 ·rw [qz3w O.d] at e; exact ⟨qz1l O.d e, qz2m O.d e⟩
 ·rw [qz3w O.t] at e; exact ⟨qz1l O.t e, qz2m O.t e⟩
structure Play (B b b2 b3 : Nat) (w wr : World) (a : Option Addr) (len cap : Nat) (x y z u : Int) (s g n r hs cs ds ts : Value) (W : Wd) : Prop where
 dice : ∃ i h, qz1y .i64 wr b a len cap i h
 bytes : qz1p B wr a len
 row : wr.rangeAt b3 0 (wdC x y z u W.A.camera s g n r hs cs ds ts W.now)
 th : wr.there b3 0 14
 rm : wr.there b2 0 14
 is : WdIs wr.heap.size wr s g n r hs cs ds ts W
 far : ∀ q, qzdb s g n r hs cs ds ts q -> w.heap.size <= q /\ q ≠ b2 /\ q ≠ b3
 only : Only b w wr
 lo : w.heap.size <= b2
 lt : b2 < b3
 hi : b3 < wr.heap.size
section
variable {B b b2 b3 : Nat} {w wr w' : World} {a : Option Addr} {len cap : Nat} {x y z u : Int} {s g n r hs cs ds ts : Value} {W : Wd}
theorem Play.draw (P : Play B b b2 b3 w wr a len cap x y z u s g n r hs cs ds ts W) (hbw : b < w.heap.size) {i' h' : Int} (D' : qz1y .i64 w' b a len cap i' h') (C' : qz1p B w' a len) (O' : Only b wr w') : Play B b b2 b3 w w' a len cap x y z u s g n r hs cs ds ts W := by
 have h1 := P.lo
 have h2 := P.lt
 have h3 := P.hi
 exact ⟨⟨i', h', D'⟩, C', qz3 P.row O' h3 (by omega), qz7 P.th O' h3 (by omega), qz7 P.rm O' (by omega) (by omega), (P.is.far O' (Nat.le_refl _) (fun q e => by have := (P.far q e).1; omega)).weaken O'.size, P.far, P.only.trans O', h1, h2, Nat.lt_of_lt_of_le h3 O'.size⟩
theorem Play.below (P : Play B b b2 b3 w wr a len cap x y z u s g n r hs cs ds ts W) (hB : B <= b) (hb : Below wr.heap.size wr w') : Play B b b2 b3 w w' a len cap x y z u s g n r hs cs ds ts W := by
 have h1 := P.lo
 have h2 := P.lt
 have h3 := P.hi
 obtain ⟨i, h, Dd⟩ := P.dice
 exact ⟨⟨i, h, Dd.below hb⟩, P.bytes.below (hb.mono (by have := Dd.blk; omega)), qz0 P.row hb h3, qz6 P.th hb h3, qz6 P.rm hb (by omega), (P.is.below hb).weaken hb.size, P.far, P.only.trans (Only.of_below hb), h1, h2, Nat.lt_of_lt_of_le h3 hb.size⟩
theorem Play.store {s' g' n' r' hs' cs' ds' ts' : Value} {W' : Wd} (P : Play B b b2 b3 w wr a len cap x y z u s g n r hs cs ds ts W) (hB : B <= b) (hbw : b < w.heap.size) (hb : Below wr.heap.size wr w') (O : qz83 wr.heap.size w' s' g' n' r' hs' cs' ds' ts' W') :
  Play B b b2 b3 w (w'.setCells b3 0 (wdC x y z u W'.A.camera s' g' n' r' hs' cs' ds' ts' W'.now)) a len cap x y z u s' g' n' r' hs' cs' ds' ts' W' := by
 have Q := P.below hB hb
 have h1 := Q.lo
 have h2 := Q.lt
 have h3 := Q.hi
 have h4 := P.hi
 have hO := qz8 b3 (wdC x y z u W'.A.camera s' g' n' r' hs' cs' ds' ts' W'.now) 0 w'
 obtain ⟨i, h, Dd⟩ := Q.dice
 have hz := hb.size
 have hw := P.only.size
 refine ⟨⟨i, h, Dd.only hO (by omega)⟩, Q.bytes.below (hO.below (by omega) (by have := Dd.blk; omega)), World.rangeAt_setCells_same _ _ _ _ Q.th, World.there_setCells Q.th _ _ _, World.there_setCells Q.rm _ _ _, (O.only hO h4).is, fun q e => ?_, qz17 Q.only hO (by omega), h1, h2, by rw [qzj]; exact h3⟩
 have := O.blk q e
 omega
theorem Play.again (P : Play B b b2 b3 w wr a len cap x y z u s g n r hs cs ds ts W) (hB : B <= b) (hbw : b < w.heap.size) (hb : Below wr.heap.size wr w') :
  Play B b b2 b3 w (w'.setCells b3 0 (wdC x y z u W.A.camera s g n r hs cs ds ts W.now)) a len cap x y z u s g n r hs cs ds ts W := by
 have Q := P.below hB hb
 have h1 := Q.lo
 have h2 := Q.lt
 have h3 := Q.hi
 have hO := qz8 b3 (wdC x y z u W.A.camera s g n r hs cs ds ts W.now) 0 w'
 obtain ⟨i, h, Dd⟩ := Q.dice
 exact ⟨⟨i, h, Dd.only hO (by omega)⟩, Q.bytes.below (hO.below (by omega) (by have := Dd.blk; omega)), World.rangeAt_setCells_same _ _ _ _ Q.th, World.there_setCells Q.th _ _ _, World.there_setCells Q.rm _ _ _, (Q.is.far hO (Nat.le_refl _) (fun q e => (Q.far q e).2.2)).weaken hO.size, Q.far, qz17 Q.only hO (by omega), h1, h2, by rw [qzj]; exact h3⟩
theorem Play.slices (P : Play B b b2 b3 w wr a len cap x y z u s g n r hs cs ds ts W) : ∃ (a0 a1 a2 a3 a4 a5 a6 a7 : Option Addr) (c0 c1 c2 c3 c4 c5 c6 c7 : Nat), s = .slice a0 W.A.slots.length c0 /\ g = .slice a1 W.A.guides.length c1 /\ n = .slice a2 W.A.nodes.length c2 /\ r = .slice a3 W.A.vers.length c3 /\ hs = .slice a4 W.hands.length c4 /\ cs = .slice a5 W.calls.length c5 /\ ds = .slice a6 W.deeds.length c6 /\ ts = .slice a7 W.ticks.length c7 := by
 obtain ⟨a0, c0, e0, _⟩ := P.is.ar.s
 obtain ⟨a1, c1, e1, _⟩ := P.is.ar.g
 obtain ⟨a2, c2, e2, _⟩ := P.is.ar.n
 obtain ⟨a3, c3, e3, _⟩ := P.is.ar.r
 obtain ⟨a4, c4, e4, _⟩ := P.is.h
 obtain ⟨a5, c5, e5, _⟩ := P.is.c
 obtain ⟨a6, c6, e6, _⟩ := P.is.d
 obtain ⟨a7, c7, e7, _⟩ := P.is.t
 exact ⟨a0, a1, a2, a3, a4, a5, a6, a7, c0, c1, c2, c3, c4, c5, c6, c7, e0, e1, e2, e3, e4, e5, e6, e7⟩
theorem Play.cell (P : Play B b b2 b3 w wr a len cap x y z u s g n r hs cs ds ts W) (k : Nat) {v : Value} (hv : (wdC x y z u W.A.camera s g n r hs cs ds ts W.now)[k]? = some v) : wr.cell? ⟨b3, k, none⟩ = some v := by
 have := P.row k v hv
 rwa [Nat.zero_add] at this
end
end
section
attribute [local go_sem ↓] Go.wp_at_zero Go.wp_at_succ
theorem qz5z (B : Nat) (x y z u : Int) (W : Wd) (a0 a1 a2 a3 a4 a5 a6 a7 : Option Addr) (c0 c1 c2 c3 c4 c5 c6 c7 : Nat) (k : Nat) (h : Hd) (w : World) (hB : B <= w.heap.size) (hW : W.size <= 1000000) (I : WdIs B w (.slice a0 W.A.slots.length c0) (.slice a1 W.A.guides.length c1) (.slice a2 W.A.nodes.length c2) (.slice a3 W.A.vers.length c3) (.slice a4 W.hands.length c4) (.slice a5 W.calls.length c5) (.slice a6 W.deeds.length c6) (.slice a7 W.ticks.length c7) W) (hk : k < W.hands.length) (hkh : W.hands[k] = h) (h0 : h.at_ = 0) :
  Calls Try.prog 98 #[.agg #[.int .i64 x, .int .i64 y, .int .i64 z, .int .i64 u, .int .i64 W.A.camera, .slice a0 W.A.slots.length c0, .slice a1 W.A.guides.length c1, .slice a2 W.A.nodes.length c2, .slice a3 W.A.vers.length c3, .slice a4 W.hands.length c4, .slice a5 W.calls.length c5, .slice a6 W.deeds.length c6, .slice a7 W.ticks.length c7, .int .i64 W.now], .int .i64 (k : Int)] w fun e w' => e = .returned (.tuple #[.agg #[.int .i64 x, .int .i64 y, .int .i64 z, .int .i64 u, .int .i64 W.A.camera, .slice a0 W.A.slots.length c0, .slice a1 W.A.guides.length c1, .slice a2 W.A.nodes.length c2, .slice a3 W.A.vers.length c3, .slice a4 W.hands.length c4, .slice a5 W.calls.length c5, .slice a6 W.deeds.length c6, .slice a7 W.ticks.length c7, .int .i64 W.now], .bool false]) /\ Below w.heap.size w w' := by
 unfold Wd.size at hW
 obtain ⟨hb, ho, rfl, hbB, Rh⟩ : ∃ hb ho, a4 = some ⟨hb, ho, none⟩ /\ hb < B /\ w.rangeAt hb ho (qzq hdC W.hands) := by
  obtain ⟨a', cap', e4, h4⟩ := I.h
  cases e4
  rcases h4 with h4 | ⟨hb, ho, e, h5, h6⟩
  ·omega
  ·exact ⟨hb, ho, e, h5, h6⟩
 have X0 := World.rangeAt_alloc (qzd w [.int .i64 x, .int .i64 y, .int .i64 z, .int .i64 u, .int .i64 W.A.camera, .slice a0 W.A.slots.length c0, .slice a1 W.A.guides.length c1, .slice a2 W.A.nodes.length c2, .slice a3 W.A.vers.length c3, .slice (some ⟨hb, ho, none⟩) W.hands.length c4, .slice a5 W.calls.length c5, .slice a6 W.deeds.length c6, .slice a7 W.ticks.length c7, .int .i64 W.now] 43) (.cells #[.int .i64 0, .int .i64 0, .int .i64 0, .int .i64 0, .int .i64 0, .slice none 0 0, .slice none 0 0, .slice none 0 0, .slice none 0 0, .slice none 0 0, .slice none 0 0, .slice none 0 0, .slice none 0 0, .int .i64 0] 43)
 have F0 := qzh (w.alloc (.cells #[.int .i64 x, .int .i64 y, .int .i64 z, .int .i64 u, .int .i64 W.A.camera, .slice a0 W.A.slots.length c0, .slice a1 W.A.guides.length c1, .slice a2 W.A.nodes.length c2, .slice a3 W.A.vers.length c3, .slice (some ⟨hb, ho, none⟩) W.hands.length c4, .slice a5 W.calls.length c5, .slice a6 W.deeds.length c6, .slice a7 W.ticks.length c7, .int .i64 W.now] 43)) #[.int .i64 0, .int .i64 0, .int .i64 0, .int .i64 0, .int .i64 0, .slice none 0 0, .slice none 0 0, .slice none 0 0, .slice none 0 0, .slice none 0 0, .slice none 0 0, .slice none 0 0, .slice none 0 0, .int .i64 0] 43 14 (by decide)
 have K0 := ((Below.refl w.heap.size w).alloc (Nat.le_refl _) (.cells #[.int .i64 x, .int .i64 y, .int .i64 z, .int .i64 u, .int .i64 W.A.camera, .slice a0 W.A.slots.length c0, .slice a1 W.A.guides.length c1, .slice a2 W.A.nodes.length c2, .slice a3 W.A.vers.length c3, .slice (some ⟨hb, ho, none⟩) W.hands.length c4, .slice a5 W.calls.length c5, .slice a6 W.deeds.length c6, .slice a7 W.ticks.length c7, .int .i64 W.now] 43)).alloc (by simp) (.cells #[.int .i64 0, .int .i64 0, .int .i64 0, .int .i64 0, .int .i64 0, .slice none 0 0, .slice none 0 0, .slice none 0 0, .slice none 0 0, .slice none 0 0, .slice none 0 0, .slice none 0 0, .slice none 0 0, .int .i64 0] 43)
 have E0 := qz0 (qzu (f := hdC) (sz := 22) (fun _ => rfl) Rh k hk) K0 (Nat.lt_of_lt_of_le hbB hB)
 rw [hkh] at E0
 have FA := qzh ((w.alloc (.cells #[.int .i64 x, .int .i64 y, .int .i64 z, .int .i64 u, .int .i64 W.A.camera, .slice a0 W.A.slots.length c0, .slice a1 W.A.guides.length c1, .slice a2 W.A.nodes.length c2, .slice a3 W.A.vers.length c3, .slice (some ⟨hb, ho, none⟩) W.hands.length c4, .slice a5 W.calls.length c5, .slice a6 W.deeds.length c6, .slice a7 W.ticks.length c7, .int .i64 W.now] 43)).alloc (.cells #[.int .i64 0, .int .i64 0, .int .i64 0, .int .i64 0, .int .i64 0, .slice none 0 0, .slice none 0 0, .slice none 0 0, .slice none 0 0, .slice none 0 0, .slice none 0 0, .slice none 0 0, .slice none 0 0, .int .i64 0] 43)) #[.int .i64 0, .int .i64 0, .int .i64 0, .int .i64 0, .int .i64 0, .int .i64 0, .int .i64 0, .int .i64 0, .int .i64 0, .int .i64 0, .int .i64 0, .int .i64 0, .int .i64 0, .int .i64 0, .int .i64 0, .int .i64 0, .int .i64 0, .int .i64 0, .int .i64 0, .int .i64 0, .int .i64 0, .int .i64 0] 27 22 (by decide)
 have hset : (((w.alloc (.cells #[.int .i64 x, .int .i64 y, .int .i64 z, .int .i64 u, .int .i64 W.A.camera, .slice a0 W.A.slots.length c0, .slice a1 W.A.guides.length c1, .slice a2 W.A.nodes.length c2, .slice a3 W.A.vers.length c3, .slice (some ⟨hb, ho, none⟩) W.hands.length c4, .slice a5 W.calls.length c5, .slice a6 W.deeds.length c6, .slice a7 W.ticks.length c7, .int .i64 W.now] 43)).alloc (.cells #[.int .i64 0, .int .i64 0, .int .i64 0, .int .i64 0, .int .i64 0, .slice none 0 0, .slice none 0 0, .slice none 0 0, .slice none 0 0, .slice none 0 0, .slice none 0 0, .slice none 0 0, .slice none 0 0, .int .i64 0] 43)).alloc (.cells #[.int .i64 0, .int .i64 0, .int .i64 0, .int .i64 0, .int .i64 0, .int .i64 0, .int .i64 0, .int .i64 0, .int .i64 0, .int .i64 0, .int .i64 0, .int .i64 0, .int .i64 0, .int .i64 0, .int .i64 0, .int .i64 0, .int .i64 0, .int .i64 0, .int .i64 0, .int .i64 0, .int .i64 0, .int .i64 0] 27)).setCells ((w.alloc (.cells #[.int .i64 x, .int .i64 y, .int .i64 z, .int .i64 u, .int .i64 W.A.camera, .slice a0 W.A.slots.length c0, .slice a1 W.A.guides.length c1, .slice a2 W.A.nodes.length c2, .slice a3 W.A.vers.length c3, .slice (some ⟨hb, ho, none⟩) W.hands.length c4, .slice a5 W.calls.length c5, .slice a6 W.deeds.length c6, .slice a7 W.ticks.length c7, .int .i64 W.now] 43)).alloc (.cells #[.int .i64 0, .int .i64 0, .int .i64 0, .int .i64 0, .int .i64 0, .slice none 0 0, .slice none 0 0, .slice none 0 0, .slice none 0 0, .slice none 0 0, .slice none 0 0, .slice none 0 0, .slice none 0 0, .int .i64 0] 43)).heap.size 0 (hdC h).toArray.toList = ((w.alloc (.cells #[.int .i64 x, .int .i64 y, .int .i64 z, .int .i64 u, .int .i64 W.A.camera, .slice a0 W.A.slots.length c0, .slice a1 W.A.guides.length c1, .slice a2 W.A.nodes.length c2, .slice a3 W.A.vers.length c3, .slice (some ⟨hb, ho, none⟩) W.hands.length c4, .slice a5 W.calls.length c5, .slice a6 W.deeds.length c6, .slice a7 W.ticks.length c7, .int .i64 W.now] 43)).alloc (.cells #[.int .i64 0, .int .i64 0, .int .i64 0, .int .i64 0, .int .i64 0, .slice none 0 0, .slice none 0 0, .slice none 0 0, .slice none 0 0, .slice none 0 0, .slice none 0 0, .slice none 0 0, .slice none 0 0, .int .i64 0] 43)).alloc (.cells #[.int .i64 h.at_, .int .i64 h.then_, .int .i64 h.code, .int .i64 h.key, .int .i64 h.value, .int .i64 h.begin, .int .i64 h.reply, .int .i64 h.out, .int .i64 h.sum, .int .i64 h.held, .int .i64 h.x_, .int .i64 h.ver, .int .i64 h.cam, .int .i64 h.camAt, .int .i64 h.pred, .int .i64 h.predVer, .int .i64 h.curr, .int .i64 h.currVer, .int .i64 h.new_, .int .i64 h.least, .int .i64 h.index, .int .i64 h.round] 27) := qz11 ((w.alloc (.cells #[.int .i64 x, .int .i64 y, .int .i64 z, .int .i64 u, .int .i64 W.A.camera, .slice a0 W.A.slots.length c0, .slice a1 W.A.guides.length c1, .slice a2 W.A.nodes.length c2, .slice a3 W.A.vers.length c3, .slice (some ⟨hb, ho, none⟩) W.hands.length c4, .slice a5 W.calls.length c5, .slice a6 W.deeds.length c6, .slice a7 W.ticks.length c7, .int .i64 W.now] 43)).alloc (.cells #[.int .i64 0, .int .i64 0, .int .i64 0, .int .i64 0, .int .i64 0, .slice none 0 0, .slice none 0 0, .slice none 0 0, .slice none 0 0, .slice none 0 0, .slice none 0 0, .slice none 0 0, .slice none 0 0, .int .i64 0] 43)) 27 (hdC h) [] [.int .i64 0, .int .i64 0, .int .i64 0, .int .i64 0, .int .i64 0, .int .i64 0, .int .i64 0, .int .i64 0, .int .i64 0, .int .i64 0, .int .i64 0, .int .i64 0, .int .i64 0, .int .i64 0, .int .i64 0, .int .i64 0, .int .i64 0, .int .i64 0, .int .i64 0, .int .i64 0, .int .i64 0, .int .i64 0] rfl
 have X1 := World.rangeAt_alloc X0 (.cells #[.int .i64 h.at_, .int .i64 h.then_, .int .i64 h.code, .int .i64 h.key, .int .i64 h.value, .int .i64 h.begin, .int .i64 h.reply, .int .i64 h.out, .int .i64 h.sum, .int .i64 h.held, .int .i64 h.x_, .int .i64 h.ver, .int .i64 h.cam, .int .i64 h.camAt, .int .i64 h.pred, .int .i64 h.predVer, .int .i64 h.curr, .int .i64 h.currVer, .int .i64 h.new_, .int .i64 h.least, .int .i64 h.index, .int .i64 h.round] 27)
 have F1 := World.there_alloc F0 (.cells #[.int .i64 h.at_, .int .i64 h.then_, .int .i64 h.code, .int .i64 h.key, .int .i64 h.value, .int .i64 h.begin, .int .i64 h.reply, .int .i64 h.out, .int .i64 h.sum, .int .i64 h.held, .int .i64 h.x_, .int .i64 h.ver, .int .i64 h.cam, .int .i64 h.camAt, .int .i64 h.pred, .int .i64 h.predVer, .int .i64 h.curr, .int .i64 h.currVer, .int .i64 h.new_, .int .i64 h.least, .int .i64 h.index, .int .i64 h.round] 27)
 have H1 : (((w.alloc (.cells #[.int .i64 x, .int .i64 y, .int .i64 z, .int .i64 u, .int .i64 W.A.camera, .slice a0 W.A.slots.length c0, .slice a1 W.A.guides.length c1, .slice a2 W.A.nodes.length c2, .slice a3 W.A.vers.length c3, .slice (some ⟨hb, ho, none⟩) W.hands.length c4, .slice a5 W.calls.length c5, .slice a6 W.deeds.length c6, .slice a7 W.ticks.length c7, .int .i64 W.now] 43)).alloc (.cells #[.int .i64 0, .int .i64 0, .int .i64 0, .int .i64 0, .int .i64 0, .slice none 0 0, .slice none 0 0, .slice none 0 0, .slice none 0 0, .slice none 0 0, .slice none 0 0, .slice none 0 0, .slice none 0 0, .int .i64 0] 43)).alloc (.cells #[.int .i64 h.at_, .int .i64 h.then_, .int .i64 h.code, .int .i64 h.key, .int .i64 h.value, .int .i64 h.begin, .int .i64 h.reply, .int .i64 h.out, .int .i64 h.sum, .int .i64 h.held, .int .i64 h.x_, .int .i64 h.ver, .int .i64 h.cam, .int .i64 h.camAt, .int .i64 h.pred, .int .i64 h.predVer, .int .i64 h.curr, .int .i64 h.currVer, .int .i64 h.new_, .int .i64 h.least, .int .i64 h.index, .int .i64 h.round] 27)).rangeAt ((w.alloc (.cells #[.int .i64 x, .int .i64 y, .int .i64 z, .int .i64 u, .int .i64 W.A.camera, .slice a0 W.A.slots.length c0, .slice a1 W.A.guides.length c1, .slice a2 W.A.nodes.length c2, .slice a3 W.A.vers.length c3, .slice (some ⟨hb, ho, none⟩) W.hands.length c4, .slice a5 W.calls.length c5, .slice a6 W.deeds.length c6, .slice a7 W.ticks.length c7, .int .i64 W.now] 43)).alloc (.cells #[.int .i64 0, .int .i64 0, .int .i64 0, .int .i64 0, .int .i64 0, .slice none 0 0, .slice none 0 0, .slice none 0 0, .slice none 0 0, .slice none 0 0, .slice none 0 0, .slice none 0 0, .slice none 0 0, .int .i64 0] 43)).heap.size 0 (hdC h) := qzd ((w.alloc (.cells #[.int .i64 x, .int .i64 y, .int .i64 z, .int .i64 u, .int .i64 W.A.camera, .slice a0 W.A.slots.length c0, .slice a1 W.A.guides.length c1, .slice a2 W.A.nodes.length c2, .slice a3 W.A.vers.length c3, .slice (some ⟨hb, ho, none⟩) W.hands.length c4, .slice a5 W.calls.length c5, .slice a6 W.deeds.length c6, .slice a7 W.ticks.length c7, .int .i64 W.now] 43)).alloc (.cells #[.int .i64 0, .int .i64 0, .int .i64 0, .int .i64 0, .int .i64 0, .slice none 0 0, .slice none 0 0, .slice none 0 0, .slice none 0 0, .slice none 0 0, .slice none 0 0, .slice none 0 0, .slice none 0 0, .int .i64 0] 43)) (hdC h) 27
 have hz1 : (((w.alloc (.cells #[.int .i64 x, .int .i64 y, .int .i64 z, .int .i64 u, .int .i64 W.A.camera, .slice a0 W.A.slots.length c0, .slice a1 W.A.guides.length c1, .slice a2 W.A.nodes.length c2, .slice a3 W.A.vers.length c3, .slice (some ⟨hb, ho, none⟩) W.hands.length c4, .slice a5 W.calls.length c5, .slice a6 W.deeds.length c6, .slice a7 W.ticks.length c7, .int .i64 W.now] 43)).alloc (.cells #[.int .i64 0, .int .i64 0, .int .i64 0, .int .i64 0, .int .i64 0, .slice none 0 0, .slice none 0 0, .slice none 0 0, .slice none 0 0, .slice none 0 0, .slice none 0 0, .slice none 0 0, .slice none 0 0, .int .i64 0] 43)).alloc (.cells #[.int .i64 h.at_, .int .i64 h.then_, .int .i64 h.code, .int .i64 h.key, .int .i64 h.value, .int .i64 h.begin, .int .i64 h.reply, .int .i64 h.out, .int .i64 h.sum, .int .i64 h.held, .int .i64 h.x_, .int .i64 h.ver, .int .i64 h.cam, .int .i64 h.camAt, .int .i64 h.pred, .int .i64 h.predVer, .int .i64 h.curr, .int .i64 h.currVer, .int .i64 h.new_, .int .i64 h.least, .int .i64 h.index, .int .i64 h.round] 27)).heap.size = w.heap.size + 3 := by simp
 simp only [World.size_alloc] at F0 F1 H1 FA hset
 have K1 := K0.alloc (by simp; omega) (.cells #[.int .i64 h.at_, .int .i64 h.then_, .int .i64 h.code, .int .i64 h.key, .int .i64 h.value, .int .i64 h.begin, .int .i64 h.reply, .int .i64 h.out, .int .i64 h.sum, .int .i64 h.held, .int .i64 h.x_, .int .i64 h.ver, .int .i64 h.cam, .int .i64 h.camAt, .int .i64 h.pred, .int .i64 h.predVer, .int .i64 h.curr, .int .i64 h.currVer, .int .i64 h.new_, .int .i64 h.least, .int .i64 h.index, .int .i64 h.round] 27)
 obtain ⟨x0, x1, x2, x3, x4, x5, x6, x7, x8, x9, x10, x11, x12, x13⟩ := qzc2 X0
 have hk1 : (k : Int) < (W.hands.length : Int) := by omega
 have hk0 : (0 : Int) <= (k : Int) := by omega
 clear Rh I X0 F0 K0
 go_enter Try.func98, Try.ntmps98
 go_upto_region 2 with (first | (refine wpList_load_mid rfl 27 (.tmp 13) rfl hb (ho + k * 22) rfl (hdC h) _ ?hc0 Try.underlying27 rfl (qz1 h) ?_) | (refine wpList_store_mid rfl 27 (.tmp 6) (.tmp 14) rfl (w.heap.size + 1 + 1) 0 _ rfl rfl FA (qza h) (qzf _) ?_; rw [hset]))
 case hc0 => exact E0
 clear FA hset E0 x0 x1 x2 x3 x4 x5 x6 x7 x8 x9 x10 x11 x12 x13
 generalize hw1 : (((w.alloc (.cells #[.int .i64 x, .int .i64 y, .int .i64 z, .int .i64 u, .int .i64 W.A.camera, .slice a0 W.A.slots.length c0, .slice a1 W.A.guides.length c1, .slice a2 W.A.nodes.length c2, .slice a3 W.A.vers.length c3, .slice (some ⟨hb, ho, none⟩) W.hands.length c4, .slice a5 W.calls.length c5, .slice a6 W.deeds.length c6, .slice a7 W.ticks.length c7, .int .i64 W.now] 43)).alloc (.cells #[.int .i64 0, .int .i64 0, .int .i64 0, .int .i64 0, .int .i64 0, .slice none 0 0, .slice none 0 0, .slice none 0 0, .slice none 0 0, .slice none 0 0, .slice none 0 0, .slice none 0 0, .slice none 0 0, .int .i64 0] 43)).alloc (.cells #[.int .i64 h.at_, .int .i64 h.then_, .int .i64 h.code, .int .i64 h.key, .int .i64 h.value, .int .i64 h.begin, .int .i64 h.reply, .int .i64 h.out, .int .i64 h.sum, .int .i64 h.held, .int .i64 h.x_, .int .i64 h.ver, .int .i64 h.cam, .int .i64 h.camAt, .int .i64 h.pred, .int .i64 h.predVer, .int .i64 h.curr, .int .i64 h.currVer, .int .i64 h.new_, .int .i64 h.least, .int .i64 h.index, .int .i64 h.round] 27)) = w1 at *
 clear hw1
 have y0 : w1.cell? ⟨w.heap.size + 1 + 1, 0, none⟩ = some (.int .i64 0) := by rw [<- h0]; simpa using H1 0 (.int .i64 h.at_) rfl
 go_wp2_with (first | (refine wpList_load_mid rfl 43 (.tmp 2) rfl w.heap.size 0 rfl [.int .i64 x, .int .i64 y, .int .i64 z, .int .i64 u, .int .i64 W.A.camera, .slice a0 W.A.slots.length c0, .slice a1 W.A.guides.length c1, .slice a2 W.A.nodes.length c2, .slice a3 W.A.vers.length c3, .slice (some ⟨hb, ho, none⟩) W.hands.length c4, .slice a5 W.calls.length c5, .slice a6 W.deeds.length c6, .slice a7 W.ticks.length c7, .int .i64 W.now] _ ?lf Try.underlying43 rfl qzm ?_) | (refine wpList_store_mid rfl 43 (.tmp 4) (.tmp 23) rfl (w.heap.size + 1) 0 #[.int .i64 x, .int .i64 y, .int .i64 z, .int .i64 u, .int .i64 W.A.camera, .slice a0 W.A.slots.length c0, .slice a1 W.A.guides.length c1, .slice a2 W.A.nodes.length c2, .slice a3 W.A.vers.length c3, .slice (some ⟨hb, ho, none⟩) W.hands.length c4, .slice a5 W.calls.length c5, .slice a6 W.deeds.length c6, .slice a7 W.ticks.length c7, .int .i64 W.now] ?fx ?fy ?ft qzm (by simp [Value.oneCell']) ?_))
 try (case lf => exact X1)
 try (case fx => rfl)
 try (case fy => rfl)
 try (case ft => exact F1)
 refine bodyPost_ret (v := .tuple #[.agg #[.int .i64 x, .int .i64 y, .int .i64 z, .int .i64 u, .int .i64 W.A.camera, .slice a0 W.A.slots.length c0, .slice a1 W.A.guides.length c1, .slice a2 W.A.nodes.length c2, .slice a3 W.A.vers.length c3, .slice (some ⟨hb, ho, none⟩) W.hands.length c4, .slice a5 W.calls.length c5, .slice a6 W.deeds.length c6, .slice a7 W.ticks.length c7, .int .i64 W.now], .bool false]) ?_ rfl ⟨rfl, ?_⟩
 ·exact qzi Try.results98 _ _ (w.heap.size + 1) 0 rfl [.int .i64 x, .int .i64 y, .int .i64 z, .int .i64 u, .int .i64 W.A.camera, .slice a0 W.A.slots.length c0, .slice a1 W.A.guides.length c1, .slice a2 W.A.nodes.length c2, .slice a3 W.A.vers.length c3, .slice (some ⟨hb, ho, none⟩) W.hands.length c4, .slice a5 W.calls.length c5, .slice a6 W.deeds.length c6, .slice a7 W.ticks.length c7, .int .i64 W.now] _ (World.rangeAt_setCells_same _ _ _ _ F1) Try.underlying43 rfl qzm
 ·exact Below.setCells (by omega) _ _ _ K1
end
section
theorem qz1k {P : Program} {l : List Oper} {Q : Exit -> Act -> World -> Prop} {id : Nat} {a0 : Act} {w0 : World} (k : Nat) (hm : P.follows .mixedOrders = true)
  (J : World -> Prop) (hJ0 : J { w0 with drawn := w0.drawn + 1 }) (G : (Nat -> Bool) -> Nat -> Value -> World -> Prop) (hT : qzcq l.toArray k (l.length - k) = true) (hL : qzcs l.toArray = true) (hBk : qzbk l.toArray k = true) (hg : (l.take k).all (fun o => o.guard.isNone) = true)
  (hdst0 : dstB l.toArray a0.tmps.size = true)
  (step : ∀ (i : Nat) (o : Oper), i < k -> l[i]? = some o -> ∀ (L : Nat -> Bool) (a : Act) (w : World), L i = false -> (∀ j, L j = true -> j < k) -> J w -> (∀ t, qz9r l.toArray t = true -> a.eval (.tmp t) = a0.tmps.getD t undef) ->
   (∀ e ∈ o.after, Region.binds .any e = true -> ∀ d, qz3p l.toArray e.on = some d -> L e.on = true /\ G L e.on (a.eval (.tmp d)) w) ->
   ∀ K : Act -> World -> Prop, (∀ v w', G (onAt L i) i v w' -> J w' -> (∀ j v', j ≠ i -> L j = true -> G L j v' w -> G (onAt L i) j v' w') -> K (a.put o.dst v) w') -> o.wp P a w K Q)
  (final : ∀ (L : Nat -> Bool) vs w', (∀ i, i < k -> L i = true) -> J w' -> (∀ i, i < k -> G L i (vs i) w') ->
   wpList P l.toArray Q (l.drop k) (laid l.toArray vs (qz3q k 0 (Array.replicate l.toArray.size false)) (List.range l.toArray.size) a0) w') :
  (Code.region id l.toArray true).wp P Q a0 w0 := by
 have hdst := qzbw hdst0
 have L := qz97 hL
 have hBack : ∀ i, i < k -> ∀ o, l.toArray[i]? = some o -> ∀ e ∈ o.after, Region.binds .any e = true -> e.on < i := fun i hi o ho => qzc7 hBk i hi o ho
 simp only [qzcq, Bool.and_eq_true, beq_iff_eq] at hT
 obtain ⟨⟨hkm, hw⟩, hseq⟩ := hT
 have hsl : l.toArray.size = l.length := by simp
 have hkl : k <= l.length := by omega
 refine wp_region_any hm ?_
 have key : ∀ (c : Nat) (listed : Array Bool) (vs : Nat -> Value) (w : World), qz5i listed <= c + (l.length - k) -> listed.size = l.toArray.size -> qz4t .any l.toArray listed -> (∀ j, k <= j -> listed.getD j false = false) -> J w ->
   (∀ i, i < l.toArray.size -> listed.getD i false = true -> G (fun j => listed.getD j false) i (vs i) w) ->
   wpAny P .any l.toArray Q (c + (l.length - k)) listed (laid l.toArray vs listed (List.range l.toArray.size) a0) w := by
  intro c
  induction c with
  | zero =>
   intro listed vs w hf hs hc htail hb hG
   by_cases hall : ∀ i, i < k -> listed.getD i false = true
   ·have he : listed = qz3q k 0 (Array.replicate l.toArray.size false) := by
     apply Array.ext
     ·rw [qz2r, hs]; simp
     ·intro i h1 h2
      have g := qz39 k 0 (Array.replicate l.toArray.size false) i (by simp; omega)
      have g1 : (qz3q k 0 (Array.replicate l.toArray.size false))[i] = (qz3q k 0 (Array.replicate l.toArray.size false)).getD i false := qz4d _ _ h2
      have g2 : listed[i] = listed.getD i false := by simp [h1]
      rw [g1, g2, g]
      by_cases c : i < k
      ·rw [if_pos (by omega), hall i c]
      ·have hio : i < l.length := by omega
       rw [if_neg (by omega), htail i (by omega)]
       simp [hio]
    have hfin := final (fun j => listed.getD j false) vs w hall hb (fun i hi => hG i (by omega) (hall i hi))
    rw [<- he] at hfin
    have := qz29 (P := P) (md := .any) (Q := Q) 0 (l.drop k) k listed _ w (fun j => by simp) (by rw [he]; simpa using hseq) hfin
    simpa using this
   ·exfalso
    simp only [Classical.not_forall] at hall
    obtain ⟨i, hi, hu⟩ := hall
    have := qz4p (m := l.length - k) (by omega) htail hi (by simpa using hu)
    omega
  | succ c ih =>
   intro listed vs w hf hs hc htail hb hG
   by_cases hall : ∀ i, i < k -> listed.getD i false = true
   ·have he : listed = qz3q k 0 (Array.replicate l.toArray.size false) := by
     apply Array.ext
     ·rw [qz2r, hs]; simp
     ·intro i h1 h2
      have g := qz39 k 0 (Array.replicate l.toArray.size false) i (by simp; omega)
      have g1 : (qz3q k 0 (Array.replicate l.toArray.size false))[i] = (qz3q k 0 (Array.replicate l.toArray.size false)).getD i false := qz4d _ _ h2
      have g2 : listed[i] = listed.getD i false := by simp [h1]
      rw [g1, g2, g]
      by_cases c : i < k
      ·rw [if_pos (by omega), hall i c]
      ·have hio : i < l.length := by omega
       rw [if_neg (by omega), htail i (by omega)]
       simp [hio]
    have hfin := final (fun j => listed.getD j false) vs w hall hb (fun i hi => hG i (by omega) (hall i hi))
    rw [<- he] at hfin
    have := qz29 (P := P) (md := .any) (Q := Q) (c + 1) (l.drop k) k listed _ w (fun j => by simp) (by rw [he]; simpa using hseq) hfin
    rw [show c + 1 + (l.length - k) = (l.drop k).length + (c + 1) by simp; omega]
    exact this
   simp only [Classical.not_forall] at hall
   obtain ⟨i1, hi1, hu1⟩ := hall
   have hu1' : listed.getD i1 false = false := by simpa using hu1
   have hu1'' : listed.getD i1 true = false := by
    have : i1 < listed.size := by omega
    simpa [this] using hu1'
   have hex : ∃ i, i < k /\ i ∈ Region.ready .any l.toArray listed := by
    apply Classical.byContradiction
    intro hno
    have : ∀ n i, i < n -> i < k -> listed.getD i false = true := by
     intro n
     induction n with
     | zero => intro i hi; omega
     | succ n ihn =>
      intro i hi hik
      rcases Nat.lt_or_ge i n with h | h
      ·exact ihn i h hik
      ·have hin : i = n := by omega
       subst hin
       cases hq : listed.getD i false with
       | true => rfl
       | false =>
        exfalso
        apply hno
        refine ⟨i, hik, mem_ready.2 ⟨?_, ?_⟩⟩
        ·have : i < listed.size := by omega
         simpa [this] using hq
        ·have hil : i < l.toArray.size := by omega
         refine ⟨l.toArray[i], by simp, fun e he hbd => ?_⟩
         exact ihn e.on (hBack i hik _ (by simp) e he hbd) (Nat.lt_trans (hBack i hik _ (by simp) e he hbd) hik)
    have h9 := this (i1 + 1) i1 (by omega) hi1
    rw [hu1'] at h9
    cases h9
   rw [show c + 1 + (l.length - k) = (c + (l.length - k)) + 1 by omega]
   obtain ⟨i0, hi0, hr0⟩ := hex
   refine ⟨fun h0 => (by rw [h0] at hr0; cases hr0), ?_⟩
   intro i hi
   have hik := qz3m hw hc hi1 hu1'' hi
   obtain ⟨h0, o, ho, hall⟩ := mem_ready.1 hi
   have hi' : i < l.toArray.size := (Array.getElem?_eq_some_iff.1 ho).1
   have hlt : i < listed.size := by omega
   have h1 : listed.getD i false = false := by simpa [hlt] using h0
   have ho' : l[i]? = some o := by simpa using ho
   have hguard : o.guard = none := by
    have := (List.all_eq_true.1 hg) o (List.mem_of_getElem? (i := i) (by rw [List.getElem?_take]; simp [hik, ho']))
    simpa using this
   have hnd : (List.range l.toArray.size).Nodup := List.nodup_range
   have hlt' : ∀ e ∈ o.after, Region.binds .any e = true -> ∀ d, qz3p l.toArray e.on = some d -> e.on < l.toArray.size /\ listed.getD e.on false = true /\ (laid l.toArray vs listed (List.range l.toArray.size) a0).eval (.tmp d) = vs e.on := by
    intro e he hbd d hd
    have hel := hall e he hbd
    have hes : e.on < l.toArray.size := by
     rcases Nat.lt_or_ge e.on l.toArray.size with h | h
     ·exact h
     ·simp only [qz3p, Array.getElem?_eq_none h] at hd
      cases hd
    exact ⟨hes, hel, qz5f L vs listed e.on d hd hel _ _ hnd (List.mem_range.2 hes) (hdst _ _ hd)⟩
   have hstep := step i o hik ho' (fun j => listed.getD j false) (laid l.toArray vs listed (List.range l.toArray.size) a0) w h1 (fun j hj => by
     rcases Nat.lt_or_ge j k with h | h
     ·exact h
     ·have := htail j h; rw [this] at hj; cases hj) hb
    (fun t ht => qz3f l.toArray vs listed t _ _ (fun k _ => qz73 ht k))
    (fun e he hbd d hd => by
     obtain ⟨h2, h3, h4⟩ := hlt' e he hbd d hd
     rw [h4]
     exact ⟨h3, hG e.on h2 h3⟩)
   have hwn : Region.wanted o (yielded l.toArray (laid l.toArray vs listed (List.range l.toArray.size) a0).tmps) = true := by simp [Region.wanted, hguard]
   unfold wpOp
   simp only [ho, hwn, if_true]
   refine Or.inl (hstep _ ?_)
   intro v w' hGi hb' hkp
   have hLn : (fun j => (listed.setIfInBounds i true).getD j false) = onAt (fun j => listed.getD j false) i := by
    funext j
    unfold onAt
    by_cases hji : j = i
    ·subst hji
     rw [if_pos rfl]
     simp [hlt]
    ·rw [if_neg hji]
     exact getD_set_ne false (Ne.symm hji)
   have hd' : o.dst = qz3p l.toArray i := by simp only [qz3p, ho, Option.bind_some]
   rw [hd', qz5g L vs listed i v hlt h1 _ _ hnd (List.mem_range.2 hi')]
   refine ih _ _ _ (by have := qz4h hlt h1; omega) (by simpa using hs) (hc.set hi) (fun j hj => by rw [getD_set_ne false (by omega)]; exact htail j hj) hb' ?_
   intro j hj hjl
   rw [hLn]
   by_cases hji : j = i
   ·subst hji
    simp only [upd, if_true]
    exact hGi
   ·rw [getD_set_ne false (Ne.symm hji)] at hjl
    simp only [upd, hji, if_false]
    exact hkp j _ hji hjl (hG j hj hjl)
 have hgf : ∀ i, (Array.replicate l.toArray.size false).getD i false = false := by
  intro i
  rcases Nat.lt_or_ge i l.toArray.size with h | h
  ·simp at h; simp [h]
  ·simp at h; simp [h]
 have h0 : laid l.toArray (fun _ => undef) (Array.replicate l.toArray.size false) (List.range l.toArray.size) a0 = a0 := by
  have : ∀ (q : List Nat) (a : Act), laid l.toArray (fun _ => undef) (Array.replicate l.toArray.size false) q a = a := by
   intro q
   induction q with
   | nil => intro a; rfl
   | cons i q ih =>
    intro a
    simp only [laid]
    rw [hgf i]
    simpa using ih a
  exact this _ _
 have hk := key k (Array.replicate l.toArray.size false) (fun _ => undef) { w0 with drawn := w0.drawn + 1 } (by unfold qz5i; simp; omega) (by simp) (fun j o _ hj => by rw [hgf j] at hj; cases hj) (fun j _ => hgf j) hJ0 (fun i hi h => by rw [hgf i] at h; cases h)
 rw [h0, show k + (l.length - k) = l.toArray.size by simp; omega] at hk
 exact hk
end
end Go.Proofs.Ytclkglkhhnapiaa
