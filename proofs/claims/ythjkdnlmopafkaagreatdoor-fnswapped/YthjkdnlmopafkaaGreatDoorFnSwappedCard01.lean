/-
  What the law's proof goes by, part 2.
-/
import Derived.Deep.RegionWith
import Derived.BigRegion
import Derived.Test.YthjkdnlmopafkaaGreatDoorRows
import Derived.WalkKit
import Derived.ProofKit
import Derived.Below
import Derived.Deep.MidRow
import Derived.Deep.QuietTactic
import Derived.BigQuiet
import Derived.RegionTactic
import Derived.Deep.RegionHeld3
import Derived.Deep.DrawnRows
import Derived.Deep.OwnRows
import Derived.Test.YthjkdnlmopafkaaGreatDoorFnSwappedCard00
namespace Go.Proofs.YthjkdnlmopafkaaGreatDoor
open Go.ChangeShapes Go.WideShapes Go.ChangeAt Go.RowKit
set_option maxRecDepth 100000
set_option maxHeartbeats 16000000
set_option linter.unusedVariables false
set_option linter.unusedSimpArgs false
set_option linter.unnecessarySimpa false
set_option linter.unusedSectionVars false
section
def qzeu (w : World) (b : Nat) (xs : List Int) : Prop := b < Q6o /\ ∀ j, j < xs.length -> w.cell? ⟨b, j, none⟩ = some (.int .i64 (xs.getD j 0))
theorem qz5i (w : World) (xs : List Int) (C : Array Value) (T : TypeId) (h : C = (xs.map (Value.int .i64)).toArray) : qzeu (w.alloc (.cells C T)) Q6o xs := by
 refine ⟨by simp, fun j hj => ?_⟩
 rw [World.cell?_alloc_new, h]
 simp [hj]
theorem qzeu.only {w w' : World} {b c : Nat} {xs : List Int} (h : qzeu w b xs) (hO : Only c w w') (hne : b ≠ c) : qzeu w' b xs :=
 ⟨Q72 h.1 hO.size, fun j hj => (hO.cell (p := ⟨b, j, none⟩) h.1 hne).trans (h.2 j hj)⟩
theorem qz1f.alloc {k : IntKind} {w : World} {b : Nat} {a : Option Addr} {len cap : Nat} {i h : Int} (D : qz1f k w b a len cap i h) (o : Obj) : qz1f k (w.alloc o) b a len cap i h :=
 D.only ((Only.refl Q6o w).alloc o) (by have := D.blk; omega)
theorem qz17.alloc {B : Nat} {w : World} {a : Option Addr} {len : Nat} (h : qz17 B w a len) (hB : B <= Q6o) (o : Obj) : qz17 B (w.alloc o) a len :=
 h.below ((Q6s _ _).alloc hB o)
theorem qz17.weaken {B B' : Nat} {w : World} {a : Option Addr} {len : Nat} (h : qz17 B w a len) (hB : B <= B') : qz17 B' w a len := by
 intro j hj
 obtain ⟨bb, off, v, h1, h2, h3⟩ := h j hj
 exact ⟨bb, off, v, h1, by omega, h3⟩
theorem qzey (B b : Nat) (a : Option Addr) (len cap : Nat) (i h : Int) (w : World) (hB : B <= b) (hlen : len <= 4096) (D : qz1f .i64 w b a len cap i h) (C : qz17 B w a len) :
  Calls Tryz.prog 113 Q58 w fun e w' => ∃ r i' h', e = .returned (.int .i64 r) /\ qz1f .i64 w' b a len cap i' h' /\ qz17 B w' a len /\ Only b w w' := by
 have blk := D.blk
 go_enter Tryz.func113, Tryz.ntmps113
 go_wp2_with fail
 refine (qzx B b a len cap i h 10 _ hB hlen (D.alloc _) (C.alloc (by omega) _) (by omega) (by omega)).mono ?_
 rintro e w1 ⟨r, i1, h1, rfl, r0, r1, D1, C1, O1⟩
 have I1 := (qz5i w [-1, 0, 1, 2147483648, -2147483648, 1099511627776, 4611686018427387904, -4611686018427387904, 9223372036854775807, -9223372036854775808] _ 2 rfl).only O1 (by omega)
 obtain ⟨rN, rfl⟩ := Int.eq_ofNat_of_zero_le r0
 obtain ⟨v, hv⟩ : ∃ v, w1.cell? ⟨Q6o, rN, none⟩ = some (.int .i64 v) := ⟨_, I1.2 rN (by simp; omega)⟩
 clear I1
 have r2 : (rN : Int) < 10 := r1
 go_wp2
 go_ret
 exact ⟨v, i1, h1, rfl, D1, C1, ((Only.refl _ _).alloc _).trans O1⟩
theorem qz8i (B b : Nat) (a : Option Addr) (len cap : Nat) (i h m : Int) (w : World) (hB : B <= b) (hlen : len <= 4096) (D : qz1f .i64 w b a len cap i h) (C : qz17 B w a len) (hm1 : 0 <= m) (hm2 : m <= 2000000) :
  Calls Tryz.prog 66 #[.pointer (some ⟨b, 0, none⟩), .int .i64 m] w fun e w' => ∃ r i' h', e = .returned (.int .i64 r) /\ qz1f .i64 w' b a len cap i' h' /\ qz17 B w' a len /\ Only b w w' := by
 go_enter Tryz.func66, Tryz.ntmps66
 go_wp2_with fail
 refine (qz2g B b a len cap i h 10 _ hB hlen D C (by omega) (by omega)).mono ?_
 rintro e w1 ⟨r, i1, h1, rfl, D1, C1, O1⟩
 cases r
 ·go_wp2_with fail
  refine (qz2g B b a len cap i1 h1 2 _ hB hlen D1 C1 (by omega) (by omega)).mono ?_
  rintro e w2 ⟨r, i2, h2, rfl, D2, C2, O2⟩
  cases r
  ·go_wp2_with fail
   refine (qzx B b a len cap i2 h2 _ _ hB hlen D2 C2 (by omega) (by omega)).mono ?_
   rintro e w3 ⟨r, i3, h3, rfl, r0, r1, D3, C3, O3⟩
   go_wp2
   go_ret
   exact ⟨_, i3, h3, rfl, D3, C3, (O1.trans O2).trans O3⟩
  ·go_wp2_with fail
   refine (qzbl _ _ _).mono ?_
   rintro e w3 ⟨rfl, rfl⟩
   have hq : 0 <= min m 4 /\ min m 4 <= 4 := by omega
   generalize min m 4 = q at *
   obtain ⟨q0, q1⟩ := hq
   go_wp2_with fail
   refine (qzx B b a len cap i2 h2 _ _ hB hlen D2 C2 (by omega) (by omega)).mono ?_
   rintro e w3 ⟨r, i3, h3, rfl, r0, r1, D3, C3, O3⟩
   go_wp2
   go_ret
   exact ⟨_, i3, h3, rfl, D3, C3, (O1.trans O2).trans O3⟩
 ·go_wp2_with fail
  refine (qzey B b a len cap i1 h1 _ hB hlen D1 C1).mono ?_
  rintro e w2 ⟨z, i2, h2, rfl, D2, C2, O2⟩
  go_wp2_with fail
  refine (qzx B b a len cap i2 h2 4 _ hB hlen (D2.alloc _) (C2.alloc (by have := D2.blk; omega) _) (by omega) (by omega)).mono ?_
  rintro e w3 ⟨r, i3, h3, rfl, r0, r1, D3, C3, O3⟩
  have I3 := (qz5i w2 [-1, m, m + 1, z] _ 2 rfl).only O3 (by have := D2.blk; omega)
  obtain ⟨rN, rfl⟩ := Int.eq_ofNat_of_zero_le r0
  obtain ⟨v, hv⟩ : ∃ v, w3.cell? ⟨Q78, rN, none⟩ = some (.int .i64 v) := ⟨_, I3.2 rN (by simp; omega)⟩
  clear I3
  go_wp2
  go_ret
  exact ⟨v, i3, h3, rfl, D3, C3, (O1.trans O2).trans (((Only.refl _ _).alloc _).trans O3)⟩
structure qz6q (w : World) (b : Nat) (x y z u : Int) : Prop where
 c0 : w.cell? ⟨b, 0, none⟩ = some (.int .i64 x)
 c1 : w.cell? ⟨b, 1, none⟩ = some (.int .i64 y)
 c2 : w.cell? ⟨b, 2, none⟩ = some (.int .i64 z)
 c3 : w.cell? ⟨b, 3, none⟩ = some (.int .i64 u)
 f0 : w.frozen? ⟨b, 0, none⟩ = false
 f1 : w.frozen? ⟨b, 1, none⟩ = false
 f2 : w.frozen? ⟨b, 2, none⟩ = false
 f3 : w.frozen? ⟨b, 3, none⟩ = false
 blk : b < Q6o
theorem qz65 (w : World) (x y z u : Int) (T : TypeId) : qz6q (w.alloc (.cells Q06 T)) Q6o x y z u := by
 refine ⟨?_, ?_, ?_, ?_, ?_, ?_, ?_, ?_, by simp⟩ <;> simp
theorem qz6q.only {w w' : World} {b c : Nat} {x y z u : Int} (P : qz6q w b x y z u) (hO : Only c w w') (hne : b ≠ c) : qz6q w' b x y z u :=
 ⟨(hO.cell (p := ⟨b, 0, none⟩) P.blk hne).trans P.c0, (hO.cell (p := ⟨b, 1, none⟩) P.blk hne).trans P.c1, (hO.cell (p := ⟨b, 2, none⟩) P.blk hne).trans P.c2, (hO.cell (p := ⟨b, 3, none⟩) P.blk hne).trans P.c3,
  (hO.frozen (p := ⟨b, 0, none⟩) P.blk hne).trans P.f0, (hO.frozen (p := ⟨b, 1, none⟩) P.blk hne).trans P.f1, (hO.frozen (p := ⟨b, 2, none⟩) P.blk hne).trans P.f2, (hO.frozen (p := ⟨b, 3, none⟩) P.blk hne).trans P.f3, Q72 P.blk hO.size⟩
theorem qz6q.alloc {w : World} {b : Nat} {x y z u : Int} (P : qz6q w b x y z u) (o : Obj) : qz6q (w.alloc o) b x y z u :=
 P.only ((Only.refl Q6o w).alloc o) (by have := P.blk; omega)
theorem qz6e (w : World) (c : Nat) (x y z u : Int) : Only c w ((((w.setCell ⟨c, 0, none⟩ (.int .i64 x)).setCell ⟨c, 1, none⟩ (.int .i64 y)).setCell ⟨c, 2, none⟩ (.int .i64 z)).setCell ⟨c, 3, none⟩ (.int .i64 u)) :=
 ((((Only.refl c w).setCell (Or.inl rfl) _).setCell (Or.inl rfl) _).setCell (Or.inl rfl) _).setCell (Or.inl rfl) _
theorem Only.set4 {b c : Nat} {x w : World} (h : Only b x w) (hc : x.heap.size <= c) (p q r s : Int) : Only b x ((((w.setCell ⟨c, 0, none⟩ (.int .i64 p)).setCell ⟨c, 1, none⟩ (.int .i64 q)).setCell ⟨c, 2, none⟩ (.int .i64 r)).setCell ⟨c, 3, none⟩ (.int .i64 s)) :=
 (((h.setCell (Or.inr hc) _).setCell (Or.inr hc) _).setCell (Or.inr hc) _).setCell (Or.inr hc) _
theorem qz9y (B b : Nat) (a : Option Addr) (len cap : Nat) (i h : Int) (w : World) (hB : B <= b) (hlen : len <= 4096) (D : qz1f .i64 w b a len cap i h) (C : qz17 B w a len) :
  Calls Tryz.prog 139 Q58 w fun e w' => ∃ x y z u i' h', qz3w x y z u = true /\ e = .returned (.agg Q06) /\ qz1f .i64 w' b a len cap i' h' /\ qz17 B w' a len /\ Only b w w' := by
 have blk := D.blk
 go_enter Tryz.func139, Tryz.ntmps139
 go_wp2_with fail
 have R0 := qz65 w 0 0 0 0 25
 refine (qzx B b a len cap i h 4 _ hB hlen (D.alloc _) (C.alloc (by omega) _) (by omega) (by omega)).mono ?_
 rintro e w1 ⟨r1, i1, h1, rfl, r10, r11, D1, C1, O1⟩
 have R1 := R0.only O1 (by omega)
 go_wp2_with fail
 refine (qzx B b a len cap i1 h1 12 _ hB hlen D1 C1 (by omega) (by omega)).mono ?_
 rintro e w2 ⟨r2, i2, h2, rfl, r20, r21, D2, C2, O2⟩
 have R2 := R1.only O2 (by omega)
 go_wp2_with fail
 refine (qzx B b a len cap i2 h2 60 _ hB hlen D2 C2 (by omega) (by omega)).mono ?_
 rintro e w3 ⟨r3, i3, h3, rfl, r30, r31, D3, C3, O3⟩
 have R3 := R2.only O3 (by omega)
 go_wp2_with fail
 refine (qzx B b a len cap i3 h3 4 _ hB hlen D3 C3 (by omega) (by omega)).mono ?_
 rintro e w4 ⟨r4, i4, h4, rfl, r40, r41, D4, C4, O4⟩
 have R4 := R3.only O4 (by omega)
 have b4 := D4.blk
 have O04 := ((((Only.refl b w).alloc (Obj.cells Q3t 25)).trans O1).trans O2).trans (O3.trans O4)
 clear R0 R1 R2 R3 D1 D2 D3 C1 C2 C3 O1 O2 O3 O4
 go_wp2_with fail
 have P5 := qz65 w4 (1 + r1) (2 + r2) (10 + r3) (1 + r4) 25
 refine (qz2g B b a len cap i4 h4 8 _ hB hlen (D4.alloc _) (C4.alloc (by omega) _) (by omega) (by omega)).mono ?_
 rintro e w5 ⟨r5, i5, h5, rfl, D5, C5, O5⟩
 have P6 := P5.only O5 (by omega)
 have R5 := (R4.alloc _).only O5 (by omega)
 have O05 := (O04.alloc _).trans O5
 have hz4 := R4.blk
 have hz5 := P6.blk
 clear P5 R4 O5 D4 C4 O04
 cases r5
 ·obtain ⟨c0, c1, c2, c3, _, _, _, _, _⟩ := P6
  obtain ⟨k0, k1, k2, k3, f0, f1, f2, f3, _⟩ := R5
  go_wp2
  exact bodyPost_ret (v := .agg #[.int .i64 (1 + r1), .int .i64 (2 + r2), .int .i64 (10 + r3), .int .i64 (1 + r4)]) (by simp [results, Tryz.results139, go_sem, k0, k1, k2, k3]) rfl ⟨_, _, _, _, i5, h5, (qz2n _ _ _ _).2 (by omega), rfl, D5.only (qz6e _ _ _ _ _ _) (by omega), C5.below ((qz6e _ _ _ _ _ _).below (by omega) (by omega)), O05.set4 (by omega) _ _ _ _⟩
 ·go_wp2_with fail
  refine (qzx B b a len cap i5 h5 12 _ hB hlen D5 C5 (by omega) (by omega)).mono ?_
  rintro e w6 ⟨r6, i6, h6, rfl, r60, r61, D6, C6, O6⟩
  have P7 := P6.only O6 (by omega)
  have R6 := R5.only O6 (by omega)
  have O06 := O05.trans O6
  have hz6 := O6.size
  clear P6 R5 D5 C5 O6
  obtain ⟨c0, c1, c2, c3, _, _, g2, _, _⟩ := P7
  obtain ⟨k0, k1, k2, k3, f0, f1, f2, f3, _⟩ := R6
  go_wp2
  exact bodyPost_ret (v := .agg #[.int .i64 (1 + r1), .int .i64 (2 + r2), .int .i64 (1 + r6), .int .i64 (1 + r4)]) (by simp [results, Tryz.results139, go_sem, k0, k1, k2, k3]) rfl ⟨_, _, _, _, i6, h6, (qz2n _ _ _ _).2 (by omega), rfl, (D6.only ((Only.refl w4.heap.size w6).setCell (Or.inl rfl) _) (by omega)).only (qz6e _ _ _ _ _ _) (by omega), (C6.below ((Q6s _ _).setCell (by simp; omega) _)).below ((qz6e _ _ _ _ _ _).below (by omega) (by simp; omega)), (O06.setCell (Or.inr (by simp; omega)) _).set4 (by omega) _ _ _ _⟩
end
section
open Go.RowKit
theorem qzg (w : World) (C : Array Value) (T : TypeId) (n : Nat) (h : n <= C.size) : (w.alloc (.cells C T)).there Q6o 0 n := by
 intro j hj
 rw [Nat.zero_add, World.cell?_alloc_new]
 refine ⟨?_, by simp⟩
 rw [Array.getElem?_eq_getElem (by omega)]
 rfl
theorem qz6 (w : World) (cs : List Value) (T : TypeId) : (w.alloc (.cells cs.toArray T)).rangeAt Q6o 0 cs := by
 intro j v hv
 rw [Nat.zero_add, World.cell?_alloc_new]
 simpa using hv
theorem qz0 {w w' : World} {B b o : Nat} {cs : List Value} (h : w.rangeAt b o cs) (hb : Below B w w') (hB : b < B) : w'.rangeAt b o cs :=
 fun j v hv => (hb.cell (p := ⟨b, o + j, none⟩) hB).trans (h j v hv)
theorem qz5 {w w' : World} {B b o n : Nat} (h : w.there b o n) (hb : Below B w w') (hB : b < B) : w'.there b o n :=
 fun j hj => by rw [hb.cell (p := ⟨b, o + j, none⟩) hB, hb.frozen (p := ⟨b, o + j, none⟩) hB]; exact h j hj
theorem qzp (b : Nat) : ∀ (vs : List Value) (o : Nat) (w : World), (w.setCells b o vs).heap.size = Q6o
 | [], _, _ => rfl
 | v :: vs, o, w => by
  show ((w.setCell ⟨b, o, none⟩ v).setCells b (o + 1) vs).heap.size = _
  rw [qzp b vs (o + 1), World.size_setCell]
theorem Below.setCells {B b : Nat} {a : World} (hB : B <= b) : ∀ (vs : List Value) (o : Nat) (w : World), Below B a w -> Below B a (w.setCells b o vs)
 | [], _, _, h => h
 | v :: vs, o, w, h => Below.setCells hB vs (o + 1) (w.setCell ⟨b, o, none⟩ v) (h.setCell hB v)
theorem qz2 {w : World} {b o n : Nat} (h : w.there b o n) (a : Addr) (v : Value) : (w.setCell a v).there b o n := by
 intro j hj
 refine ⟨?_, (World.frozen?_setCell _ _ _ _).trans (h j hj).2⟩
 by_cases e : a = ⟨b, o + j, none⟩
 ·subst e
  obtain ⟨u, hu⟩ := Option.isSome_iff_exists.1 (h j hj).1
  rw [World.cell?_setCell_same _ _ _ hu]
  rfl
 ·rw [World.cell?_setCell_other _ _ _ _ e]
  exact (h j hj).1
theorem qz3 {P : Program} {fn : Func} {p : Tmp} {ty : TypeId} (h : fn.results = #[.cell p ty]) (tmps : Array Value) (w : World) (b o : Nat) (hp : tmps.getD p undef = .pointer (some ⟨b, o, none⟩))
  (cs : List Value) (d : TypeDesc) (hc : w.rangeAt b o cs) (hu : P.underlying ty = some d) (hd : d.isRow = true) (hi : (P.info? ty).map (·.size) = some cs.length) : (results fn tmps).run P w = .ok (.agg cs.toArray) w := by
 have hl := run_loadVar_mid (P := P) w b o ty cs d hc hu hd hi
 rw [Array.getD_eq_getD_getElem?] at hp
 simp [results, h, hp, asAddr, hl]
theorem qzl {P : Program} {fn : Func} {p q : Tmp} {ty : TypeId} (h : fn.results = #[.cell p ty, .tmp q]) (tmps : Array Value) (w : World) (b o : Nat) (hp : tmps.getD p undef = .pointer (some ⟨b, o, none⟩))
  (cs : List Value) (d : TypeDesc) (hc : w.rangeAt b o cs) (hu : P.underlying ty = some d) (hd : d.isRow = true) (hi : (P.info? ty).map (·.size) = some cs.length) : (results fn tmps).run P w = .ok (.tuple #[.agg cs.toArray, tmps.getD q undef]) w := by
 have hl := run_loadVar_mid (P := P) w b o ty cs d hc hu hd hi
 rw [Array.getD_eq_getD_getElem?] at hp
 simp [results, h, hp, asAddr, Result.andThen, hl]
end
section
attribute [local go_sem ↓] Go.wp_at_zero Go.wp_at_succ
structure Nd where
 key : Int
 value : Int
 head : Int
structure Vr where
 next : Int
 gone : Bool
 stamp : Int
 prev : Int
 kind : Int
structure Ar where
 camera : Int
 slots : List Int
 guides : List Int
 nodes : List Nd
 vers : List Vr
def intC (n : Int) : List Value := [.int .i64 n]
def ndC (x : Nd) : List Value := [.int .i64 x.key, .int .i64 x.value, .int .i64 x.head]
def vrC (x : Vr) : List Value := [.int .i64 x.next, .bool x.gone, .int .i64 x.stamp, .int .i64 x.prev, .int .i64 x.kind]
def qz8 {α : Type} (f : α -> List Value) (l : List α) : List Value := l.flatMap f
theorem qzz {α : Type} {f : α -> List Value} {sz : Nat} (hf : ∀ x, (f x).length = sz) (l : List α) : (qz8 f l).length = l.length * sz := by
 induction l with
 | nil => simp [qz8]
 | cons x l ih => simp only [qz8, List.flatMap_cons, List.length_append, List.length_cons] at ih ⊢; rw [ih, hf, Nat.add_mul]; omega
theorem qz1p {α : Type} (f : α -> List Value) (l : List α) (x : α) : qz8 f (l ++ [x]) = qz8 f l ++ f x := by simp [qz8]
theorem qzy {α : Type} {f : α -> List Value} {sz : Nat} (hf : ∀ x, (f x).length = sz) : ∀ (l : List α) (i : Nat) (hi : i < l.length) (j : Nat), j < sz -> (qz8 f l)[i * sz + j]? = (f l[i])[j]?
 | x :: l, 0, _, j, hj => by
  simp only [qz8, List.flatMap_cons, Nat.zero_mul, Nat.zero_add, List.getElem_cons_zero]
  rw [List.getElem?_append_left (by rw [hf]; exact hj)]
 | x :: l, i + 1, hi, j, hj => by
  have ih := qzy hf l i (by simpa using hi) j hj
  simp only [qz8, List.flatMap_cons, List.getElem_cons_succ] at ih ⊢
  rw [List.getElem?_append_right (by rw [hf, Nat.add_mul]; omega), hf, <- ih]
  congr 1
  rw [Nat.add_mul]
  omega
def qzu (B : Nat) (w : World) (v : Value) (len : Nat) (cs : List Value) : Prop :=
 ∃ a cap, v = .slice a len cap /\ (len = 0 ∨ ∃ bb off, a = some ⟨bb, off, none⟩ /\ bb < B /\ w.rangeAt bb off cs)
theorem qzu.below {B : Nat} {w w' : World} {v : Value} {len : Nat} {cs : List Value} (h : qzu B w v len cs) (hb : Below B w w') : qzu B w' v len cs := by
 obtain ⟨a, cap, rfl, h⟩ := h
 refine ⟨a, cap, rfl, ?_⟩
 rcases h with h | ⟨bb, off, rfl, h1, h2⟩
 ·exact Or.inl h
 ·exact Or.inr ⟨bb, off, rfl, h1, qz0 h2 hb h1⟩
theorem qzu.weaken {B B' : Nat} {w : World} {v : Value} {len : Nat} {cs : List Value} (h : qzu B w v len cs) (hB : B <= B') : qzu B' w v len cs := by
 obtain ⟨a, cap, rfl, h⟩ := h
 refine ⟨a, cap, rfl, ?_⟩
 rcases h with h | ⟨bb, off, rfl, h1, h2⟩
 ·exact Or.inl h
 ·exact Or.inr ⟨bb, off, rfl, by omega, h2⟩
theorem qz6t {w : World} {b o : Nat} {cs : List Value} (R : w.rangeAt b o cs) (h : (w.cell? ⟨b, o + cs.length, none⟩).isSome = true) (v : Value) : (w.setCell ⟨b, o + cs.length, none⟩ v).rangeAt b o (cs ++ [v]) := by
 intro j u hj
 by_cases e : j = cs.length
 ·subst e
  simp at hj
  subst hj
  obtain ⟨x, hx⟩ := Option.isSome_iff_exists.1 h
  exact World.cell?_setCell_same _ _ _ hx
 ·have hlt : j < cs.length := by
   rcases Nat.lt_or_ge j (cs ++ [v]).length with hl | hl
   ·simp at hl; omega
   ·rw [List.getElem?_eq_none hl] at hj; cases hj
  have hne : (⟨b, o + cs.length, none⟩ : Addr) ≠ ⟨b, o + j, none⟩ := by
   intro h'
   have := congrArg Addr.off h'
   simp at this
   omega
  refine (World.cell?_setCell_other _ _ _ _ hne).trans (R j u ?_)
  rw [List.getElem?_append_left hlt] at hj
  exact hj
theorem qzi {α : Type} {f : α -> List Value} {sz : Nat} (hf : ∀ x, (f x).length = sz) {w : World} {b o : Nat} {l : List α} (R : w.rangeAt b o (qz8 f l)) (i : Nat) (hi : i < l.length) : w.rangeAt b (o + i * sz) (f l[i]) := by
 intro j v hj
 have hlt : j < sz := by
  rcases Nat.lt_or_ge j (f l[i]).length with h | h
  ·rw [hf] at h; exact h
  ·rw [List.getElem?_eq_none h] at hj; cases hj
 have := R (i * sz + j) v (by rw [qzy hf l i hi j hlt]; exact hj)
 rw [Nat.add_assoc]
 exact this
theorem qz6k {w : World} {b o : Nat} {cs vs : List Value} (R : w.rangeAt b o cs) (T : w.there b (o + cs.length) vs.length) : (w.setCells b (o + cs.length) vs).rangeAt b o (cs ++ vs) := by
 have h1 := Q7d R b (o + cs.length) vs (Or.inr (Or.inl (Q6v _)))
 have h2 := Q6u w b (o + cs.length) vs T
 intro j v hj
 rcases Nat.lt_or_ge j cs.length with h | h
 ·rw [List.getElem?_append_left h] at hj
  exact h1 j v hj
 ·rw [List.getElem?_append_right h] at hj
  have := h2 (j - cs.length) v hj
  rw [show o + cs.length + (j - cs.length) = o + j by omega] at this
  exact this
theorem qz1d {w : World} {b o n : Nat} (T : w.there b o n) (k m : Nat) (h : k + m <= n) : w.there b (o + k) m := by
 intro j hj
 have := T (k + j) (by omega)
 rw [<- Nat.add_assoc] at this
 exact this
theorem qzi3 : (Tryz.prog.info? 2).map (fun i => (i.zero, i.size, i.bytes)) = some (some (.int .i64 0), 1, 8) := by kernel_rfl
theorem qz6u : (Tryz.prog.info? 42).map (fun i => (i.zero, i.size, i.bytes)) = some (some (.agg Q4a), 3, 24) := by kernel_rfl
theorem qzfs (x : Nd) : (Tryz.prog.info? 42).map (fun i => i.size) = some (ndC x).toArray.size := by
 show _ = some 3
 kernel_rfl
theorem qzbk (x : Nd) : (Tryz.prog.info? 42).map (fun i => i.size) = some (ndC x).length := by
 show _ = some 3
 kernel_rfl
theorem qz9i : (Tryz.prog.info? 40).map (fun i => (i.zero, i.size, i.bytes)) = some (some (.agg Q1p), 5, 40) := by kernel_rfl
theorem qzfe (x : Vr) : (Tryz.prog.info? 40).map (fun i => i.size) = some (vrC x).toArray.size := by
 show _ = some 5
 kernel_rfl
theorem qzah (x : Vr) : (Tryz.prog.info? 40).map (fun i => i.size) = some (vrC x).length := by
 show _ = some 5
 kernel_rfl
structure qz1j (B : Nat) (w : World) (s g n r : Value) (A : Ar) : Prop where
 s : qzu B w s Q74 (qz8 intC A.slots)
 g : qzu B w g Q75 (qz8 intC A.guides)
 n : qzu B w n Q6q (qz8 ndC A.nodes)
 r : qzu B w r Q6r (qz8 vrC A.vers)
def Ar.size (A : Ar) : Nat := Q74 + Q75 + Q6q + Q6r
theorem qz1j.below {B : Nat} {w w' : World} {s g n r : Value} {A : Ar} (I : qz1j B w s g n r A) (hb : Below B w w') : qz1j B w' s g n r A :=
 ⟨I.s.below hb, I.g.below hb, I.n.below hb, I.r.below hb⟩
theorem qz1j.weaken {B B' : Nat} {w : World} {s g n r : Value} {A : Ar} (I : qz1j B w s g n r A) (hB : B <= B') : qz1j B' w s g n r A :=
 ⟨I.s.weaken hB, I.g.weaken hB, I.n.weaken hB, I.r.weaken hB⟩
theorem qzb {w : World} {b : Nat} {cs : List Value} (R : w.rangeAt b 0 cs) (k : Nat) (hk : k < cs.length) (v : Value) : (w.setCell ⟨b, k, none⟩ v).rangeAt b 0 (cs.set k v) := by
 intro j u hj
 rw [Nat.zero_add]
 by_cases e : k = j
 ·subst e
  rw [List.getElem?_set_self hk] at hj
  cases hj
  have := R k cs[k] (List.getElem?_eq_getElem hk)
  rw [Nat.zero_add] at this
  exact World.cell?_setCell_same _ _ _ this
 ·rw [List.getElem?_set_ne e] at hj
  have := R j u hj
  rw [Nat.zero_add] at this
  exact (World.cell?_setCell_other _ _ _ _ (by simp)).trans this
theorem qz3p {w : World} {b o : Nat} {cs : List Value} (R : w.rangeAt b o cs) {a : Addr} (h : a.block ≠ b) (v : Value) : (w.setCell a v).rangeAt b o cs := by
 intro j u hj
 refine (World.cell?_setCell_other _ _ _ _ ?_).trans (R j u hj)
 intro e
 exact h (by rw [e])
theorem row5 {w : World} {b : Nat} {v0 v1 v2 v3 v4 : Value} (R : w.rangeAt b 0 [v0, v1, v2, v3, v4]) : w.cell? ⟨b, 0, none⟩ = some v0 /\ w.cell? ⟨b, 1, none⟩ = some v1 /\ w.cell? ⟨b, 2, none⟩ = some v2 /\ w.cell? ⟨b, 3, none⟩ = some v3 /\ w.cell? ⟨b, 4, none⟩ = some v4 := by
 refine ⟨?_, ?_, ?_, ?_, ?_⟩
 ·simpa using R 0 v0 rfl
 ·simpa using R 1 v1 rfl
 ·simpa using R 2 v2 rfl
 ·simpa using R 3 v3 rfl
 ·simpa using R 4 v4 rfl
end
section
def qz24 (xN uN : Nat) : Ar := ⟨0, List.replicate xN (-1), List.replicate uN 0, [⟨-1, 0, 0⟩], [⟨-1, false, 0, -1, 0⟩]⟩
theorem qzu.of {B : Nat} {w : World} {b len n cap : Nat} {cs : List Value} (hl : n = len) (hb : b < B) (R : w.rangeAt b 0 cs) : qzu B w (.slice (some ⟨b, 0, none⟩) n cap) len cs := by
 subst hl
 exact ⟨_, _, rfl, Or.inr ⟨b, 0, rfl, hb, R⟩⟩
theorem qz42 (n : Nat) (v : Int) : qz8 intC (List.replicate n v) = List.replicate n (.int .i64 v) := by
 induction n with
 | zero => rfl
 | succ n ih => simp only [List.replicate_succ, qz8, List.flatMap_cons] at ih ⊢; rw [ih]; rfl
theorem qze8 {w : World} {base : Nat} {e : TypeId} {g n cap : Nat} {xs : List Value} (h : w.ownsRow base e 1 Q41 n xs) (hn : 0 < n) : g < Q6o /\ w.rangeAt g 0 xs := by
 rcases h.2 with ⟨h0, _⟩ | ⟨g', cap', cur, hv, hg, hh, hnc, _, hs, ht⟩
 ·cases h0
 ·injection hv with hv _ _
  injection hv with hv
  injection hv with hv _ _
  subst hv
  have hlt : g < Q6o := by
   rcases Nat.lt_or_ge g Q6o with hl | hl
   ·exact hl
   ·rw [Array.getElem?_eq_none hl] at hh; cases hh
  refine ⟨hlt, ?_⟩
  have R := World.rangeAt_of_block hh 0 n
  have e1 : (cur.extract 0 (0 + n)).toList = xs := by rw [<- ht]; simp
  rw [e1] at R
  exact R
theorem qzbg : (Tryz.prog.info? 2).map (fun i => (i.zero, i.size, i.bytes)) = some (some (.int .i64 0), 1, 8) := by kernel_rfl
theorem qz1n : (Tryz.prog.info? 30).map (fun i => i.size) = some 5 := by kernel_rfl
theorem qz1g {w : World} {base : Nat} {e : TypeId} {size : Nat} {v : Value} {n : Nat} {xs : List Value} (h : w.ownsRow base e size v n xs) {j : Nat} (hj : v.ownBlock = some j) : base <= j := by
 rcases h.2 with ⟨rfl, _⟩ | ⟨g, cap, cur, rfl, hg, _⟩
 ·simp [Value.ownBlock] at hj
 ·simp [Value.ownBlock] at hj
  omega
theorem qz12 {w : World} {base : Nat} {e : TypeId} {size : Nat} {v : Value} {n : Nat} {xs : List Value} (h : w.ownsRow base e size v n xs) (hn : 0 < n) : ∃ g cap, v = .slice (some ⟨g, 0, none⟩) n cap := by
 rcases h.2 with ⟨rfl, h0⟩ | ⟨g, cap, cur, rfl, _⟩
 ·omega
 ·exact ⟨g, cap, rfl⟩
def qz5n (w1 : World) (uN : Nat) : World :=
 (((w1.alloc (Obj.cells (madeCells #[Value.int IntKind.i64 0] uN) 2)).alloc (Obj.cells #[Value.int IntKind.i64 (-1), Value.int IntKind.i64 0, Value.int IntKind.i64 0] 42)).alloc
  (Obj.cells #[Value.int IntKind.i64 (-1), Value.bool false, Value.int IntKind.i64 0, Value.int IntKind.i64 (-1), Value.int IntKind.i64 0] 40)).alloc
   (Obj.cells #[Value.int IntKind.i64 0, Value.slice none 0 0, Value.slice (some ⟨Q6y, 0, none⟩) uN uN, Value.slice (some ⟨Q6y + 1, 0, none⟩) 1 1, Value.slice (some ⟨Q6y + 1 + 1, 0, none⟩) 1 1] 30)
theorem qzcc (w1 : World) (uN : Nat) : (qz5n w1 uN).heap.size = Q6y + 4 := by simp [qz5n]
theorem qzc9 (w1 : World) (uN : Nat) : (qz5n w1 uN).rangeAt Q6y 0 Q4r /\ (qz5n w1 uN).rangeAt (Q6y + 1) 0 (ndC ⟨-1, 0, 0⟩) /\ (qz5n w1 uN).rangeAt (Q6y + 1 + 1) 0 (vrC ⟨-1, false, 0, -1, 0⟩) := by
 have e : madeCells #[Value.int IntKind.i64 0] uN = (Q4r).toArray := by
  apply Array.toList_inj.1
  rw [toList_madeCells_one, qz42]
 unfold qz5n
 rw [e]
 refine ⟨?_, ?_, ?_⟩
 ·exact Q7b (Q7b (Q7b (qz6 w1 _ _) _) _) _
 ·have h := qz6 (w1.alloc (Obj.cells (Q4r).toArray 2)) (ndC ⟨-1, 0, 0⟩) 42
  simp only [World.size_alloc] at h
  exact Q7b (Q7b h _) _
 ·have h := qz6 ((w1.alloc (Obj.cells (Q4r).toArray 2)).alloc (Obj.cells (ndC ⟨-1, 0, 0⟩).toArray 42)) (vrC ⟨-1, false, 0, -1, 0⟩) 40
  simp only [World.size_alloc] at h
  exact Q7b h _
structure qz6x (w1 : World) (uN : Nat) (wr : World) (k : Nat) (s : Value) : Prop where
 a0 : wr.cell? ⟨Q6y + 1 + 1 + 1, 0, none⟩ = some (.int .i64 0)
 a1 : wr.cell? ⟨Q6y + 1 + 1 + 1, 1, none⟩ = some s
 a2 : wr.cell? ⟨Q6y + 1 + 1 + 1, 2, none⟩ = some (.slice (some ⟨Q6y, 0, none⟩) uN uN)
 a3 : wr.cell? ⟨Q6y + 1 + 1 + 1, 3, none⟩ = some (.slice (some ⟨Q6y + 1, 0, none⟩) 1 1)
 a4 : wr.cell? ⟨Q6y + 1 + 1 + 1, 4, none⟩ = some (.slice (some ⟨Q6y + 1 + 1, 0, none⟩) 1 1)
 f1 : wr.frozen? ⟨Q6y + 1 + 1 + 1, 1, none⟩ = false
 own : wr.ownsRow (Q6y + 4) 2 1 s k (List.replicate k (.int .i64 (-1)))
 bel : Below (Q6y + 3) (qz5n w1 uN) wr
theorem qz6x.blk {w1 : World} {uN : Nat} {wr : World} {k : Nat} {s : Value} (D : qz6x w1 uN wr k s) : Q6y + 4 <= wr.heap.size := by
 have := D.bel.size
 rw [qzcc] at this
 exact this
theorem qza2 (w1 : World) (uN : Nat) : qz6x w1 uN (qz5n w1 uN) 0 (.slice none 0 0) := by
 have h := (qzg (((w1.alloc (Obj.cells (madeCells #[Value.int IntKind.i64 0] uN) 2)).alloc (Obj.cells #[Value.int IntKind.i64 (-1), Value.int IntKind.i64 0, Value.int IntKind.i64 0] 42)).alloc
  (Obj.cells #[Value.int IntKind.i64 (-1), Value.bool false, Value.int IntKind.i64 0, Value.int IntKind.i64 (-1), Value.int IntKind.i64 0] 40))
   #[Value.int IntKind.i64 0, Value.slice none 0 0, Value.slice (some ⟨Q6y, 0, none⟩) uN uN, Value.slice (some ⟨Q6y + 1, 0, none⟩) 1 1, Value.slice (some ⟨Q6y + 1 + 1, 0, none⟩) 1 1] 30 5 (by simp) 1 (by omega)).2
 simp only [World.size_alloc, Nat.zero_add] at h
 refine ⟨?_, ?_, ?_, ?_, ?_, h, World.ownsRow_nil _ _ _ _, Q6s _ _⟩ <;> simp [qz5n, World.cell?_alloc_at]
theorem qz6x.step {w1 : World} {uN : Nat} {wr : World} {k : Nat} {s : Value} (D : qz6x w1 uN wr k s) {o : Obj} {w2 : World} {v' : Value}
  (ho : w2.ownsRow (Q6y + 4) 2 1 v' (k + 1) (List.replicate k (.int .i64 (-1)) ++ [.int .i64 (-1)])) (hg : (wr.alloc o).grownBy w2 s.ownBlock) :
  qz6x w1 uN (w2.setCell ⟨Q6y + 1 + 1 + 1, 1, none⟩ v') (k + 1) v' := by
 have hz := D.blk
 have b2 : Below (Q6y + 4) wr w2 := ((Q6s _ wr).alloc hz o).grown hg (by simp; omega) (fun j e => qz1g D.own e)
 have hc : ∀ j, w2.cell? ⟨Q6y + 1 + 1 + 1, j, none⟩ = wr.cell? ⟨Q6y + 1 + 1 + 1, j, none⟩ := fun j => b2.cell (p := ⟨Q6y + 1 + 1 + 1, j, none⟩) (by simp)
 have hf := b2.frozen (p := ⟨Q6y + 1 + 1 + 1, 1, none⟩) (by simp)
 refine ⟨?_, World.cell?_setCell_same _ _ _ ((hc 1).trans D.a1), ?_, ?_, ?_, (World.frozen?_setCell _ _ _ _).trans (hf.trans D.f1), ?_, ?_⟩
 ·exact (World.cell?_setCell_other _ _ _ _ (by simp)).trans ((hc 0).trans D.a0)
 ·exact (World.cell?_setCell_other _ _ _ _ (by simp)).trans ((hc 2).trans D.a2)
 ·exact (World.cell?_setCell_other _ _ _ _ (by simp)).trans ((hc 3).trans D.a3)
 ·exact (World.cell?_setCell_other _ _ _ _ (by simp)).trans ((hc 4).trans D.a4)
 ·rw [List.replicate_succ']
  exact ownsRow_setCell_below ho (by simp) _
 ·exact (D.bel.trans (b2.mono (by omega))).setCell (by simp) _
end
section
def qz3j : List Value := [.int .i64 0, .int .i64 0, .int .i64 0, .int .i64 (-1), .int .i64 0, .int .i64 0, .int .i64 0, .int .i64 0, .int .i64 0, .int .i64 (-1), .int .i64 0, .int .i64 0, .int .i64 0, .int .i64 0, .int .i64 0, .int .i64 0, .int .i64 (-1), .int .i64 0, .int .i64 (-1), .int .i64 0, .int .i64 0, .int .i64 0]
theorem qzfo : (Tryz.prog.info? 56).map (fun i => i.size) = some qz3j.toArray.size := by kernel_rfl
theorem qzf2 : (Tryz.prog.info? 56).map (fun i => i.size) = some qz3j.length := by kernel_rfl
theorem qzgd : qz3j.toArray.all (·.oneCell') = true := by kernel_rfl
theorem qzbr (w : World) (C : Array Value) (T : TypeId) (h : C.size = 22) : (w.alloc (.cells C T)).there Q6o 0 qz3j.toArray.size := qzg w C T _ (by rw [h]; decide)
theorem qz57 (w : World) : Calls Tryz.prog 125 #[] w fun e w' => e = .returned (.agg qz3j.toArray) /\ Below Q6o w w' := by
 go_enter Tryz.func125, Tryz.ntmps125
 go_wp2_with (refine Q6t rfl 56 (.tmp 0) (.tmp 1) rfl Q6o 0 _ rfl rfl ?ht ?hi ?h1 ?_)
 case ht => exact qzbr _ _ _ rfl
 case hi => exact qzfo
 case h1 => exact qzgd
 refine bodyPost_ret (v := .agg qz3j.toArray) ?_ rfl ⟨rfl, ?_⟩
 ·exact qz3 Tryz.results125 _ _ Q6o 0 rfl qz3j _ (Q6u _ _ _ _ (qzbr _ _ _ rfl)) Q6x rfl qzf2
 ·exact Below.setCells (Q6v _) _ _ _ ((Q6s _ _).alloc (Q6v _) _)
end
end Go.Proofs.YthjkdnlmopafkaaGreatDoor
