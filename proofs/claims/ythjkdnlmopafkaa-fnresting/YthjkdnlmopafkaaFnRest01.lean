/-
  What the law's proof goes by, part 2.
-/
import Derived.Deep.RegionWith
import Derived.BigRegion
import Derived.Test.YthjkdnlmopafkaaRows
import Derived.WalkKit
import Derived.ProofKit
import Derived.Below
import Derived.Deep.MidRow
import Derived.Deep.QuietTactic
import Derived.BigQuiet
import Derived.RegionTactic
import Derived.Deep.RegionHeld3
import Derived.Deep.DrawnRows
import Derived.Deep.OwnRows
import Derived.Test.YthjkdnlmopafkaaFnRest00
namespace Go.Proofs.Ythjkdnlmopafkaa
open Go.ChangeShapes Go.WideShapes Go.ChangeAt Go.RowKit
set_option maxRecDepth 100000
set_option maxHeartbeats 16000000
set_option linter.unusedVariables false
set_option linter.unusedSimpArgs false
set_option linter.unnecessarySimpa false
set_option linter.unusedSectionVars false
section
def qzbb (w : World) (b : Nat) (xs : List Int) : Prop := b < w.heap.size /\ ∀ j, j < xs.length -> w.cell? ⟨b, j, none⟩ = some (.int .i64 (xs.getD j 0))
theorem qz4p (w : World) (xs : List Int) (C : Array Value) (T : TypeId) (h : C = (xs.map (Value.int .i64)).toArray) : qzbb (w.alloc (.cells C T)) w.heap.size xs := by
 refine ⟨by simp, fun j hj => ?_⟩
 rw [World.cell?_alloc_new, h]
 simp [hj]
theorem qzbb.only {w w' : World} {b c : Nat} {xs : List Int} (h : qzbb w b xs) (hO : Only c w w') (hne : b ≠ c) : qzbb w' b xs :=
 ⟨Nat.lt_of_lt_of_le h.1 hO.size, fun j hj => (hO.cell (p := ⟨b, j, none⟩) h.1 hne).trans (h.2 j hj)⟩
theorem qz1o.alloc {k : IntKind} {w : World} {b : Nat} {a : Option Addr} {len cap : Nat} {i h : Int} (D : qz1o k w b a len cap i h) (o : Obj) : qz1o k (w.alloc o) b a len cap i h :=
 D.only ((Only.refl w.heap.size w).alloc o) (by have := D.blk; omega)
theorem qz1h.alloc {B : Nat} {w : World} {a : Option Addr} {len : Nat} (h : qz1h B w a len) (hB : B <= w.heap.size) (o : Obj) : qz1h B (w.alloc o) a len :=
 h.below ((Below.refl _ _).alloc hB o)
theorem qz1h.weaken {B B' : Nat} {w : World} {a : Option Addr} {len : Nat} (h : qz1h B w a len) (hB : B <= B') : qz1h B' w a len := by
 intro j hj
 obtain ⟨bb, off, v, h1, h2, h3⟩ := h j hj
 exact ⟨bb, off, v, h1, by omega, h3⟩
theorem qzb5 (B b : Nat) (a : Option Addr) (len cap : Nat) (i h : Int) (w : World) (hB : B <= b) (hlen : len <= 4096) (D : qz1o .i64 w b a len cap i h) (C : qz1h B w a len) :
  Calls Try.prog 93 #[.pointer (some ⟨b, 0, none⟩)] w fun e w' => ∃ r i' h', e = .returned (.int .i64 r) /\ qz1o .i64 w' b a len cap i' h' /\ qz1h B w' a len /\ Only b w w' := by
 have blk := D.blk
 go_enter Try.func93, Try.ntmps93
 go_wp2_with fail
 refine (qzz B b a len cap i h 10 _ hB hlen (D.alloc _) (C.alloc (by omega) _) (by omega) (by omega)).mono ?_
 rintro e w1 ⟨r, i1, h1, rfl, r0, r1, D1, C1, O1⟩
 have I1 := (qz4p w [-1, 0, 1, 2147483648, -2147483648, 1099511627776, 4611686018427387904, -4611686018427387904, 9223372036854775807, -9223372036854775808] _ 2 rfl).only O1 (by omega)
 obtain ⟨rN, rfl⟩ := Int.eq_ofNat_of_zero_le r0
 obtain ⟨v, hv⟩ : ∃ v, w1.cell? ⟨w.heap.size, rN, none⟩ = some (.int .i64 v) := ⟨_, I1.2 rN (by simp; omega)⟩
 clear I1
 have r2 : (rN : Int) < 10 := r1
 go_wp2
 go_ret
 exact ⟨v, i1, h1, rfl, D1, C1, ((Only.refl _ _).alloc _).trans O1⟩
theorem qz4g (B b : Nat) (a : Option Addr) (len cap : Nat) (i h m : Int) (w : World) (hB : B <= b) (hlen : len <= 4096) (D : qz1o .i64 w b a len cap i h) (C : qz1h B w a len) (hm1 : 0 <= m) (hm2 : m <= 2000000) :
  Calls Try.prog 74 #[.pointer (some ⟨b, 0, none⟩), .int .i64 m] w fun e w' => ∃ r i' h', e = .returned (.int .i64 r) /\ qz1o .i64 w' b a len cap i' h' /\ qz1h B w' a len /\ Only b w w' := by
 go_enter Try.func74, Try.ntmps74
 go_wp2_with fail
 refine (qz3y B b a len cap i h 10 _ hB hlen D C (by omega) (by omega)).mono ?_
 rintro e w1 ⟨r, i1, h1, rfl, D1, C1, O1⟩
 cases r
 ·go_wp2_with fail
  refine (qz3y B b a len cap i1 h1 2 _ hB hlen D1 C1 (by omega) (by omega)).mono ?_
  rintro e w2 ⟨r, i2, h2, rfl, D2, C2, O2⟩
  cases r
  ·go_wp2_with fail
   refine (qzz B b a len cap i2 h2 _ _ hB hlen D2 C2 (by omega) (by omega)).mono ?_
   rintro e w3 ⟨r, i3, h3, rfl, r0, r1, D3, C3, O3⟩
   go_wp2
   go_ret
   exact ⟨_, i3, h3, rfl, D3, C3, (O1.trans O2).trans O3⟩
  ·go_wp2_with fail
   refine (qz8u _ _ _).mono ?_
   rintro e w3 ⟨rfl, rfl⟩
   have hq : 0 <= min m 4 /\ min m 4 <= 4 := by omega
   generalize min m 4 = q at *
   obtain ⟨q0, q1⟩ := hq
   go_wp2_with fail
   refine (qzz B b a len cap i2 h2 _ _ hB hlen D2 C2 (by omega) (by omega)).mono ?_
   rintro e w3 ⟨r, i3, h3, rfl, r0, r1, D3, C3, O3⟩
   go_wp2
   go_ret
   exact ⟨_, i3, h3, rfl, D3, C3, (O1.trans O2).trans O3⟩
 ·go_wp2_with fail
  refine (qzb5 B b a len cap i1 h1 _ hB hlen D1 C1).mono ?_
  rintro e w2 ⟨z, i2, h2, rfl, D2, C2, O2⟩
  go_wp2_with fail
  refine (qzz B b a len cap i2 h2 4 _ hB hlen (D2.alloc _) (C2.alloc (by have := D2.blk; omega) _) (by omega) (by omega)).mono ?_
  rintro e w3 ⟨r, i3, h3, rfl, r0, r1, D3, C3, O3⟩
  have I3 := (qz4p w2 [-1, m, m + 1, z] _ 2 rfl).only O3 (by have := D2.blk; omega)
  obtain ⟨rN, rfl⟩ := Int.eq_ofNat_of_zero_le r0
  obtain ⟨v, hv⟩ : ∃ v, w3.cell? ⟨w2.heap.size, rN, none⟩ = some (.int .i64 v) := ⟨_, I3.2 rN (by simp; omega)⟩
  clear I3
  go_wp2
  go_ret
  exact ⟨v, i3, h3, rfl, D3, C3, (O1.trans O2).trans (((Only.refl _ _).alloc _).trans O3)⟩
structure qz62 (w : World) (b : Nat) (x y z u : Int) : Prop where
 c0 : w.cell? ⟨b, 0, none⟩ = some (.int .i64 x)
 c1 : w.cell? ⟨b, 1, none⟩ = some (.int .i64 y)
 c2 : w.cell? ⟨b, 2, none⟩ = some (.int .i64 z)
 c3 : w.cell? ⟨b, 3, none⟩ = some (.int .i64 u)
 f0 : w.frozen? ⟨b, 0, none⟩ = false
 f1 : w.frozen? ⟨b, 1, none⟩ = false
 f2 : w.frozen? ⟨b, 2, none⟩ = false
 f3 : w.frozen? ⟨b, 3, none⟩ = false
 blk : b < w.heap.size
theorem qz59 (w : World) (x y z u : Int) (T : TypeId) : qz62 (w.alloc (.cells #[.int .i64 x, .int .i64 y, .int .i64 z, .int .i64 u] T)) w.heap.size x y z u := by
 refine ⟨?_, ?_, ?_, ?_, ?_, ?_, ?_, ?_, by simp⟩ <;> simp
theorem qz62.only {w w' : World} {b c : Nat} {x y z u : Int} (P : qz62 w b x y z u) (hO : Only c w w') (hne : b ≠ c) : qz62 w' b x y z u :=
 ⟨(hO.cell (p := ⟨b, 0, none⟩) P.blk hne).trans P.c0, (hO.cell (p := ⟨b, 1, none⟩) P.blk hne).trans P.c1, (hO.cell (p := ⟨b, 2, none⟩) P.blk hne).trans P.c2, (hO.cell (p := ⟨b, 3, none⟩) P.blk hne).trans P.c3,
  (hO.frozen (p := ⟨b, 0, none⟩) P.blk hne).trans P.f0, (hO.frozen (p := ⟨b, 1, none⟩) P.blk hne).trans P.f1, (hO.frozen (p := ⟨b, 2, none⟩) P.blk hne).trans P.f2, (hO.frozen (p := ⟨b, 3, none⟩) P.blk hne).trans P.f3, Nat.lt_of_lt_of_le P.blk hO.size⟩
theorem qz62.alloc {w : World} {b : Nat} {x y z u : Int} (P : qz62 w b x y z u) (o : Obj) : qz62 (w.alloc o) b x y z u :=
 P.only ((Only.refl w.heap.size w).alloc o) (by have := P.blk; omega)
theorem qz5m (w : World) (c : Nat) (x y z u : Int) : Only c w ((((w.setCell ⟨c, 0, none⟩ (.int .i64 x)).setCell ⟨c, 1, none⟩ (.int .i64 y)).setCell ⟨c, 2, none⟩ (.int .i64 z)).setCell ⟨c, 3, none⟩ (.int .i64 u)) :=
 ((((Only.refl c w).setCell (Or.inl rfl) _).setCell (Or.inl rfl) _).setCell (Or.inl rfl) _).setCell (Or.inl rfl) _
theorem Only.set4 {b c : Nat} {x w : World} (h : Only b x w) (hc : x.heap.size <= c) (p q r s : Int) : Only b x ((((w.setCell ⟨c, 0, none⟩ (.int .i64 p)).setCell ⟨c, 1, none⟩ (.int .i64 q)).setCell ⟨c, 2, none⟩ (.int .i64 r)).setCell ⟨c, 3, none⟩ (.int .i64 s)) :=
 (((h.setCell (Or.inr hc) _).setCell (Or.inr hc) _).setCell (Or.inr hc) _).setCell (Or.inr hc) _
theorem qz7k (B b : Nat) (a : Option Addr) (len cap : Nat) (i h : Int) (w : World) (hB : B <= b) (hlen : len <= 4096) (D : qz1o .i64 w b a len cap i h) (C : qz1h B w a len) :
  Calls Try.prog 89 #[.pointer (some ⟨b, 0, none⟩)] w fun e w' => ∃ x y z u i' h', qz3j x y z u = true /\ e = .returned (.agg #[.int .i64 x, .int .i64 y, .int .i64 z, .int .i64 u]) /\ qz1o .i64 w' b a len cap i' h' /\ qz1h B w' a len /\ Only b w w' := by
 have blk := D.blk
 go_enter Try.func89, Try.ntmps89
 go_wp2_with fail
 have R0 := qz59 w 0 0 0 0 25
 refine (qzz B b a len cap i h 4 _ hB hlen (D.alloc _) (C.alloc (by omega) _) (by omega) (by omega)).mono ?_
 rintro e w1 ⟨r1, i1, h1, rfl, r10, r11, D1, C1, O1⟩
 have R1 := R0.only O1 (by omega)
 go_wp2_with fail
 refine (qzz B b a len cap i1 h1 12 _ hB hlen D1 C1 (by omega) (by omega)).mono ?_
 rintro e w2 ⟨r2, i2, h2, rfl, r20, r21, D2, C2, O2⟩
 have R2 := R1.only O2 (by omega)
 go_wp2_with fail
 refine (qzz B b a len cap i2 h2 60 _ hB hlen D2 C2 (by omega) (by omega)).mono ?_
 rintro e w3 ⟨r3, i3, h3, rfl, r30, r31, D3, C3, O3⟩
 have R3 := R2.only O3 (by omega)
 go_wp2_with fail
 refine (qzz B b a len cap i3 h3 4 _ hB hlen D3 C3 (by omega) (by omega)).mono ?_
 rintro e w4 ⟨r4, i4, h4, rfl, r40, r41, D4, C4, O4⟩
 have R4 := R3.only O4 (by omega)
 have b4 := D4.blk
 have O04 := ((((Only.refl b w).alloc (Obj.cells #[.int .i64 0, .int .i64 0, .int .i64 0, .int .i64 0] 25)).trans O1).trans O2).trans (O3.trans O4)
 clear R0 R1 R2 R3 D1 D2 D3 C1 C2 C3 O1 O2 O3 O4
 go_wp2_with fail
 have P5 := qz59 w4 (1 + r1) (2 + r2) (10 + r3) (1 + r4) 25
 refine (qz3y B b a len cap i4 h4 8 _ hB hlen (D4.alloc _) (C4.alloc (by omega) _) (by omega) (by omega)).mono ?_
 rintro e w5 ⟨r5, i5, h5, rfl, D5, C5, O5⟩
 have P6 := P5.only O5 (by omega)
 have R5 := (R4.alloc _).only O5 (by omega)
 have O05 := (O04.alloc _).trans O5
 have hz4 := R4.blk
 have hz5 := P6.blk
 clear P5 R4 O5 D4 C4 O04
 cases r5
 ·obtain ⟨c0, c1, c2, c3, _, _, _, _, _⟩ := P6
  obtain ⟨k0, k1, k2, k3, f0, f1, f2, f3, _⟩ := R5
  go_wp2
  exact bodyPost_ret (v := .agg #[.int .i64 (1 + r1), .int .i64 (2 + r2), .int .i64 (10 + r3), .int .i64 (1 + r4)]) (by simp [results, Try.results89, go_sem, k0, k1, k2, k3]) rfl ⟨_, _, _, _, i5, h5, (qz27 _ _ _ _).2 (by omega), rfl, D5.only (qz5m _ _ _ _ _ _) (by omega), C5.below ((qz5m _ _ _ _ _ _).below (by omega) (by omega)), O05.set4 (by omega) _ _ _ _⟩
 ·go_wp2_with fail
  refine (qzz B b a len cap i5 h5 12 _ hB hlen D5 C5 (by omega) (by omega)).mono ?_
  rintro e w6 ⟨r6, i6, h6, rfl, r60, r61, D6, C6, O6⟩
  have P7 := P6.only O6 (by omega)
  have R6 := R5.only O6 (by omega)
  have O06 := O05.trans O6
  have hz6 := O6.size
  clear P6 R5 D5 C5 O6
  obtain ⟨c0, c1, c2, c3, _, _, g2, _, _⟩ := P7
  obtain ⟨k0, k1, k2, k3, f0, f1, f2, f3, _⟩ := R6
  go_wp2
  exact bodyPost_ret (v := .agg #[.int .i64 (1 + r1), .int .i64 (2 + r2), .int .i64 (1 + r6), .int .i64 (1 + r4)]) (by simp [results, Try.results89, go_sem, k0, k1, k2, k3]) rfl ⟨_, _, _, _, i6, h6, (qz27 _ _ _ _).2 (by omega), rfl, (D6.only ((Only.refl w4.heap.size w6).setCell (Or.inl rfl) _) (by omega)).only (qz5m _ _ _ _ _ _) (by omega), (C6.below ((Below.refl _ _).setCell (by simp; omega) _)).below ((qz5m _ _ _ _ _ _).below (by omega) (by simp; omega)), (O06.setCell (Or.inr (by simp; omega)) _).set4 (by omega) _ _ _ _⟩
end
section
open Go.RowKit
theorem qzh (w : World) (C : Array Value) (T : TypeId) (n : Nat) (h : n <= C.size) : (w.alloc (.cells C T)).there w.heap.size 0 n := by
 intro j hj
 rw [Nat.zero_add, World.cell?_alloc_new]
 refine ⟨?_, by simp⟩
 rw [Array.getElem?_eq_getElem (by omega)]
 rfl
theorem qzd (w : World) (cs : List Value) (T : TypeId) : (w.alloc (.cells cs.toArray T)).rangeAt w.heap.size 0 cs := by
 intro j v hv
 rw [Nat.zero_add, World.cell?_alloc_new]
 simpa using hv
theorem qz0 {w w' : World} {B b o : Nat} {cs : List Value} (h : w.rangeAt b o cs) (hb : Below B w w') (hB : b < B) : w'.rangeAt b o cs :=
 fun j v hv => (hb.cell (p := ⟨b, o + j, none⟩) hB).trans (h j v hv)
theorem qz6 {w w' : World} {B b o n : Nat} (h : w.there b o n) (hb : Below B w w') (hB : b < B) : w'.there b o n :=
 fun j hj => by rw [hb.cell (p := ⟨b, o + j, none⟩) hB, hb.frozen (p := ⟨b, o + j, none⟩) hB]; exact h j hj
theorem qzy (b : Nat) : ∀ (vs : List Value) (o : Nat) (w : World), (w.setCells b o vs).heap.size = w.heap.size
 | [], _, _ => rfl
 | v :: vs, o, w => by
  show ((w.setCell ⟨b, o, none⟩ v).setCells b (o + 1) vs).heap.size = _
  rw [qzy b vs (o + 1), World.size_setCell]
theorem Below.setCells {B b : Nat} {a : World} (hB : B <= b) : ∀ (vs : List Value) (o : Nat) (w : World), Below B a w -> Below B a (w.setCells b o vs)
 | [], _, _, h => h
 | v :: vs, o, w, h => Below.setCells hB vs (o + 1) (w.setCell ⟨b, o, none⟩ v) (h.setCell hB v)
theorem qz3 {w : World} {b o n : Nat} (h : w.there b o n) (a : Addr) (v : Value) : (w.setCell a v).there b o n := by
 intro j hj
 refine ⟨?_, (World.frozen?_setCell _ _ _ _).trans (h j hj).2⟩
 by_cases e : a = ⟨b, o + j, none⟩
 ·subst e
  obtain ⟨u, hu⟩ := Option.isSome_iff_exists.1 (h j hj).1
  rw [World.cell?_setCell_same _ _ _ hu]
  rfl
 ·rw [World.cell?_setCell_other _ _ _ _ e]
  exact (h j hj).1
theorem qz4 {P : Program} {fn : Func} {p : Tmp} {ty : TypeId} (h : fn.results = #[.cell p ty]) (tmps : Array Value) (w : World) (b o : Nat) (hp : tmps.getD p undef = .pointer (some ⟨b, o, none⟩))
  (cs : List Value) (d : TypeDesc) (hc : w.rangeAt b o cs) (hu : P.underlying ty = some d) (hd : d.isRow = true) (hi : (P.info? ty).map (·.size) = some cs.length) : (results fn tmps).run P w = .ok (.agg cs.toArray) w := by
 have hl := run_loadVar_mid (P := P) w b o ty cs d hc hu hd hi
 rw [Array.getD_eq_getD_getElem?] at hp
 simp [results, h, hp, asAddr, hl]
theorem qzn {P : Program} {fn : Func} {p q : Tmp} {ty : TypeId} (h : fn.results = #[.cell p ty, .tmp q]) (tmps : Array Value) (w : World) (b o : Nat) (hp : tmps.getD p undef = .pointer (some ⟨b, o, none⟩))
  (cs : List Value) (d : TypeDesc) (hc : w.rangeAt b o cs) (hu : P.underlying ty = some d) (hd : d.isRow = true) (hi : (P.info? ty).map (·.size) = some cs.length) : (results fn tmps).run P w = .ok (.tuple #[.agg cs.toArray, tmps.getD q undef]) w := by
 have hl := run_loadVar_mid (P := P) w b o ty cs d hc hu hd hi
 rw [Array.getD_eq_getD_getElem?] at hp
 simp [results, h, hp, asAddr, Result.andThen, hl]
end
section
attribute [local go_sem ↓] Go.wp_at_zero Go.wp_at_succ
structure Nd where
 key : Int
 value : Int
 head : Int
structure Vr where
 next : Int
 gone : Bool
 stamp : Int
 prev : Int
 kind : Int
structure Ar where
 camera : Int
 slots : List Int
 guides : List Int
 nodes : List Nd
 vers : List Vr
def intC (n : Int) : List Value := [.int .i64 n]
def ndC (x : Nd) : List Value := [.int .i64 x.key, .int .i64 x.value, .int .i64 x.head]
def vrC (x : Vr) : List Value := [.int .i64 x.next, .bool x.gone, .int .i64 x.stamp, .int .i64 x.prev, .int .i64 x.kind]
def qzm {α : Type} (f : α -> List Value) (l : List α) : List Value := l.flatMap f
theorem qz2c {α : Type} {f : α -> List Value} {sz : Nat} (hf : ∀ x, (f x).length = sz) (l : List α) : (qzm f l).length = l.length * sz := by
 induction l with
 | nil => simp [qzm]
 | cons x l ih => simp only [qzm, List.flatMap_cons, List.length_append, List.length_cons] at ih ⊢; rw [ih, hf, Nat.add_mul]; omega
theorem qz2l {α : Type} (f : α -> List Value) (l : List α) (x : α) : qzm f (l ++ [x]) = qzm f l ++ f x := by simp [qzm]
theorem qz1j {α : Type} {f : α -> List Value} {sz : Nat} (hf : ∀ x, (f x).length = sz) : ∀ (l : List α) (i : Nat) (hi : i < l.length) (j : Nat), j < sz -> (qzm f l)[i * sz + j]? = (f l[i])[j]?
 | x :: l, 0, _, j, hj => by
  simp only [qzm, List.flatMap_cons, Nat.zero_mul, Nat.zero_add, List.getElem_cons_zero]
  rw [List.getElem?_append_left (by rw [hf]; exact hj)]
 | x :: l, i + 1, hi, j, hj => by
  have ih := qz1j hf l i (by simpa using hi) j hj
  simp only [qzm, List.flatMap_cons, List.getElem_cons_succ] at ih ⊢
  rw [List.getElem?_append_right (by rw [hf, Nat.add_mul]; omega), hf, <- ih]
  congr 1
  rw [Nat.add_mul]
  omega
def qz12 (B : Nat) (w : World) (v : Value) (len : Nat) (cs : List Value) : Prop :=
 ∃ a cap, v = .slice a len cap /\ (len = 0 ∨ ∃ bb off, a = some ⟨bb, off, none⟩ /\ bb < B /\ w.rangeAt bb off cs)
theorem qz12.below {B : Nat} {w w' : World} {v : Value} {len : Nat} {cs : List Value} (h : qz12 B w v len cs) (hb : Below B w w') : qz12 B w' v len cs := by
 obtain ⟨a, cap, rfl, h⟩ := h
 refine ⟨a, cap, rfl, ?_⟩
 rcases h with h | ⟨bb, off, rfl, h1, h2⟩
 ·exact Or.inl h
 ·exact Or.inr ⟨bb, off, rfl, h1, qz0 h2 hb h1⟩
theorem qz12.weaken {B B' : Nat} {w : World} {v : Value} {len : Nat} {cs : List Value} (h : qz12 B w v len cs) (hB : B <= B') : qz12 B' w v len cs := by
 obtain ⟨a, cap, rfl, h⟩ := h
 refine ⟨a, cap, rfl, ?_⟩
 rcases h with h | ⟨bb, off, rfl, h1, h2⟩
 ·exact Or.inl h
 ·exact Or.inr ⟨bb, off, rfl, by omega, h2⟩
theorem qzr {α : Type} {f : α -> List Value} {sz : Nat} (hf : ∀ x, (f x).length = sz) {w : World} {b o : Nat} {l : List α} (R : w.rangeAt b o (qzm f l)) (i : Nat) (hi : i < l.length) : w.rangeAt b (o + i * sz) (f l[i]) := by
 intro j v hj
 have hlt : j < sz := by
  rcases Nat.lt_or_ge j (f l[i]).length with h | h
  ·rw [hf] at h; exact h
  ·rw [List.getElem?_eq_none h] at hj; cases hj
 have := R (i * sz + j) v (by rw [qz1j hf l i hi j hlt]; exact hj)
 rw [Nat.add_assoc]
 exact this
theorem qz1b {w : World} {b o n : Nat} (T : w.there b o n) (k m : Nat) (h : k + m <= n) : w.there b (o + k) m := by
 intro j hj
 have := T (k + j) (by omega)
 rw [<- Nat.add_assoc] at this
 exact this
theorem qz9v : (Try.prog.info? 78).map (fun i => (i.zero, i.size, i.bytes)) = some (some (.agg #[.int .i64 0, .int .i64 0, .int .i64 0]), 3, 24) := by kernel_rfl
theorem qz9x : (Try.prog.info? 54).map (fun i => (i.zero, i.size, i.bytes)) = some (some (.agg #[.int .i64 0, .bool false, .int .i64 0, .int .i64 0, .int .i64 0]), 5, 40) := by kernel_rfl
structure qz1v (B : Nat) (w : World) (s g n r : Value) (A : Ar) : Prop where
 s : qz12 B w s A.slots.length (qzm intC A.slots)
 g : qz12 B w g A.guides.length (qzm intC A.guides)
 n : qz12 B w n A.nodes.length (qzm ndC A.nodes)
 r : qz12 B w r A.vers.length (qzm vrC A.vers)
def Ar.size (A : Ar) : Nat := A.slots.length + A.guides.length + A.nodes.length + A.vers.length
theorem qz1v.below {B : Nat} {w w' : World} {s g n r : Value} {A : Ar} (I : qz1v B w s g n r A) (hb : Below B w w') : qz1v B w' s g n r A :=
 ⟨I.s.below hb, I.g.below hb, I.n.below hb, I.r.below hb⟩
theorem qz1v.weaken {B B' : Nat} {w : World} {s g n r : Value} {A : Ar} (I : qz1v B w s g n r A) (hB : B <= B') : qz1v B' w s g n r A :=
 ⟨I.s.weaken hB, I.g.weaken hB, I.n.weaken hB, I.r.weaken hB⟩
theorem qza {w : World} {b : Nat} {cs : List Value} (R : w.rangeAt b 0 cs) (k : Nat) (hk : k < cs.length) (v : Value) : (w.setCell ⟨b, k, none⟩ v).rangeAt b 0 (cs.set k v) := by
 intro j u hj
 rw [Nat.zero_add]
 by_cases e : k = j
 ·subst e
  rw [List.getElem?_set_self hk] at hj
  cases hj
  have := R k cs[k] (List.getElem?_eq_getElem hk)
  rw [Nat.zero_add] at this
  exact World.cell?_setCell_same _ _ _ this
 ·rw [List.getElem?_set_ne e] at hj
  have := R j u hj
  rw [Nat.zero_add] at this
  exact (World.cell?_setCell_other _ _ _ _ (by simp)).trans this
theorem qz37 {w : World} {b o : Nat} {cs : List Value} (R : w.rangeAt b o cs) {a : Addr} (h : a.block ≠ b) (v : Value) : (w.setCell a v).rangeAt b o cs := by
 intro j u hj
 refine (World.cell?_setCell_other _ _ _ _ ?_).trans (R j u hj)
 intro e
 exact h (by rw [e])
theorem row5 {w : World} {b : Nat} {v0 v1 v2 v3 v4 : Value} (R : w.rangeAt b 0 [v0, v1, v2, v3, v4]) : w.cell? ⟨b, 0, none⟩ = some v0 /\ w.cell? ⟨b, 1, none⟩ = some v1 /\ w.cell? ⟨b, 2, none⟩ = some v2 /\ w.cell? ⟨b, 3, none⟩ = some v3 /\ w.cell? ⟨b, 4, none⟩ = some v4 := by
 refine ⟨?_, ?_, ?_, ?_, ?_⟩
 ·simpa using R 0 v0 rfl
 ·simpa using R 1 v1 rfl
 ·simpa using R 2 v2 rfl
 ·simpa using R 3 v3 rfl
 ·simpa using R 4 v4 rfl
end
section
def qz2a (xN uN : Nat) : Ar := ⟨0, List.replicate xN (-1), List.replicate uN 0, [⟨-1, 0, 0⟩], [⟨-1, false, 0, -1, 0⟩]⟩
theorem qz12.of {B : Nat} {w : World} {b len n cap : Nat} {cs : List Value} (hl : n = len) (hb : b < B) (R : w.rangeAt b 0 cs) : qz12 B w (.slice (some ⟨b, 0, none⟩) n cap) len cs := by
 subst hl
 exact ⟨_, _, rfl, Or.inr ⟨b, 0, rfl, hb, R⟩⟩
theorem qz5x (n : Nat) (v : Int) : qzm intC (List.replicate n v) = List.replicate n (.int .i64 v) := by
 induction n with
 | zero => rfl
 | succ n ih => simp only [List.replicate_succ, qzm, List.flatMap_cons] at ih ⊢; rw [ih]; rfl
theorem qzbd {w : World} {base : Nat} {e : TypeId} {g n cap : Nat} {xs : List Value} (h : w.ownsRow base e 1 (.slice (some ⟨g, 0, none⟩) n cap) n xs) (hn : 0 < n) : g < w.heap.size /\ w.rangeAt g 0 xs := by
 rcases h.2 with ⟨h0, _⟩ | ⟨g', cap', cur, hv, hg, hh, hnc, _, hs, ht⟩
 ·cases h0
 ·injection hv with hv _ _
  injection hv with hv
  injection hv with hv _ _
  subst hv
  have hlt : g < w.heap.size := by
   rcases Nat.lt_or_ge g w.heap.size with hl | hl
   ·exact hl
   ·rw [Array.getElem?_eq_none hl] at hh; cases hh
  refine ⟨hlt, ?_⟩
  have R := World.rangeAt_of_block hh 0 n
  have e1 : (cur.extract 0 (0 + n)).toList = xs := by rw [<- ht]; simp
  rw [e1] at R
  exact R
theorem qzao : (Try.prog.info? 2).map (fun i => (i.zero, i.size, i.bytes)) = some (some (.int .i64 0), 1, 8) := by kernel_rfl
theorem qz2i : (Try.prog.info? 30).map (fun i => i.size) = some 5 := by kernel_rfl
theorem qz1g {w : World} {base : Nat} {e : TypeId} {size : Nat} {v : Value} {n : Nat} {xs : List Value} (h : w.ownsRow base e size v n xs) {j : Nat} (hj : v.ownBlock = some j) : base <= j := by
 rcases h.2 with ⟨rfl, _⟩ | ⟨g, cap, cur, rfl, hg, _⟩
 ·simp [Value.ownBlock] at hj
 ·simp [Value.ownBlock] at hj
  omega
theorem qz19 {w : World} {base : Nat} {e : TypeId} {size : Nat} {v : Value} {n : Nat} {xs : List Value} (h : w.ownsRow base e size v n xs) (hn : 0 < n) : ∃ g cap, v = .slice (some ⟨g, 0, none⟩) n cap := by
 rcases h.2 with ⟨rfl, h0⟩ | ⟨g, cap, cur, rfl, _⟩
 ·omega
 ·exact ⟨g, cap, rfl⟩
def qz64 (w1 : World) (uN : Nat) : World :=
 (((w1.alloc (Obj.cells (madeCells #[Value.int IntKind.i64 0] uN) 2)).alloc (Obj.cells #[Value.int IntKind.i64 (-1), Value.int IntKind.i64 0, Value.int IntKind.i64 0] 78)).alloc
  (Obj.cells #[Value.int IntKind.i64 (-1), Value.bool false, Value.int IntKind.i64 0, Value.int IntKind.i64 (-1), Value.int IntKind.i64 0] 54)).alloc
   (Obj.cells #[Value.int IntKind.i64 0, Value.slice none 0 0, Value.slice (some ⟨w1.heap.size, 0, none⟩) uN uN, Value.slice (some ⟨w1.heap.size + 1, 0, none⟩) 1 1, Value.slice (some ⟨w1.heap.size + 1 + 1, 0, none⟩) 1 1] 30)
theorem qz9c (w1 : World) (uN : Nat) : (qz64 w1 uN).heap.size = w1.heap.size + 4 := by simp [qz64]
theorem qz9e (w1 : World) (uN : Nat) : (qz64 w1 uN).rangeAt w1.heap.size 0 (qzm intC (List.replicate uN 0)) /\ (qz64 w1 uN).rangeAt (w1.heap.size + 1) 0 (ndC ⟨-1, 0, 0⟩) /\ (qz64 w1 uN).rangeAt (w1.heap.size + 1 + 1) 0 (vrC ⟨-1, false, 0, -1, 0⟩) := by
 have e : madeCells #[Value.int IntKind.i64 0] uN = (qzm intC (List.replicate uN 0)).toArray := by
  apply Array.toList_inj.1
  rw [toList_madeCells_one, qz5x]
 unfold qz64
 rw [e]
 refine ⟨?_, ?_, ?_⟩
 ·exact World.rangeAt_alloc (World.rangeAt_alloc (World.rangeAt_alloc (qzd w1 _ _) _) _) _
 ·have h := qzd (w1.alloc (Obj.cells (qzm intC (List.replicate uN 0)).toArray 2)) (ndC ⟨-1, 0, 0⟩) 78
  simp only [World.size_alloc] at h
  exact World.rangeAt_alloc (World.rangeAt_alloc h _) _
 ·have h := qzd ((w1.alloc (Obj.cells (qzm intC (List.replicate uN 0)).toArray 2)).alloc (Obj.cells (ndC ⟨-1, 0, 0⟩).toArray 78)) (vrC ⟨-1, false, 0, -1, 0⟩) 54
  simp only [World.size_alloc] at h
  exact World.rangeAt_alloc h _
structure qz5v (w1 : World) (uN : Nat) (wr : World) (k : Nat) (s : Value) : Prop where
 a0 : wr.cell? ⟨w1.heap.size + 1 + 1 + 1, 0, none⟩ = some (.int .i64 0)
 a1 : wr.cell? ⟨w1.heap.size + 1 + 1 + 1, 1, none⟩ = some s
 a2 : wr.cell? ⟨w1.heap.size + 1 + 1 + 1, 2, none⟩ = some (.slice (some ⟨w1.heap.size, 0, none⟩) uN uN)
 a3 : wr.cell? ⟨w1.heap.size + 1 + 1 + 1, 3, none⟩ = some (.slice (some ⟨w1.heap.size + 1, 0, none⟩) 1 1)
 a4 : wr.cell? ⟨w1.heap.size + 1 + 1 + 1, 4, none⟩ = some (.slice (some ⟨w1.heap.size + 1 + 1, 0, none⟩) 1 1)
 f1 : wr.frozen? ⟨w1.heap.size + 1 + 1 + 1, 1, none⟩ = false
 own : wr.ownsRow (w1.heap.size + 4) 2 1 s k (List.replicate k (.int .i64 (-1)))
 bel : Below (w1.heap.size + 3) (qz64 w1 uN) wr
theorem qz5v.blk {w1 : World} {uN : Nat} {wr : World} {k : Nat} {s : Value} (D : qz5v w1 uN wr k s) : w1.heap.size + 4 <= wr.heap.size := by
 have := D.bel.size
 rw [qz9c] at this
 exact this
theorem qz7d (w1 : World) (uN : Nat) : qz5v w1 uN (qz64 w1 uN) 0 (.slice none 0 0) := by
 have h := (qzh (((w1.alloc (Obj.cells (madeCells #[Value.int IntKind.i64 0] uN) 2)).alloc (Obj.cells #[Value.int IntKind.i64 (-1), Value.int IntKind.i64 0, Value.int IntKind.i64 0] 78)).alloc
  (Obj.cells #[Value.int IntKind.i64 (-1), Value.bool false, Value.int IntKind.i64 0, Value.int IntKind.i64 (-1), Value.int IntKind.i64 0] 54))
   #[Value.int IntKind.i64 0, Value.slice none 0 0, Value.slice (some ⟨w1.heap.size, 0, none⟩) uN uN, Value.slice (some ⟨w1.heap.size + 1, 0, none⟩) 1 1, Value.slice (some ⟨w1.heap.size + 1 + 1, 0, none⟩) 1 1] 30 5 (by simp) 1 (by omega)).2
 simp only [World.size_alloc, Nat.zero_add] at h
 refine ⟨?_, ?_, ?_, ?_, ?_, h, World.ownsRow_nil _ _ _ _, Below.refl _ _⟩ <;> simp [qz64, World.cell?_alloc_at]
theorem qz5v.step {w1 : World} {uN : Nat} {wr : World} {k : Nat} {s : Value} (D : qz5v w1 uN wr k s) {o : Obj} {w2 : World} {v' : Value}
  (ho : w2.ownsRow (w1.heap.size + 4) 2 1 v' (k + 1) (List.replicate k (.int .i64 (-1)) ++ [.int .i64 (-1)])) (hg : (wr.alloc o).grownBy w2 s.ownBlock) :
  qz5v w1 uN (w2.setCell ⟨w1.heap.size + 1 + 1 + 1, 1, none⟩ v') (k + 1) v' := by
 have hz := D.blk
 have b2 : Below (w1.heap.size + 4) wr w2 := ((Below.refl _ wr).alloc hz o).grown hg (by simp; omega) (fun j e => qz1g D.own e)
 have hc : ∀ j, w2.cell? ⟨w1.heap.size + 1 + 1 + 1, j, none⟩ = wr.cell? ⟨w1.heap.size + 1 + 1 + 1, j, none⟩ := fun j => b2.cell (p := ⟨w1.heap.size + 1 + 1 + 1, j, none⟩) (by simp)
 have hf := b2.frozen (p := ⟨w1.heap.size + 1 + 1 + 1, 1, none⟩) (by simp)
 refine ⟨?_, World.cell?_setCell_same _ _ _ ((hc 1).trans D.a1), ?_, ?_, ?_, (World.frozen?_setCell _ _ _ _).trans (hf.trans D.f1), ?_, ?_⟩
 ·exact (World.cell?_setCell_other _ _ _ _ (by simp)).trans ((hc 0).trans D.a0)
 ·exact (World.cell?_setCell_other _ _ _ _ (by simp)).trans ((hc 2).trans D.a2)
 ·exact (World.cell?_setCell_other _ _ _ _ (by simp)).trans ((hc 3).trans D.a3)
 ·exact (World.cell?_setCell_other _ _ _ _ (by simp)).trans ((hc 4).trans D.a4)
 ·rw [List.replicate_succ']
  exact ownsRow_setCell_below ho (by simp) _
 ·exact (D.bel.trans (b2.mono (by omega))).setCell (by simp) _
end
section
def qz36 : List Value := [.int .i64 0, .int .i64 0, .int .i64 0, .int .i64 (-1), .int .i64 0, .int .i64 0, .int .i64 0, .int .i64 0, .int .i64 0, .int .i64 (-1), .int .i64 0, .int .i64 0, .int .i64 0, .int .i64 0, .int .i64 0, .int .i64 0, .int .i64 (-1), .int .i64 0, .int .i64 (-1), .int .i64 0, .int .i64 0, .int .i64 0]
theorem qzc2 : (Try.prog.info? 56).map (fun i => i.size) = some qz36.toArray.size := by kernel_rfl
theorem qzax : (Try.prog.info? 56).map (fun i => i.size) = some qz36.length := by kernel_rfl
theorem qzcs : qz36.toArray.all (·.oneCell') = true := by kernel_rfl
theorem qz8p (w : World) (C : Array Value) (T : TypeId) (h : C.size = 22) : (w.alloc (.cells C T)).there w.heap.size 0 qz36.toArray.size := qzh w C T _ (by rw [h]; decide)
theorem qz4m (w : World) : Calls Try.prog 66 #[] w fun e w' => e = .returned (.agg qz36.toArray) /\ Below w.heap.size w w' := by
 go_enter Try.func66, Try.ntmps66
 go_wp2_with (refine wpList_store_mid rfl 56 (.tmp 0) (.tmp 1) rfl w.heap.size 0 _ rfl rfl ?ht ?hi ?h1 ?_)
 case ht => exact qz8p _ _ _ rfl
 case hi => exact qzc2
 case h1 => exact qzcs
 refine bodyPost_ret (v := .agg qz36.toArray) ?_ rfl ⟨rfl, ?_⟩
 ·exact qz4 Try.results66 _ _ w.heap.size 0 rfl qz36 _ (World.rangeAt_setCells_same _ _ _ _ (qz8p _ _ _ rfl)) Try.underlying56 rfl qzax
 ·exact Below.setCells (Nat.le_refl _) _ _ _ ((Below.refl _ _).alloc (Nat.le_refl _) _)
end
section
theorem qz7g (xN uN : Nat) (y z : Int) (w : World) (hp : qz3j xN y z uN = true) :
  Calls Try.prog 13 #[.agg #[.int .i64 xN, .int .i64 y, .int .i64 z, .int .i64 uN]] w fun e w' => ∃ sg sc gb nb vb, e = .returned (.agg #[.int .i64 0, .slice (some ⟨sg, 0, none⟩) xN sc, .slice (some ⟨gb, 0, none⟩) uN uN, .slice (some ⟨nb, 0, none⟩) 1 1, .slice (some ⟨vb, 0, none⟩) 1 1]) /\
   qz1v w'.heap.size w' (.slice (some ⟨sg, 0, none⟩) xN sc) (.slice (some ⟨gb, 0, none⟩) uN uN) (.slice (some ⟨nb, 0, none⟩) 1 1) (.slice (some ⟨vb, 0, none⟩) 1 1) (qz2a xN uN) /\ Below w.heap.size w w' /\ Hid (w.heap.size <= sg /\ w.heap.size <= gb /\ w.heap.size <= nb /\ w.heap.size <= vb) := by
 have hr := (qz27 xN y z uN).1 hp
 obtain ⟨⟨hx1, hx2⟩, ⟨hy1, hy2⟩, ⟨hz1, hz2⟩, hu1, hu2⟩ := hr
 have hmk := fun w => run_make_row' (P := Try.prog) 26 2 (.int .i64 0) 8 Try.underlying26 qzao rfl .i64 .i64 uN (by omega) (by omega) w
 have P0 := qz1t w xN y z uN 25
 go_enter Try.func13, Try.ntmps13
 go_wp2_with fail
 have R0 := qzh (w.alloc (Obj.cells #[.int .i64 xN, .int .i64 y, .int .i64 z, .int .i64 uN] 25)) #[.int .i64 0, .slice none 0 0, .slice none 0 0, .slice none 0 0, .slice none 0 0] 30 5 (by decide)
 refine (qz1p _ _ _ _ _).mono ?_
 rintro e w1 ⟨rfl, b1⟩
 have hz1 := b1.size
 simp at hz1
 have P1 := (P0.below ((Below.refl _ _).alloc (Nat.le_refl _) _) (by simp)).below b1 (by simp; omega)
 have R1 := qz6 R0 b1 (by simp)
 have bb1 := (((Below.refl w.heap.size w).alloc (Nat.le_refl _) (Obj.cells #[.int .i64 xN, .int .i64 y, .int .i64 z, .int .i64 uN] 25)).alloc (by simp) (Obj.cells #[.int .i64 0, .slice none 0 0, .slice none 0 0, .slice none 0 0, .slice none 0 0] 30)).trans (b1.mono (by simp; omega))
 have P1' := P1
 obtain ⟨c0, c1, c2, c3⟩ := P1'
 clear b1 P0 R0
 rw [hp]
 obtain ⟨i0, hi, hzr, hsz, hby⟩ := info_parts qzao
 go_wp2
 go_loopw [4] (fun i wr => ∃ (k : Nat) (s : Value), k <= xN /\ i = .int .i64 k /\ qz5v w1 uN wr k s) (fun i _ => xN - (intOf i).toNat)
 case atStart => exact ⟨0, _, Nat.zero_le _, rfl, qz7d w1 uN⟩
 case round =>
  obtain ⟨k, s, hk, rfl, D⟩ := hrel
  have hz := D.blk
  have bW : Below w1.heap.size w1 wr := (by
   have h1 : Below w1.heap.size w1 (qz64 w1 uN) := ((((Below.refl w1.heap.size w1).alloc (Nat.le_refl _) _).alloc (by simp) _).alloc (by simp; omega) _).alloc (by simp; omega) _
   exact h1.trans (D.bel.mono (by omega)))
  obtain ⟨e0, e1, e2, e3⟩ := P1.below bW (by omega)
  by_cases hlt : k < xN
  ·have D0 := D
   obtain ⟨a0, a1, a2, a3, a4, f1, own, bel⟩ := D
   go_wp2_with (at_builtin; refine wpList_append_own _ rfl _ _ 26 rfl (w1.heap.size + 4) 2 i0 (.int .i64 0) 1 8 Try.underlying26 hi hzr hsz hby rfl (by decide) _ _ _ rfl (own.alloc _) ⟨wr.heap.size, 0, none⟩ 1 1 [.int .i64 (-1)] rfl rfl ?c1 ?c2 ?c3 ?c4 ?c5 ?_)
   case c1 =>
    intro j u hj
    match j, hj with
    | 0, hj => simp at hj; subst hj; simp [Addr.add]
   case c2 => intro u hu; simp at hu; subst hu; rfl
   case c3 => unfold maxLen; omega
   case c4 => omega
   case c5 => simp; omega
   intro v' w2 hown' hgrow _
   have S := D0.step hown' hgrow
   have b2 : Below (w1.heap.size + 4) wr w2 := ((Below.refl _ wr).alloc hz _).grown hgrow (by simp; omega) (fun j e => qz1g own e)
   have g1 := (b2.cell (p := ⟨w1.heap.size + 1 + 1 + 1, 1, none⟩) (by simp)).trans a1
   have g2 := (b2.frozen (p := ⟨w1.heap.size + 1 + 1 + 1, 1, none⟩) (by simp)).trans f1
   obtain ⟨g, cap, hv⟩ := qz19 hown' (by omega)
   rw [hv] at S ⊢
   clear own bel D0 hown' hgrow b2 bW
   go_wp2
   go_roundw
   case rel => exact ⟨k + 1, _, by omega, by go_num, S⟩
   case measure => simp [intOf]; omega
  ·obtain rfl : k = xN := by omega
   have D0 := D
   obtain ⟨a0, a1, a2, a3, a4, f1, own, bel⟩ := D
   have R2 := qz6 R1 bW (by simp; omega)
   simp only [World.size_alloc] at R2
   obtain ⟨g, cap, rfl⟩ := qz19 own (by omega)
   obtain ⟨gz, gr⟩ := qzbd own (by omega)
   rw [<- qz5x] at gr
   obtain ⟨B0, B1, B2⟩ := qz9e w1 uN
   have M0 := qz0 B0 bel (by omega)
   have M1 := qz0 B1 bel (by omega)
   have M2 := qz0 B2 bel (by omega)
   have gg := qz1g own rfl
   have gg' : w1.heap.size + 4 <= g := gg
   have hlow : Hid (w.heap.size <= g /\ w.heap.size <= w1.heap.size /\ w.heap.size <= w1.heap.size + 1 /\ w.heap.size <= w1.heap.size + 1 + 1) := by show _ /\ _; omega
   clear bel own B0 B1 B2 gg'
   go_wp2_with (refine wpList_store_mid rfl 30 (.tmp 2) (.tmp 28) rfl (w.heap.size + 1) 0 _ rfl rfl R2 qz2i (by simp [Value.oneCell']) ?_)
   refine bodyPost_ret (v := .agg #[.int .i64 0, .slice (some ⟨g, 0, none⟩) k cap, .slice (some ⟨w1.heap.size, 0, none⟩) uN uN, .slice (some ⟨w1.heap.size + 1, 0, none⟩) 1 1, .slice (some ⟨w1.heap.size + 1 + 1, 0, none⟩) 1 1]) ?_ rfl ⟨_, _, _, _, _, rfl, ⟨?_, ?_, ?_, ?_⟩, ?_, hlow⟩
   ·exact qz4 Try.results13 _ _ (w.heap.size + 1) 0 rfl [.int .i64 0, .slice (some ⟨g, 0, none⟩) k cap, .slice (some ⟨w1.heap.size, 0, none⟩) uN uN, .slice (some ⟨w1.heap.size + 1, 0, none⟩) 1 1, .slice (some ⟨w1.heap.size + 1 + 1, 0, none⟩) 1 1] _ (World.rangeAt_setCells_same _ _ _ _ R2) Try.underlying30 rfl qz2i
   ·exact qz12.of (by simp [qz2a]) (by rw [qzy]; omega) (World.rangeAt_setCells_apart gr (w.heap.size + 1) 0 [.int .i64 0, .slice (some ⟨g, 0, none⟩) k cap, .slice (some ⟨w1.heap.size, 0, none⟩) uN uN, .slice (some ⟨w1.heap.size + 1, 0, none⟩) 1 1, .slice (some ⟨w1.heap.size + 1 + 1, 0, none⟩) 1 1] (Or.inl (by omega)))
   ·exact qz12.of (by simp [qz2a]) (by rw [qzy]; omega) (World.rangeAt_setCells_apart M0 (w.heap.size + 1) 0 [.int .i64 0, .slice (some ⟨g, 0, none⟩) k cap, .slice (some ⟨w1.heap.size, 0, none⟩) uN uN, .slice (some ⟨w1.heap.size + 1, 0, none⟩) 1 1, .slice (some ⟨w1.heap.size + 1 + 1, 0, none⟩) 1 1] (Or.inl (by omega)))
   ·exact qz12.of (rfl) (by rw [qzy]; omega) (World.rangeAt_setCells_apart M1 (w.heap.size + 1) 0 [.int .i64 0, .slice (some ⟨g, 0, none⟩) k cap, .slice (some ⟨w1.heap.size, 0, none⟩) uN uN, .slice (some ⟨w1.heap.size + 1, 0, none⟩) 1 1, .slice (some ⟨w1.heap.size + 1 + 1, 0, none⟩) 1 1] (Or.inl (by omega)))
   ·exact qz12.of (rfl) (by rw [qzy]; omega) (World.rangeAt_setCells_apart M2 (w.heap.size + 1) 0 [.int .i64 0, .slice (some ⟨g, 0, none⟩) k cap, .slice (some ⟨w1.heap.size, 0, none⟩) uN uN, .slice (some ⟨w1.heap.size + 1, 0, none⟩) 1 1, .slice (some ⟨w1.heap.size + 1 + 1, 0, none⟩) 1 1] (Or.inl (by omega)))
   ·exact Below.setCells (by omega) _ _ _ (bb1.trans (bW.mono (by omega)))
end
end Go.Proofs.Ythjkdnlmopafkaa
