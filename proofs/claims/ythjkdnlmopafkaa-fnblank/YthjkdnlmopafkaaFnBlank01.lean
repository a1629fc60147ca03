/-
  What the law's proof goes by, part 2.
-/
import Derived.Deep.RegionWith
import Derived.BigRegion
import Derived.Test.YthjkdnlmopafkaaRows
import Derived.WalkKit
import Derived.ProofKit
import Derived.Below
import Derived.Deep.MidRow
import Derived.Deep.QuietTactic
import Derived.BigQuiet
import Derived.RegionTactic
import Derived.Deep.RegionHeld3
import Derived.Deep.DrawnRows
import Derived.Deep.OwnRows
import Derived.Test.YthjkdnlmopafkaaFnBlank00
namespace Go.Proofs.Ythjkdnlmopafkaa
open Go.ChangeShapes Go.WideShapes Go.ChangeAt Go.RowKit
set_option maxRecDepth 100000
set_option maxHeartbeats 16000000
set_option linter.unusedVariables false
set_option linter.unusedSimpArgs false
set_option linter.unnecessarySimpa false
set_option linter.unusedSectionVars false
section
def qzco (w : World) (b : Nat) (xs : List Int) : Prop := b < Q67 /\ ∀ j, j < xs.length -> w.cell? ⟨b, j, none⟩ = some (.int .i64 (xs.getD j 0))
theorem qz55 (w : World) (xs : List Int) (C : Array Value) (T : TypeId) (h : C = (xs.map (Value.int .i64)).toArray) : qzco (w.alloc (.cells C T)) Q67 xs := by
 refine ⟨by simp, fun j hj => ?_⟩
 rw [World.cell?_alloc_new, h]
 simp [hj]
theorem qzco.only {w w' : World} {b c : Nat} {xs : List Int} (h : qzco w b xs) (hO : Only c w w') (hne : b ≠ c) : qzco w' b xs :=
 ⟨Q6l h.1 hO.size, fun j hj => (hO.cell (p := ⟨b, j, none⟩) h.1 hne).trans (h.2 j hj)⟩
theorem qz1f.alloc {k : IntKind} {w : World} {b : Nat} {a : Option Addr} {len cap : Nat} {i h : Int} (D : qz1f k w b a len cap i h) (o : Obj) : qz1f k (w.alloc o) b a len cap i h :=
 D.only ((Only.refl Q67 w).alloc o) (by have := D.blk; omega)
theorem qz15.alloc {B : Nat} {w : World} {a : Option Addr} {len : Nat} (h : qz15 B w a len) (hB : B <= Q67) (o : Obj) : qz15 B (w.alloc o) a len :=
 h.below ((Q6c _ _).alloc hB o)
theorem qz15.weaken {B B' : Nat} {w : World} {a : Option Addr} {len : Nat} (h : qz15 B w a len) (hB : B <= B') : qz15 B' w a len := by
 intro j hj
 obtain ⟨bb, off, v, h1, h2, h3⟩ := h j hj
 exact ⟨bb, off, v, h1, by omega, h3⟩
theorem qzcy (B b : Nat) (a : Option Addr) (len cap : Nat) (i h : Int) (w : World) (hB : B <= b) (hlen : len <= 4096) (D : qz1f .i64 w b a len cap i h) (C : qz15 B w a len) :
  Calls Try.prog 93 Q4d w fun e w' => ∃ r i' h', e = .returned (.int .i64 r) /\ qz1f .i64 w' b a len cap i' h' /\ qz15 B w' a len /\ Only b w w' := by
 have blk := D.blk
 go_enter Try.func93, Try.ntmps93
 go_wp2_with fail
 refine (qzw B b a len cap i h 10 _ hB hlen (D.alloc _) (C.alloc (by omega) _) (by omega) (by omega)).mono ?_
 rintro e w1 ⟨r, i1, h1, rfl, r0, r1, D1, C1, O1⟩
 have I1 := (qz55 w [-1, 0, 1, 2147483648, -2147483648, 1099511627776, 4611686018427387904, -4611686018427387904, 9223372036854775807, -9223372036854775808] _ 2 rfl).only O1 (by omega)
 obtain ⟨rN, rfl⟩ := Int.eq_ofNat_of_zero_le r0
 obtain ⟨v, hv⟩ : ∃ v, w1.cell? ⟨Q67, rN, none⟩ = some (.int .i64 v) := ⟨_, I1.2 rN (by simp; omega)⟩
 clear I1
 have r2 : (rN : Int) < 10 := r1
 go_wp2
 go_ret
 exact ⟨v, i1, h1, rfl, D1, C1, ((Only.refl _ _).alloc _).trans O1⟩
theorem qz7o (B b : Nat) (a : Option Addr) (len cap : Nat) (i h m : Int) (w : World) (hB : B <= b) (hlen : len <= 4096) (D : qz1f .i64 w b a len cap i h) (C : qz15 B w a len) (hm1 : 0 <= m) (hm2 : m <= 2000000) :
  Calls Try.prog 74 #[.pointer (some ⟨b, 0, none⟩), .int .i64 m] w fun e w' => ∃ r i' h', e = .returned (.int .i64 r) /\ qz1f .i64 w' b a len cap i' h' /\ qz15 B w' a len /\ Only b w w' := by
 go_enter Try.func74, Try.ntmps74
 go_wp2_with fail
 refine (qz47 B b a len cap i h 10 _ hB hlen D C (by omega) (by omega)).mono ?_
 rintro e w1 ⟨r, i1, h1, rfl, D1, C1, O1⟩
 cases r
 ·go_wp2_with fail
  refine (qz47 B b a len cap i1 h1 2 _ hB hlen D1 C1 (by omega) (by omega)).mono ?_
  rintro e w2 ⟨r, i2, h2, rfl, D2, C2, O2⟩
  cases r
  ·go_wp2_with fail
   refine (qzw B b a len cap i2 h2 _ _ hB hlen D2 C2 (by omega) (by omega)).mono ?_
   rintro e w3 ⟨r, i3, h3, rfl, r0, r1, D3, C3, O3⟩
   go_wp2
   go_ret
   exact ⟨_, i3, h3, rfl, D3, C3, (O1.trans O2).trans O3⟩
  ·go_wp2_with fail
   refine (qza7 _ _ _).mono ?_
   rintro e w3 ⟨rfl, rfl⟩
   have hq : 0 <= min m 4 /\ min m 4 <= 4 := by omega
   generalize min m 4 = q at *
   obtain ⟨q0, q1⟩ := hq
   go_wp2_with fail
   refine (qzw B b a len cap i2 h2 _ _ hB hlen D2 C2 (by omega) (by omega)).mono ?_
   rintro e w3 ⟨r, i3, h3, rfl, r0, r1, D3, C3, O3⟩
   go_wp2
   go_ret
   exact ⟨_, i3, h3, rfl, D3, C3, (O1.trans O2).trans O3⟩
 ·go_wp2_with fail
  refine (qzcy B b a len cap i1 h1 _ hB hlen D1 C1).mono ?_
  rintro e w2 ⟨z, i2, h2, rfl, D2, C2, O2⟩
  go_wp2_with fail
  refine (qzw B b a len cap i2 h2 4 _ hB hlen (D2.alloc _) (C2.alloc (by have := D2.blk; omega) _) (by omega) (by omega)).mono ?_
  rintro e w3 ⟨r, i3, h3, rfl, r0, r1, D3, C3, O3⟩
  have I3 := (qz55 w2 [-1, m, m + 1, z] _ 2 rfl).only O3 (by have := D2.blk; omega)
  obtain ⟨rN, rfl⟩ := Int.eq_ofNat_of_zero_le r0
  obtain ⟨v, hv⟩ : ∃ v, w3.cell? ⟨Q6v, rN, none⟩ = some (.int .i64 v) := ⟨_, I3.2 rN (by simp; omega)⟩
  clear I3
  go_wp2
  go_ret
  exact ⟨v, i3, h3, rfl, D3, C3, (O1.trans O2).trans (((Only.refl _ _).alloc _).trans O3)⟩
structure qz4x (w : World) (b : Nat) (x y z u : Int) : Prop where
 c0 : w.cell? ⟨b, 0, none⟩ = some (.int .i64 x)
 c1 : w.cell? ⟨b, 1, none⟩ = some (.int .i64 y)
 c2 : w.cell? ⟨b, 2, none⟩ = some (.int .i64 z)
 c3 : w.cell? ⟨b, 3, none⟩ = some (.int .i64 u)
 f0 : w.frozen? ⟨b, 0, none⟩ = false
 f1 : w.frozen? ⟨b, 1, none⟩ = false
 f2 : w.frozen? ⟨b, 2, none⟩ = false
 f3 : w.frozen? ⟨b, 3, none⟩ = false
 blk : b < Q67
theorem qz4k (w : World) (x y z u : Int) (T : TypeId) : qz4x (w.alloc (.cells Q08 T)) Q67 x y z u := by
 refine ⟨?_, ?_, ?_, ?_, ?_, ?_, ?_, ?_, by simp⟩ <;> simp
theorem qz4x.only {w w' : World} {b c : Nat} {x y z u : Int} (P : qz4x w b x y z u) (hO : Only c w w') (hne : b ≠ c) : qz4x w' b x y z u :=
 ⟨(hO.cell (p := ⟨b, 0, none⟩) P.blk hne).trans P.c0, (hO.cell (p := ⟨b, 1, none⟩) P.blk hne).trans P.c1, (hO.cell (p := ⟨b, 2, none⟩) P.blk hne).trans P.c2, (hO.cell (p := ⟨b, 3, none⟩) P.blk hne).trans P.c3,
  (hO.frozen (p := ⟨b, 0, none⟩) P.blk hne).trans P.f0, (hO.frozen (p := ⟨b, 1, none⟩) P.blk hne).trans P.f1, (hO.frozen (p := ⟨b, 2, none⟩) P.blk hne).trans P.f2, (hO.frozen (p := ⟨b, 3, none⟩) P.blk hne).trans P.f3, Q6l P.blk hO.size⟩
theorem qz4x.alloc {w : World} {b : Nat} {x y z u : Int} (P : qz4x w b x y z u) (o : Obj) : qz4x (w.alloc o) b x y z u :=
 P.only ((Only.refl Q67 w).alloc o) (by have := P.blk; omega)
theorem qz4x.set2 {w : World} {b : Nat} {x y z u : Int} (P : qz4x w b x y z u) (q : Int) : qz4x (w.setCell ⟨b, 2, none⟩ (.int .i64 q)) b x y q u :=
 ⟨(World.cell?_setCell_other _ _ _ _ (by simp)).trans P.c0, (World.cell?_setCell_other _ _ _ _ (by simp)).trans P.c1, World.cell?_setCell_same _ _ _ P.c2, (World.cell?_setCell_other _ _ _ _ (by simp)).trans P.c3, (World.frozen?_setCell _ _ _ _).trans P.f0, (World.frozen?_setCell _ _ _ _).trans P.f1, (World.frozen?_setCell _ _ _ _).trans P.f2, (World.frozen?_setCell _ _ _ _).trans P.f3, by rw [World.size_setCell]; exact P.blk⟩
theorem qz5z (w : World) (c : Nat) (x y z u : Int) : Only c w ((((w.setCell ⟨c, 0, none⟩ (.int .i64 x)).setCell ⟨c, 1, none⟩ (.int .i64 y)).setCell ⟨c, 2, none⟩ (.int .i64 z)).setCell ⟨c, 3, none⟩ (.int .i64 u)) :=
 ((((Only.refl c w).setCell (Or.inl rfl) _).setCell (Or.inl rfl) _).setCell (Or.inl rfl) _).setCell (Or.inl rfl) _
theorem Only.set4 {b c : Nat} {x w : World} (h : Only b x w) (hc : x.heap.size <= c) (p q r s : Int) : Only b x ((((w.setCell ⟨c, 0, none⟩ (.int .i64 p)).setCell ⟨c, 1, none⟩ (.int .i64 q)).setCell ⟨c, 2, none⟩ (.int .i64 r)).setCell ⟨c, 3, none⟩ (.int .i64 s)) :=
 (((h.setCell (Or.inr hc) _).setCell (Or.inr hc) _).setCell (Or.inr hc) _).setCell (Or.inr hc) _
theorem qz8d (B b : Nat) (a : Option Addr) (len cap : Nat) (i h : Int) (w : World) (hB : B <= b) (hlen : len <= 4096) (D : qz1f .i64 w b a len cap i h) (C : qz15 B w a len) :
  Calls Try.prog 89 Q4d w fun e w' => ∃ x y z u i' h', qz38 x y z u = true /\ e = .returned (.agg Q08) /\ qz1f .i64 w' b a len cap i' h' /\ qz15 B w' a len /\ Only b w w' := by
 have blk := D.blk
 go_enter Try.func89, Try.ntmps89
 go_wp2_with fail
 have R0 := qz4k w 0 0 0 0 25
 refine (qzw B b a len cap i h 4 _ hB hlen (D.alloc _) (C.alloc (by omega) _) (by omega) (by omega)).mono ?_
 rintro e w1 ⟨r1, i1, h1, rfl, r10, r11, D1, C1, O1⟩
 have R1 := R0.only O1 (by omega)
 go_wp2_with fail
 refine (qzw B b a len cap i1 h1 12 _ hB hlen D1 C1 (by omega) (by omega)).mono ?_
 rintro e w2 ⟨r2, i2, h2, rfl, r20, r21, D2, C2, O2⟩
 have R2 := R1.only O2 (by omega)
 go_wp2_with fail
 refine (qzw B b a len cap i2 h2 60 _ hB hlen D2 C2 (by omega) (by omega)).mono ?_
 rintro e w3 ⟨r3, i3, h3, rfl, r30, r31, D3, C3, O3⟩
 have R3 := R2.only O3 (by omega)
 go_wp2_with fail
 refine (qzw B b a len cap i3 h3 4 _ hB hlen D3 C3 (by omega) (by omega)).mono ?_
 rintro e w4 ⟨r4, i4, h4, rfl, r40, r41, D4, C4, O4⟩
 have R4 := R3.only O4 (by omega)
 have b4 := D4.blk
 have O04 := ((((Only.refl b w).alloc (Obj.cells Q1m 25)).trans O1).trans O2).trans (O3.trans O4)
 clear R0 R1 R2 R3 D1 D2 D3 C1 C2 C3 O1 O2 O3 O4
 go_wp2_with fail
 have P5 := qz4k w4 (1 + r1) (2 + r2) (10 + r3) (1 + r4) 25
 refine (qz47 B b a len cap i4 h4 8 _ hB hlen (D4.alloc _) (C4.alloc (by omega) _) (by omega) (by omega)).mono ?_
 rintro e w5 ⟨r5, i5, h5, rfl, D5, C5, O5⟩
 have P6 := P5.only O5 (by omega)
 have R5 := (R4.alloc _).only O5 (by omega)
 have O05 := (O04.alloc _).trans O5
 have hz4 := R4.blk
 have hz5 := P6.blk
 clear P5 R4 O5 D4 C4 O04
 cases r5
 ·obtain ⟨c0, c1, c2, c3, _, _, _, _, _⟩ := P6
  obtain ⟨k0, k1, k2, k3, f0, f1, f2, f3, _⟩ := R5
  go_wp2
  exact bodyPost_ret (v := .agg #[.int .i64 (1 + r1), .int .i64 (2 + r2), .int .i64 (10 + r3), .int .i64 (1 + r4)]) (by simp [results, Try.results89, go_sem, k0, k1, k2, k3]) rfl ⟨_, _, _, _, i5, h5, (qz1r _ _ _ _).2 (by omega), rfl, D5.only (qz5z _ _ _ _ _ _) (by omega), C5.below ((qz5z _ _ _ _ _ _).below (by omega) (by omega)), O05.set4 (by omega) _ _ _ _⟩
 ·go_wp2_with fail
  refine (qzw B b a len cap i5 h5 12 _ hB hlen D5 C5 (by omega) (by omega)).mono ?_
  rintro e w6 ⟨r6, i6, h6, rfl, r60, r61, D6, C6, O6⟩
  have P7 := P6.only O6 (by omega)
  have R6 := R5.only O6 (by omega)
  have O06 := O05.trans O6
  have hz6 := O6.size
  clear P6 R5 D5 C5 O6
  obtain ⟨c0, c1, c2, c3, _, _, g2, _, _⟩ := P7
  obtain ⟨k0, k1, k2, k3, f0, f1, f2, f3, _⟩ := R6
  go_wp2
  exact bodyPost_ret (v := .agg #[.int .i64 (1 + r1), .int .i64 (2 + r2), .int .i64 (1 + r6), .int .i64 (1 + r4)]) (by simp [results, Try.results89, go_sem, k0, k1, k2, k3]) rfl ⟨_, _, _, _, i6, h6, (qz1r _ _ _ _).2 (by omega), rfl, (D6.only ((Only.refl w4.heap.size w6).setCell (Or.inl rfl) _) (by omega)).only (qz5z _ _ _ _ _ _) (by omega), (C6.below ((Q6c _ _).setCell (by simp; omega) _)).below ((qz5z _ _ _ _ _ _).below (by omega) (by simp; omega)), (O06.setCell (Or.inr (by simp; omega)) _).set4 (by omega) _ _ _ _⟩
end
section
open Go.RowKit
theorem qzf (w : World) (C : Array Value) (T : TypeId) (n : Nat) (h : n <= C.size) : (w.alloc (.cells C T)).there Q67 0 n := by
 intro j hj
 rw [Nat.zero_add, World.cell?_alloc_new]
 refine ⟨?_, by simp⟩
 rw [Array.getElem?_eq_getElem (by omega)]
 rfl
theorem qz7 (w : World) (cs : List Value) (T : TypeId) : (w.alloc (.cells cs.toArray T)).rangeAt Q67 0 cs := by
 intro j v hv
 rw [Nat.zero_add, World.cell?_alloc_new]
 simpa using hv
theorem qz0 {w w' : World} {B b o : Nat} {cs : List Value} (h : w.rangeAt b o cs) (hb : Below B w w') (hB : b < B) : w'.rangeAt b o cs :=
 fun j v hv => (hb.cell (p := ⟨b, o + j, none⟩) hB).trans (h j v hv)
theorem qz5 {w w' : World} {B b o n : Nat} (h : w.there b o n) (hb : Below B w w') (hB : b < B) : w'.there b o n :=
 fun j hj => by rw [hb.cell (p := ⟨b, o + j, none⟩) hB, hb.frozen (p := ⟨b, o + j, none⟩) hB]; exact h j hj
theorem qzr (b : Nat) : ∀ (vs : List Value) (o : Nat) (w : World), (w.setCells b o vs).heap.size = Q67
 | [], _, _ => rfl
 | v :: vs, o, w => by
  show ((w.setCell ⟨b, o, none⟩ v).setCells b (o + 1) vs).heap.size = _
  rw [qzr b vs (o + 1), World.size_setCell]
theorem Below.setCells {B b : Nat} {a : World} (hB : B <= b) : ∀ (vs : List Value) (o : Nat) (w : World), Below B a w -> Below B a (w.setCells b o vs)
 | [], _, _, h => h
 | v :: vs, o, w, h => Below.setCells hB vs (o + 1) (w.setCell ⟨b, o, none⟩ v) (h.setCell hB v)
theorem qz2 {w : World} {b o n : Nat} (h : w.there b o n) (a : Addr) (v : Value) : (w.setCell a v).there b o n := by
 intro j hj
 refine ⟨?_, (World.frozen?_setCell _ _ _ _).trans (h j hj).2⟩
 by_cases e : a = ⟨b, o + j, none⟩
 ·subst e
  obtain ⟨u, hu⟩ := Option.isSome_iff_exists.1 (h j hj).1
  rw [World.cell?_setCell_same _ _ _ hu]
  rfl
 ·rw [World.cell?_setCell_other _ _ _ _ e]
  exact (h j hj).1
theorem qz3 {P : Program} {fn : Func} {p : Tmp} {ty : TypeId} (h : fn.results = #[.cell p ty]) (tmps : Array Value) (w : World) (b o : Nat) (hp : tmps.getD p undef = .pointer (some ⟨b, o, none⟩))
  (cs : List Value) (d : TypeDesc) (hc : w.rangeAt b o cs) (hu : P.underlying ty = some d) (hd : d.isRow = true) (hi : (P.info? ty).map (·.size) = some cs.length) : (results fn tmps).run P w = .ok (.agg cs.toArray) w := by
 have hl := run_loadVar_mid (P := P) w b o ty cs d hc hu hd hi
 rw [Array.getD_eq_getD_getElem?] at hp
 simp [results, h, hp, asAddr, hl]
theorem qzm {P : Program} {fn : Func} {p q : Tmp} {ty : TypeId} (h : fn.results = #[.cell p ty, .tmp q]) (tmps : Array Value) (w : World) (b o : Nat) (hp : tmps.getD p undef = .pointer (some ⟨b, o, none⟩))
  (cs : List Value) (d : TypeDesc) (hc : w.rangeAt b o cs) (hu : P.underlying ty = some d) (hd : d.isRow = true) (hi : (P.info? ty).map (·.size) = some cs.length) : (results fn tmps).run P w = .ok (.tuple #[.agg cs.toArray, tmps.getD q undef]) w := by
 have hl := run_loadVar_mid (P := P) w b o ty cs d hc hu hd hi
 rw [Array.getD_eq_getD_getElem?] at hp
 simp [results, h, hp, asAddr, Result.andThen, hl]
end
section
attribute [local go_sem ↓] Go.wp_at_zero Go.wp_at_succ
structure Nd where
 key : Int
 value : Int
 head : Int
structure Vr where
 next : Int
 gone : Bool
 stamp : Int
 prev : Int
 kind : Int
structure Ar where
 camera : Int
 slots : List Int
 guides : List Int
 nodes : List Nd
 vers : List Vr
def intC (n : Int) : List Value := [.int .i64 n]
def ndC (x : Nd) : List Value := [.int .i64 x.key, .int .i64 x.value, .int .i64 x.head]
def vrC (x : Vr) : List Value := [.int .i64 x.next, .bool x.gone, .int .i64 x.stamp, .int .i64 x.prev, .int .i64 x.kind]
def qze {α : Type} (f : α -> List Value) (l : List α) : List Value := l.flatMap f
theorem qz1o {α : Type} {f : α -> List Value} {sz : Nat} (hf : ∀ x, (f x).length = sz) (l : List α) : (qze f l).length = l.length * sz := by
 induction l with
 | nil => simp [qze]
 | cons x l ih => simp only [qze, List.flatMap_cons, List.length_append, List.length_cons] at ih ⊢; rw [ih, hf, Nat.add_mul]; omega
theorem qz1v {α : Type} (f : α -> List Value) (l : List α) (x : α) : qze f (l ++ [x]) = qze f l ++ f x := by simp [qze]
theorem qzv {α : Type} {f : α -> List Value} {sz : Nat} (hf : ∀ x, (f x).length = sz) : ∀ (l : List α) (i : Nat) (hi : i < l.length) (j : Nat), j < sz -> (qze f l)[i * sz + j]? = (f l[i])[j]?
 | x :: l, 0, _, j, hj => by
  simp only [qze, List.flatMap_cons, Nat.zero_mul, Nat.zero_add, List.getElem_cons_zero]
  rw [List.getElem?_append_left (by rw [hf]; exact hj)]
 | x :: l, i + 1, hi, j, hj => by
  have ih := qzv hf l i (by simpa using hi) j hj
  simp only [qze, List.flatMap_cons, List.getElem_cons_succ] at ih ⊢
  rw [List.getElem?_append_right (by rw [hf, Nat.add_mul]; omega), hf, <- ih]
  congr 1
  rw [Nat.add_mul]
  omega
def qzs (B : Nat) (w : World) (v : Value) (len : Nat) (cs : List Value) : Prop :=
 ∃ a cap, v = .slice a len cap /\ (len = 0 ∨ ∃ bb off, a = some ⟨bb, off, none⟩ /\ bb < B /\ w.rangeAt bb off cs)
theorem qzs.below {B : Nat} {w w' : World} {v : Value} {len : Nat} {cs : List Value} (h : qzs B w v len cs) (hb : Below B w w') : qzs B w' v len cs := by
 obtain ⟨a, cap, rfl, h⟩ := h
 refine ⟨a, cap, rfl, ?_⟩
 rcases h with h | ⟨bb, off, rfl, h1, h2⟩
 ·exact Or.inl h
 ·exact Or.inr ⟨bb, off, rfl, h1, qz0 h2 hb h1⟩
theorem qzs.weaken {B B' : Nat} {w : World} {v : Value} {len : Nat} {cs : List Value} (h : qzs B w v len cs) (hB : B <= B') : qzs B' w v len cs := by
 obtain ⟨a, cap, rfl, h⟩ := h
 refine ⟨a, cap, rfl, ?_⟩
 rcases h with h | ⟨bb, off, rfl, h1, h2⟩
 ·exact Or.inl h
 ·exact Or.inr ⟨bb, off, rfl, by omega, h2⟩
theorem qz98 {w : World} {b o : Nat} {cs : List Value} (R : w.rangeAt b o cs) (h : (w.cell? ⟨b, o + cs.length, none⟩).isSome = true) (v : Value) : (w.setCell ⟨b, o + cs.length, none⟩ v).rangeAt b o (cs ++ [v]) := by
 intro j u hj
 by_cases e : j = cs.length
 ·subst e
  simp at hj
  subst hj
  obtain ⟨x, hx⟩ := Option.isSome_iff_exists.1 h
  exact World.cell?_setCell_same _ _ _ hx
 ·have hlt : j < cs.length := by
   rcases Nat.lt_or_ge j (cs ++ [v]).length with hl | hl
   ·simp at hl; omega
   ·rw [List.getElem?_eq_none hl] at hj; cases hj
  have hne : (⟨b, o + cs.length, none⟩ : Addr) ≠ ⟨b, o + j, none⟩ := by
   intro h'
   have := congrArg Addr.off h'
   simp at this
   omega
  refine (World.cell?_setCell_other _ _ _ _ hne).trans (R j u ?_)
  rw [List.getElem?_append_left hlt] at hj
  exact hj
theorem qzi {α : Type} {f : α -> List Value} {sz : Nat} (hf : ∀ x, (f x).length = sz) {w : World} {b o : Nat} {l : List α} (R : w.rangeAt b o (qze f l)) (i : Nat) (hi : i < l.length) : w.rangeAt b (o + i * sz) (f l[i]) := by
 intro j v hj
 have hlt : j < sz := by
  rcases Nat.lt_or_ge j (f l[i]).length with h | h
  ·rw [hf] at h; exact h
  ·rw [List.getElem?_eq_none h] at hj; cases hj
 have := R (i * sz + j) v (by rw [qzv hf l i hi j hlt]; exact hj)
 rw [Nat.add_assoc]
 exact this
theorem qz67 {w : World} {b o : Nat} {cs vs : List Value} (R : w.rangeAt b o cs) (T : w.there b (o + cs.length) vs.length) : (w.setCells b (o + cs.length) vs).rangeAt b o (cs ++ vs) := by
 have h1 := Q6u R b (o + cs.length) vs (Or.inr (Or.inl (Q6f _)))
 have h2 := Q6d w b (o + cs.length) vs T
 intro j v hj
 rcases Nat.lt_or_ge j cs.length with h | h
 ·rw [List.getElem?_append_left h] at hj
  exact h1 j v hj
 ·rw [List.getElem?_append_right h] at hj
  have := h2 (j - cs.length) v hj
  rw [show o + cs.length + (j - cs.length) = o + j by omega] at this
  exact this
theorem qz14 {w : World} {b o n : Nat} (T : w.there b o n) (k m : Nat) (h : k + m <= n) : w.there b (o + k) m := by
 intro j hj
 have := T (k + j) (by omega)
 rw [<- Nat.add_assoc] at this
 exact this
theorem qzf1 : (Try.prog.info? 2).map (fun i => (i.zero, i.size, i.bytes)) = some (some (.int .i64 0), 1, 8) := by kernel_rfl
theorem qz8v : (Try.prog.info? 78).map (fun i => (i.zero, i.size, i.bytes)) = some (some (.agg #[.int .i64 0, .int .i64 0, .int .i64 0]), 3, 24) := by kernel_rfl
theorem qzdr (x : Nd) : (Try.prog.info? 78).map (fun i => i.size) = some (ndC x).toArray.size := by
 show _ = some 3
 kernel_rfl
theorem qzcx (x : Nd) : (Try.prog.info? 78).map (fun i => i.size) = some (ndC x).length := by
 show _ = some 3
 kernel_rfl
theorem qz9p : (Try.prog.info? 54).map (fun i => (i.zero, i.size, i.bytes)) = some (some (.agg #[.int .i64 0, .bool false, .int .i64 0, .int .i64 0, .int .i64 0]), 5, 40) := by kernel_rfl
theorem qze3 (x : Vr) : (Try.prog.info? 54).map (fun i => i.size) = some (vrC x).toArray.size := by
 show _ = some 5
 kernel_rfl
theorem qzdq (x : Vr) : (Try.prog.info? 54).map (fun i => i.size) = some (vrC x).length := by
 show _ = some 5
 kernel_rfl
structure qz1i (B : Nat) (w : World) (s g n r : Value) (A : Ar) : Prop where
 s : qzs B w s Q6o (qze intC A.slots)
 g : qzs B w g Q6p (qze intC A.guides)
 n : qzs B w n Q69 (qze ndC A.nodes)
 r : qzs B w r Q6a (qze vrC A.vers)
def Ar.size (A : Ar) : Nat := Q6o + Q6p + Q69 + Q6a
theorem qz1i.below {B : Nat} {w w' : World} {s g n r : Value} {A : Ar} (I : qz1i B w s g n r A) (hb : Below B w w') : qz1i B w' s g n r A :=
 ⟨I.s.below hb, I.g.below hb, I.n.below hb, I.r.below hb⟩
theorem qz1i.weaken {B B' : Nat} {w : World} {s g n r : Value} {A : Ar} (I : qz1i B w s g n r A) (hB : B <= B') : qz1i B' w s g n r A :=
 ⟨I.s.weaken hB, I.g.weaken hB, I.n.weaken hB, I.r.weaken hB⟩
theorem qza {w : World} {b : Nat} {cs : List Value} (R : w.rangeAt b 0 cs) (k : Nat) (hk : k < cs.length) (v : Value) : (w.setCell ⟨b, k, none⟩ v).rangeAt b 0 (cs.set k v) := by
 intro j u hj
 rw [Nat.zero_add]
 by_cases e : k = j
 ·subst e
  rw [List.getElem?_set_self hk] at hj
  cases hj
  have := R k cs[k] (List.getElem?_eq_getElem hk)
  rw [Nat.zero_add] at this
  exact World.cell?_setCell_same _ _ _ this
 ·rw [List.getElem?_set_ne e] at hj
  have := R j u hj
  rw [Nat.zero_add] at this
  exact (World.cell?_setCell_other _ _ _ _ (by simp)).trans this
theorem qz3g {w : World} {b o : Nat} {cs : List Value} (R : w.rangeAt b o cs) {a : Addr} (h : a.block ≠ b) (v : Value) : (w.setCell a v).rangeAt b o cs := by
 intro j u hj
 refine (World.cell?_setCell_other _ _ _ _ ?_).trans (R j u hj)
 intro e
 exact h (by rw [e])
theorem row5 {w : World} {b : Nat} {v0 v1 v2 v3 v4 : Value} (R : w.rangeAt b 0 [v0, v1, v2, v3, v4]) : w.cell? ⟨b, 0, none⟩ = some v0 /\ w.cell? ⟨b, 1, none⟩ = some v1 /\ w.cell? ⟨b, 2, none⟩ = some v2 /\ w.cell? ⟨b, 3, none⟩ = some v3 /\ w.cell? ⟨b, 4, none⟩ = some v4 := by
 refine ⟨?_, ?_, ?_, ?_, ?_⟩
 ·simpa using R 0 v0 rfl
 ·simpa using R 1 v1 rfl
 ·simpa using R 2 v2 rfl
 ·simpa using R 3 v3 rfl
 ·simpa using R 4 v4 rfl
end
section
def qz1a (xN uN : Nat) : Ar := ⟨0, List.replicate xN (-1), List.replicate uN 0, [⟨-1, 0, 0⟩], [⟨-1, false, 0, -1, 0⟩]⟩
theorem qzs.of {B : Nat} {w : World} {b len n cap : Nat} {cs : List Value} (hl : n = len) (hb : b < B) (R : w.rangeAt b 0 cs) : qzs B w (.slice (some ⟨b, 0, none⟩) n cap) len cs := by
 subst hl
 exact ⟨_, _, rfl, Or.inr ⟨b, 0, rfl, hb, R⟩⟩
theorem qz31 (n : Nat) (v : Int) : qze intC (List.replicate n v) = List.replicate n (.int .i64 v) := by
 induction n with
 | zero => rfl
 | succ n ih => simp only [List.replicate_succ, qze, List.flatMap_cons] at ih ⊢; rw [ih]; rfl
theorem qz9o {w : World} {base : Nat} {e : TypeId} {g n cap : Nat} {xs : List Value} (h : w.ownsRow base e 1 Q3v n xs) (hn : 0 < n) : g < Q67 /\ w.rangeAt g 0 xs := by
 rcases h.2 with ⟨h0, _⟩ | ⟨g', cap', cur, hv, hg, hh, hnc, _, hs, ht⟩
 ·cases h0
 ·injection hv with hv _ _
  injection hv with hv
  injection hv with hv _ _
  subst hv
  have hlt : g < Q67 := by
   rcases Nat.lt_or_ge g Q67 with hl | hl
   ·exact hl
   ·rw [Array.getElem?_eq_none hl] at hh; cases hh
  refine ⟨hlt, ?_⟩
  have R := World.rangeAt_of_block hh 0 n
  have e1 : (cur.extract 0 (0 + n)).toList = xs := by rw [<- ht]; simp
  rw [e1] at R
  exact R
theorem qz6b : (Try.prog.info? 2).map (fun i => (i.zero, i.size, i.bytes)) = some (some (.int .i64 0), 1, 8) := by kernel_rfl
theorem qz1p : (Try.prog.info? 30).map (fun i => i.size) = some 5 := by kernel_rfl
theorem qz19 {w : World} {base : Nat} {e : TypeId} {size : Nat} {v : Value} {n : Nat} {xs : List Value} (h : w.ownsRow base e size v n xs) {j : Nat} (hj : v.ownBlock = some j) : base <= j := by
 rcases h.2 with ⟨rfl, _⟩ | ⟨g, cap, cur, rfl, hg, _⟩
 ·simp [Value.ownBlock] at hj
 ·simp [Value.ownBlock] at hj
  omega
theorem qzx {w : World} {base : Nat} {e : TypeId} {size : Nat} {v : Value} {n : Nat} {xs : List Value} (h : w.ownsRow base e size v n xs) (hn : 0 < n) : ∃ g cap, v = .slice (some ⟨g, 0, none⟩) n cap := by
 rcases h.2 with ⟨rfl, h0⟩ | ⟨g, cap, cur, rfl, _⟩
 ·omega
 ·exact ⟨g, cap, rfl⟩
def qz56 (w1 : World) (uN : Nat) : World :=
 (((w1.alloc (Obj.cells (madeCells #[Value.int IntKind.i64 0] uN) 2)).alloc (Obj.cells #[Value.int IntKind.i64 (-1), Value.int IntKind.i64 0, Value.int IntKind.i64 0] 78)).alloc
  (Obj.cells #[Value.int IntKind.i64 (-1), Value.bool false, Value.int IntKind.i64 0, Value.int IntKind.i64 (-1), Value.int IntKind.i64 0] 54)).alloc
   (Obj.cells #[Value.int IntKind.i64 0, Value.slice none 0 0, Value.slice (some ⟨Q6j, 0, none⟩) uN uN, Value.slice (some ⟨Q6j + 1, 0, none⟩) 1 1, Value.slice (some ⟨Q6j + 1 + 1, 0, none⟩) 1 1] 30)
theorem qzas (w1 : World) (uN : Nat) : (qz56 w1 uN).heap.size = Q6j + 4 := by simp [qz56]
theorem qz79 (w1 : World) (uN : Nat) : (qz56 w1 uN).rangeAt Q6j 0 Q4l /\ (qz56 w1 uN).rangeAt (Q6j + 1) 0 (ndC ⟨-1, 0, 0⟩) /\ (qz56 w1 uN).rangeAt (Q6j + 1 + 1) 0 (vrC ⟨-1, false, 0, -1, 0⟩) := by
 have e : madeCells #[Value.int IntKind.i64 0] uN = (Q4l).toArray := by
  apply Array.toList_inj.1
  rw [toList_madeCells_one, qz31]
 unfold qz56
 rw [e]
 refine ⟨?_, ?_, ?_⟩
 ·exact Q6w (Q6w (Q6w (qz7 w1 _ _) _) _) _
 ·have h := qz7 (w1.alloc (Obj.cells (Q4l).toArray 2)) (ndC ⟨-1, 0, 0⟩) 78
  simp only [World.size_alloc] at h
  exact Q6w (Q6w h _) _
 ·have h := qz7 ((w1.alloc (Obj.cells (Q4l).toArray 2)).alloc (Obj.cells (ndC ⟨-1, 0, 0⟩).toArray 78)) (vrC ⟨-1, false, 0, -1, 0⟩) 54
  simp only [World.size_alloc] at h
  exact Q6w h _
structure qz5s (w1 : World) (uN : Nat) (wr : World) (k : Nat) (s : Value) : Prop where
 a0 : wr.cell? ⟨Q6j + 1 + 1 + 1, 0, none⟩ = some (.int .i64 0)
 a1 : wr.cell? ⟨Q6j + 1 + 1 + 1, 1, none⟩ = some s
 a2 : wr.cell? ⟨Q6j + 1 + 1 + 1, 2, none⟩ = some (.slice (some ⟨Q6j, 0, none⟩) uN uN)
 a3 : wr.cell? ⟨Q6j + 1 + 1 + 1, 3, none⟩ = some (.slice (some ⟨Q6j + 1, 0, none⟩) 1 1)
 a4 : wr.cell? ⟨Q6j + 1 + 1 + 1, 4, none⟩ = some (.slice (some ⟨Q6j + 1 + 1, 0, none⟩) 1 1)
 f1 : wr.frozen? ⟨Q6j + 1 + 1 + 1, 1, none⟩ = false
 own : wr.ownsRow (Q6j + 4) 2 1 s k (List.replicate k (.int .i64 (-1)))
 bel : Below (Q6j + 3) (qz56 w1 uN) wr
theorem qz5s.blk {w1 : World} {uN : Nat} {wr : World} {k : Nat} {s : Value} (D : qz5s w1 uN wr k s) : Q6j + 4 <= wr.heap.size := by
 have := D.bel.size
 rw [qzas] at this
 exact this
theorem qz5q (w1 : World) (uN : Nat) : qz5s w1 uN (qz56 w1 uN) 0 (.slice none 0 0) := by
 have h := (qzf (((w1.alloc (Obj.cells (madeCells #[Value.int IntKind.i64 0] uN) 2)).alloc (Obj.cells #[Value.int IntKind.i64 (-1), Value.int IntKind.i64 0, Value.int IntKind.i64 0] 78)).alloc
  (Obj.cells #[Value.int IntKind.i64 (-1), Value.bool false, Value.int IntKind.i64 0, Value.int IntKind.i64 (-1), Value.int IntKind.i64 0] 54))
   #[Value.int IntKind.i64 0, Value.slice none 0 0, Value.slice (some ⟨Q6j, 0, none⟩) uN uN, Value.slice (some ⟨Q6j + 1, 0, none⟩) 1 1, Value.slice (some ⟨Q6j + 1 + 1, 0, none⟩) 1 1] 30 5 (by simp) 1 (by omega)).2
 simp only [World.size_alloc, Nat.zero_add] at h
 refine ⟨?_, ?_, ?_, ?_, ?_, h, World.ownsRow_nil _ _ _ _, Q6c _ _⟩ <;> simp [qz56, World.cell?_alloc_at]
theorem qz5s.step {w1 : World} {uN : Nat} {wr : World} {k : Nat} {s : Value} (D : qz5s w1 uN wr k s) {o : Obj} {w2 : World} {v' : Value}
  (ho : w2.ownsRow (Q6j + 4) 2 1 v' (k + 1) (List.replicate k (.int .i64 (-1)) ++ [.int .i64 (-1)])) (hg : (wr.alloc o).grownBy w2 s.ownBlock) :
  qz5s w1 uN (w2.setCell ⟨Q6j + 1 + 1 + 1, 1, none⟩ v') (k + 1) v' := by
 have hz := D.blk
 have b2 : Below (Q6j + 4) wr w2 := ((Q6c _ wr).alloc hz o).grown hg (by simp; omega) (fun j e => qz19 D.own e)
 have hc : ∀ j, w2.cell? ⟨Q6j + 1 + 1 + 1, j, none⟩ = wr.cell? ⟨Q6j + 1 + 1 + 1, j, none⟩ := fun j => b2.cell (p := ⟨Q6j + 1 + 1 + 1, j, none⟩) (by simp)
 have hf := b2.frozen (p := ⟨Q6j + 1 + 1 + 1, 1, none⟩) (by simp)
 refine ⟨?_, World.cell?_setCell_same _ _ _ ((hc 1).trans D.a1), ?_, ?_, ?_, (World.frozen?_setCell _ _ _ _).trans (hf.trans D.f1), ?_, ?_⟩
 ·exact (World.cell?_setCell_other _ _ _ _ (by simp)).trans ((hc 0).trans D.a0)
 ·exact (World.cell?_setCell_other _ _ _ _ (by simp)).trans ((hc 2).trans D.a2)
 ·exact (World.cell?_setCell_other _ _ _ _ (by simp)).trans ((hc 3).trans D.a3)
 ·exact (World.cell?_setCell_other _ _ _ _ (by simp)).trans ((hc 4).trans D.a4)
 ·rw [List.replicate_succ']
  exact ownsRow_setCell_below ho (by simp) _
 ·exact (D.bel.trans (b2.mono (by omega))).setCell (by simp) _
theorem qz7a (xN uN : Nat) (y z : Int) (w : World) (hp : qz38 xN y z uN = true) :
  Calls Try.prog 13 #[.agg Q1r] w fun e w' => ∃ sg sc gb nb vb, e = .returned (.agg Q4w) /\
   qz1i w'.heap.size w' Q2j Q2b Q2h Q2l (qz1a xN uN) /\ Below Q67 w w' := by
 have hr := (qz1r xN y z uN).1 hp
 obtain ⟨⟨hx1, hx2⟩, ⟨hy1, hy2⟩, ⟨hz1, hz2⟩, hu1, hu2⟩ := hr
 have hmk := fun w => run_make_row' (P := Try.prog) 26 2 (.int .i64 0) 8 Try.underlying26 qz6b rfl .i64 .i64 uN (by omega) (by omega) w
 have P0 := qz1h w xN y z uN 25
 go_enter Try.func13, Try.ntmps13
 go_wp2_with fail
 have R0 := qzf (w.alloc (Obj.cells Q1r 25)) Q0d 30 5 (by decide)
 refine (qz1k _ _ _ _ _).mono ?_
 rintro e w1 ⟨rfl, b1⟩
 have hz1 := b1.size
 simp at hz1
 have P1 := (P0.below ((Q6c _ _).alloc (Q6f _) _) (by simp)).below b1 (by simp; omega)
 have R1 := qz5 R0 b1 (by simp)
 have bb1 := (((Q6c Q67 w).alloc (Q6f _) (Obj.cells Q1r 25)).alloc (by simp) (Obj.cells Q0d 30)).trans (b1.mono (by simp; omega))
 have P1' := P1
 obtain ⟨c0, c1, c2, c3⟩ := P1'
 clear b1 P0 R0
 rw [hp]
 obtain ⟨i0, hi, hzr, hsz, hby⟩ := info_parts qz6b
 go_wp2
 go_loopw [4] (fun i wr => ∃ (k : Nat) (s : Value), k <= xN /\ i = .int .i64 k /\ qz5s w1 uN wr k s) (fun i _ => xN - (intOf i).toNat)
 case atStart => exact ⟨0, _, Nat.zero_le _, rfl, qz5q w1 uN⟩
 case round =>
  obtain ⟨k, s, hk, rfl, D⟩ := hrel
  have hz := D.blk
  have bW : Below Q6j w1 wr := (by
   have h1 : Below Q6j w1 (qz56 w1 uN) := ((((Q6c Q6j w1).alloc (Q6f _) _).alloc (by simp) _).alloc (by simp; omega) _).alloc (by simp; omega) _
   exact h1.trans (D.bel.mono (by omega)))
  obtain ⟨e0, e1, e2, e3⟩ := P1.below bW (by omega)
  by_cases hlt : k < xN
  ·have D0 := D
   obtain ⟨a0, a1, a2, a3, a4, f1, own, bel⟩ := D
   go_wp2_with (at_builtin; refine wpList_append_own _ rfl _ _ 26 rfl (Q6j + 4) 2 i0 (.int .i64 0) 1 8 Try.underlying26 hi hzr hsz hby rfl (by decide) _ _ _ rfl (own.alloc _) ⟨wr.heap.size, 0, none⟩ 1 1 [.int .i64 (-1)] rfl rfl ?c1 ?c2 ?c3 ?c4 ?c5 ?_)
   case c1 =>
    intro j u hj
    match j, hj with
    | 0, hj => simp at hj; subst hj; simp [Addr.add]
   case c2 => intro u hu; simp at hu; subst hu; rfl
   case c3 => unfold maxLen; omega
   case c4 => omega
   case c5 => simp; omega
   intro v' w2 hown' hgrow _
   have S := D0.step hown' hgrow
   have b2 : Below (Q6j + 4) wr w2 := ((Q6c _ wr).alloc hz _).grown hgrow (by simp; omega) (fun j e => qz19 own e)
   have g1 := (b2.cell (p := ⟨Q6j + 1 + 1 + 1, 1, none⟩) (by simp)).trans a1
   have g2 := (b2.frozen (p := ⟨Q6j + 1 + 1 + 1, 1, none⟩) (by simp)).trans f1
   obtain ⟨g, cap, hv⟩ := qzx hown' (by omega)
   rw [hv] at S ⊢
   clear own bel D0 hown' hgrow b2 bW
   go_wp2
   go_roundw
   case rel => exact ⟨k + 1, _, by omega, by go_num, S⟩
   case measure => simp [intOf]; omega
  ·obtain rfl : k = xN := by omega
   have D0 := D
   obtain ⟨a0, a1, a2, a3, a4, f1, own, bel⟩ := D
   have R2 := qz5 R1 bW (by simp; omega)
   simp only [World.size_alloc] at R2
   obtain ⟨g, cap, rfl⟩ := qzx own (by omega)
   obtain ⟨gz, gr⟩ := qz9o own (by omega)
   rw [<- qz31] at gr
   obtain ⟨B0, B1, B2⟩ := qz79 w1 uN
   have M0 := qz0 B0 bel (by omega)
   have M1 := qz0 B1 bel (by omega)
   have M2 := qz0 B2 bel (by omega)
   have gg := qz19 own rfl
   clear bel own B0 B1 B2
   go_wp2_with (refine wpList_store_mid rfl 30 (.tmp 2) (.tmp 28) rfl (w.heap.size + 1) 0 _ rfl rfl R2 qz1p (by simp [Value.oneCell']) ?_)
   refine bodyPost_ret (v := .agg Q4i) ?_ rfl ⟨_, _, _, _, _, rfl, ⟨?_, ?_, ?_, ?_⟩, ?_⟩
   ·exact qz3 Try.results13 _ _ (Q67 + 1) 0 rfl Q0w _ (Q6d _ _ _ _ R2) Try.underlying30 rfl qz1p
   ·exact qzs.of (by simp [qz1a]) (by rw [qzr]; omega) (World.rangeAt_setCells_apart gr (w.heap.size + 1) 0 Q0w (Or.inl (by omega)))
   ·exact qzs.of (by simp [qz1a]) (by rw [qzr]; omega) (World.rangeAt_setCells_apart M0 (w.heap.size + 1) 0 Q0w (Or.inl (by omega)))
   ·exact qzs.of (rfl) (by rw [qzr]; omega) (World.rangeAt_setCells_apart M1 (w.heap.size + 1) 0 Q0w (Or.inl (by omega)))
   ·exact qzs.of (rfl) (by rw [qzr]; omega) (World.rangeAt_setCells_apart M2 (w.heap.size + 1) 0 Q0w (Or.inl (by omega)))
   ·exact Below.setCells (by omega) _ _ _ (bb1.trans (bW.mono (by omega)))
theorem qz7d (x y z u : Int) (w : World) (hp : qz38 x y z u = false) :
  Calls Try.prog 13 #[.agg Q08] w fun e w' => e = .returned (.agg Q0d) /\ Below Q67 w w' := by
 go_enter Try.func13, Try.ntmps13
 go_wp2_with fail
 have R0 := qzf (w.alloc (Obj.cells Q08 25)) Q0d 30 5 (by decide)
 refine (qz1k _ _ _ _ _).mono ?_
 rintro e w1 ⟨rfl, b1⟩
 have R1 := qz5 R0 b1 (by simp)
 simp only [World.size_alloc] at R1
 have K1 := (((Q6c Q67 w).alloc (Q6f _) (Obj.cells Q08 25)).alloc (by simp) (Obj.cells Q0d 30)).trans (b1.mono (by simp; omega))
 rw [hp]
 clear b1 R0
 go_wp2_with (refine Q6b rfl 30 (.tmp 2) (.tmp 8) rfl (Q67 + 1) 0 _ rfl rfl ?ht ?hi ?h1 ?_)
 try (case ht => exact R1)
 case hi => exact qz1p
 case h1 => simp [Value.oneCell']
 refine bodyPost_ret (v := .agg Q0d) ?_ rfl ⟨rfl, ?_⟩
 ·exact qz3 Try.results13 _ _ (Q67 + 1) 0 rfl Q44 _ (Q6d _ _ _ _ R1) Try.underlying30 rfl qz1p
 ·exact Below.setCells (by omega) _ _ _ K1
end
section
def qz3c : List Value := [.int .i64 0, .int .i64 0, .int .i64 0, .int .i64 (-1), .int .i64 0, .int .i64 0, .int .i64 0, .int .i64 0, .int .i64 0, .int .i64 (-1), .int .i64 0, .int .i64 0, .int .i64 0, .int .i64 0, .int .i64 0, .int .i64 0, .int .i64 (-1), .int .i64 0, .int .i64 (-1), .int .i64 0, .int .i64 0, .int .i64 0]
theorem qzdi : (Try.prog.info? 56).map (fun i => i.size) = some qz3c.toArray.size := by kernel_rfl
theorem qzch : (Try.prog.info? 56).map (fun i => i.size) = some qz3c.length := by kernel_rfl
theorem qzec : qz3c.toArray.all (·.oneCell') = true := by kernel_rfl
theorem qz9n (w : World) (C : Array Value) (T : TypeId) (h : C.size = 22) : (w.alloc (.cells C T)).there Q67 0 qz3c.toArray.size := qzf w C T _ (by rw [h]; decide)
theorem qz4t (w : World) : Calls Try.prog 66 #[] w fun e w' => e = .returned (.agg qz3c.toArray) /\ Below Q67 w w' := by
 go_enter Try.func66, Try.ntmps66
 go_wp2_with (refine Q6b rfl 56 (.tmp 0) (.tmp 1) rfl Q67 0 _ rfl rfl ?ht ?hi ?h1 ?_)
 case ht => exact qz9n _ _ _ rfl
 case hi => exact qzdi
 case h1 => exact qzec
 refine bodyPost_ret (v := .agg qz3c.toArray) ?_ rfl ⟨rfl, ?_⟩
 ·exact qz3 Try.results66 _ _ Q67 0 rfl qz3c _ (Q6d _ _ _ _ (qz9n _ _ _ rfl)) Q6g rfl qzch
 ·exact Below.setCells (Q6f _) _ _ _ ((Q6c _ _).alloc (Q6f _) _)
end
end Go.Proofs.Ythjkdnlmopafkaa
