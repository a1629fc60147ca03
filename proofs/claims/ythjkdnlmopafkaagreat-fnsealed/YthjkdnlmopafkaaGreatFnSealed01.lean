/-
  What the law's proof goes by, part 2.
-/
import Derived.Deep.RegionWith
import Derived.BigRegion
import Derived.Test.YthjkdnlmopafkaaGreatRows
import Derived.WalkKit
import Derived.ProofKit
import Derived.Below
import Derived.Deep.MidRow
import Derived.Deep.QuietTactic
import Derived.BigQuiet
import Derived.RegionTactic
import Derived.Deep.RegionHeld3
import Derived.Deep.DrawnRows
import Derived.Deep.OwnRows
import Derived.Test.YthjkdnlmopafkaaGreatFnSealed00
namespace Go.Proofs.YthjkdnlmopafkaaGreat
open Go.ChangeShapes Go.WideShapes Go.ChangeAt Go.RowKit
set_option maxRecDepth 100000
set_option maxHeartbeats 16000000
set_option linter.unusedVariables false
set_option linter.unusedSimpArgs false
set_option linter.unnecessarySimpa false
set_option linter.unusedSectionVars false
section
def qzet (w : World) (b : Nat) (xs : List Int) : Prop := b < Q7b /\ ∀ j, j < xs.length -> w.cell? ⟨b, j, none⟩ = some (.int .i64 (xs.getD j 0))
theorem qz5w (w : World) (xs : List Int) (C : Array Value) (T : TypeId) (h : C = (xs.map (Value.int .i64)).toArray) : qzet (w.alloc (.cells C T)) Q7b xs := by
 refine ⟨by simp, fun j hj => ?_⟩
 rw [World.cell?_alloc_new, h]
 simp [hj]
theorem qzet.only {w w' : World} {b c : Nat} {xs : List Int} (h : qzet w b xs) (hO : Only c w w') (hne : b ≠ c) : qzet w' b xs :=
 ⟨Q7o h.1 hO.size, fun j hj => (hO.cell (p := ⟨b, j, none⟩) h.1 hne).trans (h.2 j hj)⟩
theorem qz20.alloc {k : IntKind} {w : World} {b : Nat} {a : Option Addr} {len cap : Nat} {i h : Int} (D : qz20 k w b a len cap i h) (o : Obj) : qz20 k (w.alloc o) b a len cap i h :=
 D.only ((Only.refl Q7b w).alloc o) (by have := D.blk; omega)
theorem qz1p.alloc {B : Nat} {w : World} {a : Option Addr} {len : Nat} (h : qz1p B w a len) (hB : B <= Q7b) (o : Obj) : qz1p B (w.alloc o) a len :=
 h.below ((Q7g _ _).alloc hB o)
theorem qz1p.weaken {B B' : Nat} {w : World} {a : Option Addr} {len : Nat} (h : qz1p B w a len) (hB : B <= B') : qz1p B' w a len := by
 intro j hj
 obtain ⟨bb, off, v, h1, h2, h3⟩ := h j hj
 exact ⟨bb, off, v, h1, by omega, h3⟩
theorem qzeu (B b : Nat) (a : Option Addr) (len cap : Nat) (i h : Int) (w : World) (hB : B <= b) (hlen : len <= 4096) (D : qz20 .i64 w b a len cap i h) (C : qz1p B w a len) :
  Calls Tryz.prog 128 Q50 w fun e w' => ∃ r i' h', e = .returned (.int .i64 r) /\ qz20 .i64 w' b a len cap i' h' /\ qz1p B w' a len /\ Only b w w' := by
 have blk := D.blk
 go_enter Tryz.func128, Tryz.ntmps128
 go_wp2_with fail
 refine (qz13 B b a len cap i h 10 _ hB hlen (D.alloc _) (C.alloc (by omega) _) (by omega) (by omega)).mono ?_
 rintro e w1 ⟨r, i1, h1, rfl, r0, r1, D1, C1, O1⟩
 have I1 := (qz5w w [-1, 0, 1, 2147483648, -2147483648, 1099511627776, 4611686018427387904, -4611686018427387904, 9223372036854775807, -9223372036854775808] _ 2 rfl).only O1 (by omega)
 obtain ⟨rN, rfl⟩ := Int.eq_ofNat_of_zero_le r0
 obtain ⟨v, hv⟩ : ∃ v, w1.cell? ⟨Q7b, rN, none⟩ = some (.int .i64 v) := ⟨_, I1.2 rN (by simp; omega)⟩
 clear I1
 have r2 : (rN : Int) < 10 := r1
 go_wp2
 go_ret
 exact ⟨v, i1, h1, rfl, D1, C1, ((Only.refl _ _).alloc _).trans O1⟩
theorem qzf6 (B b : Nat) (a : Option Addr) (len cap : Nat) (i h m : Int) (w : World) (hB : B <= b) (hlen : len <= 4096) (D : qz20 .i64 w b a len cap i h) (C : qz1p B w a len) (hm1 : 0 <= m) (hm2 : m <= 2000000) :
  Calls Tryz.prog 86 #[.pointer (some ⟨b, 0, none⟩), .int .i64 m] w fun e w' => ∃ r i' h', e = .returned (.int .i64 r) /\ qz20 .i64 w' b a len cap i' h' /\ qz1p B w' a len /\ Only b w w' := by
 go_enter Tryz.func86, Tryz.ntmps86
 go_wp2_with fail
 refine (qz4u B b a len cap i h 10 _ hB hlen D C (by omega) (by omega)).mono ?_
 rintro e w1 ⟨r, i1, h1, rfl, D1, C1, O1⟩
 cases r
 ·go_wp2_with fail
  refine (qz4u B b a len cap i1 h1 2 _ hB hlen D1 C1 (by omega) (by omega)).mono ?_
  rintro e w2 ⟨r, i2, h2, rfl, D2, C2, O2⟩
  cases r
  ·go_wp2_with fail
   refine (qz13 B b a len cap i2 h2 _ _ hB hlen D2 C2 (by omega) (by omega)).mono ?_
   rintro e w3 ⟨r, i3, h3, rfl, r0, r1, D3, C3, O3⟩
   go_wp2
   go_ret
   exact ⟨_, i3, h3, rfl, D3, C3, (O1.trans O2).trans O3⟩
  ·go_wp2_with fail
   refine (qz92 _ _ _).mono ?_
   rintro e w3 ⟨rfl, rfl⟩
   have hq : 0 <= min m 4 /\ min m 4 <= 4 := by omega
   generalize min m 4 = q at *
   obtain ⟨q0, q1⟩ := hq
   go_wp2_with fail
   refine (qz13 B b a len cap i2 h2 _ _ hB hlen D2 C2 (by omega) (by omega)).mono ?_
   rintro e w3 ⟨r, i3, h3, rfl, r0, r1, D3, C3, O3⟩
   go_wp2
   go_ret
   exact ⟨_, i3, h3, rfl, D3, C3, (O1.trans O2).trans O3⟩
 ·go_wp2_with fail
  refine (qzeu B b a len cap i1 h1 _ hB hlen D1 C1).mono ?_
  rintro e w2 ⟨z, i2, h2, rfl, D2, C2, O2⟩
  go_wp2_with fail
  refine (qz13 B b a len cap i2 h2 4 _ hB hlen (D2.alloc _) (C2.alloc (by have := D2.blk; omega) _) (by omega) (by omega)).mono ?_
  rintro e w3 ⟨r, i3, h3, rfl, r0, r1, D3, C3, O3⟩
  have I3 := (qz5w w2 [-1, m, m + 1, z] _ 2 rfl).only O3 (by have := D2.blk; omega)
  obtain ⟨rN, rfl⟩ := Int.eq_ofNat_of_zero_le r0
  obtain ⟨v, hv⟩ : ∃ v, w3.cell? ⟨Q7x, rN, none⟩ = some (.int .i64 v) := ⟨_, I3.2 rN (by simp; omega)⟩
  clear I3
  go_wp2
  go_ret
  exact ⟨v, i3, h3, rfl, D3, C3, (O1.trans O2).trans (((Only.refl _ _).alloc _).trans O3)⟩
structure qz75 (w : World) (b : Nat) (x y z u : Int) : Prop where
 c0 : w.cell? ⟨b, 0, none⟩ = some (.int .i64 x)
 c1 : w.cell? ⟨b, 1, none⟩ = some (.int .i64 y)
 c2 : w.cell? ⟨b, 2, none⟩ = some (.int .i64 z)
 c3 : w.cell? ⟨b, 3, none⟩ = some (.int .i64 u)
 f0 : w.frozen? ⟨b, 0, none⟩ = false
 f1 : w.frozen? ⟨b, 1, none⟩ = false
 f2 : w.frozen? ⟨b, 2, none⟩ = false
 f3 : w.frozen? ⟨b, 3, none⟩ = false
 blk : b < Q7b
theorem qz6m (w : World) (x y z u : Int) (T : TypeId) : qz75 (w.alloc (.cells Q06 T)) Q7b x y z u := by
 refine ⟨?_, ?_, ?_, ?_, ?_, ?_, ?_, ?_, by simp⟩ <;> simp
theorem qz75.only {w w' : World} {b c : Nat} {x y z u : Int} (P : qz75 w b x y z u) (hO : Only c w w') (hne : b ≠ c) : qz75 w' b x y z u :=
 ⟨(hO.cell (p := ⟨b, 0, none⟩) P.blk hne).trans P.c0, (hO.cell (p := ⟨b, 1, none⟩) P.blk hne).trans P.c1, (hO.cell (p := ⟨b, 2, none⟩) P.blk hne).trans P.c2, (hO.cell (p := ⟨b, 3, none⟩) P.blk hne).trans P.c3,
  (hO.frozen (p := ⟨b, 0, none⟩) P.blk hne).trans P.f0, (hO.frozen (p := ⟨b, 1, none⟩) P.blk hne).trans P.f1, (hO.frozen (p := ⟨b, 2, none⟩) P.blk hne).trans P.f2, (hO.frozen (p := ⟨b, 3, none⟩) P.blk hne).trans P.f3, Q7o P.blk hO.size⟩
theorem qz75.alloc {w : World} {b : Nat} {x y z u : Int} (P : qz75 w b x y z u) (o : Obj) : qz75 (w.alloc o) b x y z u :=
 P.only ((Only.refl Q7b w).alloc o) (by have := P.blk; omega)
theorem qz6y (w : World) (c : Nat) (x y z u : Int) : Only c w ((((w.setCell ⟨c, 0, none⟩ (.int .i64 x)).setCell ⟨c, 1, none⟩ (.int .i64 y)).setCell ⟨c, 2, none⟩ (.int .i64 z)).setCell ⟨c, 3, none⟩ (.int .i64 u)) :=
 ((((Only.refl c w).setCell (Or.inl rfl) _).setCell (Or.inl rfl) _).setCell (Or.inl rfl) _).setCell (Or.inl rfl) _
theorem Only.set4 {b c : Nat} {x w : World} (h : Only b x w) (hc : x.heap.size <= c) (p q r s : Int) : Only b x ((((w.setCell ⟨c, 0, none⟩ (.int .i64 p)).setCell ⟨c, 1, none⟩ (.int .i64 q)).setCell ⟨c, 2, none⟩ (.int .i64 r)).setCell ⟨c, 3, none⟩ (.int .i64 s)) :=
 (((h.setCell (Or.inr hc) _).setCell (Or.inr hc) _).setCell (Or.inr hc) _).setCell (Or.inr hc) _
theorem qz9o (B b : Nat) (a : Option Addr) (len cap : Nat) (i h : Int) (w : World) (hB : B <= b) (hlen : len <= 4096) (D : qz20 .i64 w b a len cap i h) (C : qz1p B w a len) :
  Calls Tryz.prog 126 Q50 w fun e w' => ∃ x y z u i' h', qz42 x y z u = true /\ e = .returned (.agg Q06) /\ qz20 .i64 w' b a len cap i' h' /\ qz1p B w' a len /\ Only b w w' := by
 have blk := D.blk
 go_enter Tryz.func126, Tryz.ntmps126
 go_wp2_with fail
 have R0 := qz6m w 0 0 0 0 28
 refine (qz13 B b a len cap i h 4 _ hB hlen (D.alloc _) (C.alloc (by omega) _) (by omega) (by omega)).mono ?_
 rintro e w1 ⟨r1, i1, h1, rfl, r10, r11, D1, C1, O1⟩
 have R1 := R0.only O1 (by omega)
 go_wp2_with fail
 refine (qz13 B b a len cap i1 h1 12 _ hB hlen D1 C1 (by omega) (by omega)).mono ?_
 rintro e w2 ⟨r2, i2, h2, rfl, r20, r21, D2, C2, O2⟩
 have R2 := R1.only O2 (by omega)
 go_wp2_with fail
 refine (qz13 B b a len cap i2 h2 60 _ hB hlen D2 C2 (by omega) (by omega)).mono ?_
 rintro e w3 ⟨r3, i3, h3, rfl, r30, r31, D3, C3, O3⟩
 have R3 := R2.only O3 (by omega)
 go_wp2_with fail
 refine (qz13 B b a len cap i3 h3 4 _ hB hlen D3 C3 (by omega) (by omega)).mono ?_
 rintro e w4 ⟨r4, i4, h4, rfl, r40, r41, D4, C4, O4⟩
 have R4 := R3.only O4 (by omega)
 have b4 := D4.blk
 have O04 := ((((Only.refl b w).alloc (Obj.cells Q4o 28)).trans O1).trans O2).trans (O3.trans O4)
 clear R0 R1 R2 R3 D1 D2 D3 C1 C2 C3 O1 O2 O3 O4
 go_wp2_with fail
 have P5 := qz6m w4 (1 + r1) (2 + r2) (10 + r3) (1 + r4) 28
 refine (qz4u B b a len cap i4 h4 8 _ hB hlen (D4.alloc _) (C4.alloc (by omega) _) (by omega) (by omega)).mono ?_
 rintro e w5 ⟨r5, i5, h5, rfl, D5, C5, O5⟩
 have P6 := P5.only O5 (by omega)
 have R5 := (R4.alloc _).only O5 (by omega)
 have O05 := (O04.alloc _).trans O5
 have hz4 := R4.blk
 have hz5 := P6.blk
 clear P5 R4 O5 D4 C4 O04
 cases r5
 ·obtain ⟨c0, c1, c2, c3, _, _, _, _, _⟩ := P6
  obtain ⟨k0, k1, k2, k3, f0, f1, f2, f3, _⟩ := R5
  go_wp2
  exact bodyPost_ret (v := .agg #[.int .i64 (1 + r1), .int .i64 (2 + r2), .int .i64 (10 + r3), .int .i64 (1 + r4)]) (by simp [results, Tryz.results126, go_sem, k0, k1, k2, k3]) rfl ⟨_, _, _, _, i5, h5, (qz2h _ _ _ _).2 (by omega), rfl, D5.only (qz6y _ _ _ _ _ _) (by omega), C5.below ((qz6y _ _ _ _ _ _).below (by omega) (by omega)), O05.set4 (by omega) _ _ _ _⟩
 ·go_wp2_with fail
  refine (qz13 B b a len cap i5 h5 12 _ hB hlen D5 C5 (by omega) (by omega)).mono ?_
  rintro e w6 ⟨r6, i6, h6, rfl, r60, r61, D6, C6, O6⟩
  have P7 := P6.only O6 (by omega)
  have R6 := R5.only O6 (by omega)
  have O06 := O05.trans O6
  have hz6 := O6.size
  clear P6 R5 D5 C5 O6
  obtain ⟨c0, c1, c2, c3, _, _, g2, _, _⟩ := P7
  obtain ⟨k0, k1, k2, k3, f0, f1, f2, f3, _⟩ := R6
  go_wp2
  exact bodyPost_ret (v := .agg #[.int .i64 (1 + r1), .int .i64 (2 + r2), .int .i64 (1 + r6), .int .i64 (1 + r4)]) (by simp [results, Tryz.results126, go_sem, k0, k1, k2, k3]) rfl ⟨_, _, _, _, i6, h6, (qz2h _ _ _ _).2 (by omega), rfl, (D6.only ((Only.refl w4.heap.size w6).setCell (Or.inl rfl) _) (by omega)).only (qz6y _ _ _ _ _ _) (by omega), (C6.below ((Q7g _ _).setCell (by simp; omega) _)).below ((qz6y _ _ _ _ _ _).below (by omega) (by simp; omega)), (O06.setCell (Or.inr (by simp; omega)) _).set4 (by omega) _ _ _ _⟩
end
section
open Go.RowKit
theorem qza (w : World) (C : Array Value) (T : TypeId) (n : Nat) (h : n <= C.size) : (w.alloc (.cells C T)).there Q7b 0 n := by
 intro j hj
 rw [Nat.zero_add, World.cell?_alloc_new]
 refine ⟨?_, by simp⟩
 rw [Array.getElem?_eq_getElem (by omega)]
 rfl
theorem qz6 (w : World) (cs : List Value) (T : TypeId) : (w.alloc (.cells cs.toArray T)).rangeAt Q7b 0 cs := by
 intro j v hv
 rw [Nat.zero_add, World.cell?_alloc_new]
 simpa using hv
theorem qz0 {w w' : World} {B b o : Nat} {cs : List Value} (h : w.rangeAt b o cs) (hb : Below B w w') (hB : b < B) : w'.rangeAt b o cs :=
 fun j v hv => (hb.cell (p := ⟨b, o + j, none⟩) hB).trans (h j v hv)
theorem qz2 {w w' : World} {B b o n : Nat} (h : w.there b o n) (hb : Below B w w') (hB : b < B) : w'.there b o n :=
 fun j hj => by rw [hb.cell (p := ⟨b, o + j, none⟩) hB, hb.frozen (p := ⟨b, o + j, none⟩) hB]; exact h j hj
theorem qzn (b : Nat) : ∀ (vs : List Value) (o : Nat) (w : World), (w.setCells b o vs).heap.size = Q7b
 | [], _, _ => rfl
 | v :: vs, o, w => by
  show ((w.setCell ⟨b, o, none⟩ v).setCells b (o + 1) vs).heap.size = _
  rw [qzn b vs (o + 1), World.size_setCell]
theorem Below.setCells {B b : Nat} {a : World} (hB : B <= b) : ∀ (vs : List Value) (o : Nat) (w : World), Below B a w -> Below B a (w.setCells b o vs)
 | [], _, _, h => h
 | v :: vs, o, w, h => Below.setCells hB vs (o + 1) (w.setCell ⟨b, o, none⟩ v) (h.setCell hB v)
theorem qz5 {w : World} {b o n : Nat} (h : w.there b o n) (a : Addr) (v : Value) : (w.setCell a v).there b o n := by
 intro j hj
 refine ⟨?_, (World.frozen?_setCell _ _ _ _).trans (h j hj).2⟩
 by_cases e : a = ⟨b, o + j, none⟩
 ·subst e
  obtain ⟨u, hu⟩ := Option.isSome_iff_exists.1 (h j hj).1
  rw [World.cell?_setCell_same _ _ _ hu]
  rfl
 ·rw [World.cell?_setCell_other _ _ _ _ e]
  exact (h j hj).1
theorem qz3 {P : Program} {fn : Func} {p : Tmp} {ty : TypeId} (h : fn.results = #[.cell p ty]) (tmps : Array Value) (w : World) (b o : Nat) (hp : tmps.getD p undef = .pointer (some ⟨b, o, none⟩))
  (cs : List Value) (d : TypeDesc) (hc : w.rangeAt b o cs) (hu : P.underlying ty = some d) (hd : d.isRow = true) (hi : (P.info? ty).map (·.size) = some cs.length) : (results fn tmps).run P w = .ok (.agg cs.toArray) w := by
 have hl := run_loadVar_mid (P := P) w b o ty cs d hc hu hd hi
 rw [Array.getD_eq_getD_getElem?] at hp
 simp [results, h, hp, asAddr, hl]
theorem qzk {P : Program} {fn : Func} {p q : Tmp} {ty : TypeId} (h : fn.results = #[.cell p ty, .tmp q]) (tmps : Array Value) (w : World) (b o : Nat) (hp : tmps.getD p undef = .pointer (some ⟨b, o, none⟩))
  (cs : List Value) (d : TypeDesc) (hc : w.rangeAt b o cs) (hu : P.underlying ty = some d) (hd : d.isRow = true) (hi : (P.info? ty).map (·.size) = some cs.length) : (results fn tmps).run P w = .ok (.tuple #[.agg cs.toArray, tmps.getD q undef]) w := by
 have hl := run_loadVar_mid (P := P) w b o ty cs d hc hu hd hi
 rw [Array.getD_eq_getD_getElem?] at hp
 simp [results, h, hp, asAddr, Result.andThen, hl]
end
section
attribute [local go_sem ↓] Go.wp_at_zero Go.wp_at_succ
structure Nd where
 key : Int
 value : Int
 head : Int
structure Vr where
 next : Int
 gone : Bool
 stamp : Int
 prev : Int
 kind : Int
structure Ar where
 camera : Int
 slots : List Int
 guides : List Int
 nodes : List Nd
 vers : List Vr
def intC (n : Int) : List Value := [.int .i64 n]
def ndC (x : Nd) : List Value := [.int .i64 x.key, .int .i64 x.value, .int .i64 x.head]
def vrC (x : Vr) : List Value := [.int .i64 x.next, .bool x.gone, .int .i64 x.stamp, .int .i64 x.prev, .int .i64 x.kind]
def qzf {α : Type} (f : α -> List Value) (l : List α) : List Value := l.flatMap f
theorem qz12 {α : Type} {f : α -> List Value} {sz : Nat} (hf : ∀ x, (f x).length = sz) (l : List α) : (qzf f l).length = l.length * sz := by
 induction l with
 | nil => simp [qzf]
 | cons x l ih => simp only [qzf, List.flatMap_cons, List.length_append, List.length_cons] at ih ⊢; rw [ih, hf, Nat.add_mul]; omega
theorem qz29 {α : Type} (f : α -> List Value) (l : List α) (x : α) : qzf f (l ++ [x]) = qzf f l ++ f x := by simp [qzf]
theorem qz1h {α : Type} {f : α -> List Value} {sz : Nat} (hf : ∀ x, (f x).length = sz) : ∀ (l : List α) (i : Nat) (hi : i < l.length) (j : Nat), j < sz -> (qzf f l)[i * sz + j]? = (f l[i])[j]?
 | x :: l, 0, _, j, hj => by
  simp only [qzf, List.flatMap_cons, Nat.zero_mul, Nat.zero_add, List.getElem_cons_zero]
  rw [List.getElem?_append_left (by rw [hf]; exact hj)]
 | x :: l, i + 1, hi, j, hj => by
  have ih := qz1h hf l i (by simpa using hi) j hj
  simp only [qzf, List.flatMap_cons, List.getElem_cons_succ] at ih ⊢
  rw [List.getElem?_append_right (by rw [hf, Nat.add_mul]; omega), hf, <- ih]
  congr 1
  rw [Nat.add_mul]
  omega
def qzq (B : Nat) (w : World) (v : Value) (len : Nat) (cs : List Value) : Prop :=
 ∃ a cap, v = .slice a len cap /\ (len = 0 ∨ ∃ bb off, a = some ⟨bb, off, none⟩ /\ bb < B /\ w.rangeAt bb off cs)
theorem qzq.below {B : Nat} {w w' : World} {v : Value} {len : Nat} {cs : List Value} (h : qzq B w v len cs) (hb : Below B w w') : qzq B w' v len cs := by
 obtain ⟨a, cap, rfl, h⟩ := h
 refine ⟨a, cap, rfl, ?_⟩
 rcases h with h | ⟨bb, off, rfl, h1, h2⟩
 ·exact Or.inl h
 ·exact Or.inr ⟨bb, off, rfl, h1, qz0 h2 hb h1⟩
theorem qzq.weaken {B B' : Nat} {w : World} {v : Value} {len : Nat} {cs : List Value} (h : qzq B w v len cs) (hB : B <= B') : qzq B' w v len cs := by
 obtain ⟨a, cap, rfl, h⟩ := h
 refine ⟨a, cap, rfl, ?_⟩
 rcases h with h | ⟨bb, off, rfl, h1, h2⟩
 ·exact Or.inl h
 ·exact Or.inr ⟨bb, off, rfl, by omega, h2⟩
theorem qz76 {w : World} {b o : Nat} {cs : List Value} (R : w.rangeAt b o cs) (h : (w.cell? ⟨b, o + cs.length, none⟩).isSome = true) (v : Value) : (w.setCell ⟨b, o + cs.length, none⟩ v).rangeAt b o (cs ++ [v]) := by
 intro j u hj
 by_cases e : j = cs.length
 ·subst e
  simp at hj
  subst hj
  obtain ⟨x, hx⟩ := Option.isSome_iff_exists.1 h
  exact World.cell?_setCell_same _ _ _ hx
 ·have hlt : j < cs.length := by
   rcases Nat.lt_or_ge j (cs ++ [v]).length with hl | hl
   ·simp at hl; omega
   ·rw [List.getElem?_eq_none hl] at hj; cases hj
  have hne : (⟨b, o + cs.length, none⟩ : Addr) ≠ ⟨b, o + j, none⟩ := by
   intro h'
   have := congrArg Addr.off h'
   simp at this
   omega
  refine (World.cell?_setCell_other _ _ _ _ hne).trans (R j u ?_)
  rw [List.getElem?_append_left hlt] at hj
  exact hj
theorem qze {α : Type} {f : α -> List Value} {sz : Nat} (hf : ∀ x, (f x).length = sz) {w : World} {b o : Nat} {l : List α} (R : w.rangeAt b o (qzf f l)) (i : Nat) (hi : i < l.length) : w.rangeAt b (o + i * sz) (f l[i]) := by
 intro j v hj
 have hlt : j < sz := by
  rcases Nat.lt_or_ge j (f l[i]).length with h | h
  ·rw [hf] at h; exact h
  ·rw [List.getElem?_eq_none h] at hj; cases hj
 have := R (i * sz + j) v (by rw [qz1h hf l i hi j hlt]; exact hj)
 rw [Nat.add_assoc]
 exact this
theorem qz7b {w : World} {b o : Nat} {cs vs : List Value} (R : w.rangeAt b o cs) (T : w.there b (o + cs.length) vs.length) : (w.setCells b (o + cs.length) vs).rangeAt b o (cs ++ vs) := by
 have h1 := Q7t R b (o + cs.length) vs (Or.inr (Or.inl (Q7l _)))
 have h2 := Q7c w b (o + cs.length) vs T
 intro j v hj
 rcases Nat.lt_or_ge j cs.length with h | h
 ·rw [List.getElem?_append_left h] at hj
  exact h1 j v hj
 ·rw [List.getElem?_append_right h] at hj
  have := h2 (j - cs.length) v hj
  rw [show o + cs.length + (j - cs.length) = o + j by omega] at this
  exact this
theorem qz19 {w : World} {b o n : Nat} (T : w.there b o n) (k m : Nat) (h : k + m <= n) : w.there b (o + k) m := by
 intro j hj
 have := T (k + j) (by omega)
 rw [<- Nat.add_assoc] at this
 exact this
theorem qzhs : (Tryz.prog.info? 2).map (fun i => (i.zero, i.size, i.bytes)) = some (some (.int .i64 0), 1, 8) := by kernel_rfl
theorem qz8w : (Tryz.prog.info? 99).map (fun i => (i.zero, i.size, i.bytes)) = some (some (.agg Q4k), 3, 24) := by kernel_rfl
theorem qzg6 (x : Nd) : (Tryz.prog.info? 99).map (fun i => i.size) = some (ndC x).toArray.size := by
 show _ = some 3
 kernel_rfl
theorem qzbo (x : Nd) : (Tryz.prog.info? 99).map (fun i => i.size) = some (ndC x).length := by
 show _ = some 3
 kernel_rfl
theorem qza2 : (Tryz.prog.info? 65).map (fun i => (i.zero, i.size, i.bytes)) = some (some (.agg Q24), 5, 40) := by kernel_rfl
theorem qzfi (x : Vr) : (Tryz.prog.info? 65).map (fun i => i.size) = some (vrC x).toArray.size := by
 show _ = some 5
 kernel_rfl
theorem qz5u (x : Vr) : (Tryz.prog.info? 65).map (fun i => i.size) = some (vrC x).length := by
 show _ = some 5
 kernel_rfl
structure qzv (B : Nat) (w : World) (s g n r : Value) (A : Ar) : Prop where
 s : qzq B w s Q7w (qzf intC A.slots)
 g : qzq B w g Q7v (qzf intC A.guides)
 n : qzq B w n Q7f (qzf ndC A.nodes)
 r : qzq B w r Q7h (qzf vrC A.vers)
def Ar.size (A : Ar) : Nat := Q7w + Q7v + Q7f + Q7h
theorem qzv.below {B : Nat} {w w' : World} {s g n r : Value} {A : Ar} (I : qzv B w s g n r A) (hb : Below B w w') : qzv B w' s g n r A :=
 ⟨I.s.below hb, I.g.below hb, I.n.below hb, I.r.below hb⟩
theorem qzv.weaken {B B' : Nat} {w : World} {s g n r : Value} {A : Ar} (I : qzv B w s g n r A) (hB : B <= B') : qzv B' w s g n r A :=
 ⟨I.s.weaken hB, I.g.weaken hB, I.n.weaken hB, I.r.weaken hB⟩
theorem qzb {w : World} {b : Nat} {cs : List Value} (R : w.rangeAt b 0 cs) (k : Nat) (hk : k < cs.length) (v : Value) : (w.setCell ⟨b, k, none⟩ v).rangeAt b 0 (cs.set k v) := by
 intro j u hj
 rw [Nat.zero_add]
 by_cases e : k = j
 ·subst e
  rw [List.getElem?_set_self hk] at hj
  cases hj
  have := R k cs[k] (List.getElem?_eq_getElem hk)
  rw [Nat.zero_add] at this
  exact World.cell?_setCell_same _ _ _ this
 ·rw [List.getElem?_set_ne e] at hj
  have := R j u hj
  rw [Nat.zero_add] at this
  exact (World.cell?_setCell_other _ _ _ _ (by simp)).trans this
theorem qz1l {w : World} {b o : Nat} {cs : List Value} (R : w.rangeAt b o cs) {a : Addr} (h : a.block ≠ b) (v : Value) : (w.setCell a v).rangeAt b o cs := by
 intro j u hj
 refine (World.cell?_setCell_other _ _ _ _ ?_).trans (R j u hj)
 intro e
 exact h (by rw [e])
theorem row5 {w : World} {b : Nat} {v0 v1 v2 v3 v4 : Value} (R : w.rangeAt b 0 [v0, v1, v2, v3, v4]) : w.cell? ⟨b, 0, none⟩ = some v0 /\ w.cell? ⟨b, 1, none⟩ = some v1 /\ w.cell? ⟨b, 2, none⟩ = some v2 /\ w.cell? ⟨b, 3, none⟩ = some v3 /\ w.cell? ⟨b, 4, none⟩ = some v4 := by
 refine ⟨?_, ?_, ?_, ?_, ?_⟩
 ·simpa using R 0 v0 rfl
 ·simpa using R 1 v1 rfl
 ·simpa using R 2 v2 rfl
 ·simpa using R 3 v3 rfl
 ·simpa using R 4 v4 rfl
end
section
def qz2p (xN uN : Nat) : Ar := ⟨0, List.replicate xN (-1), List.replicate uN 0, [⟨-1, 0, 0⟩], [⟨-1, false, 0, -1, 0⟩]⟩
theorem qzq.of {B : Nat} {w : World} {b len n cap : Nat} {cs : List Value} (hl : n = len) (hb : b < B) (R : w.rangeAt b 0 cs) : qzq B w (.slice (some ⟨b, 0, none⟩) n cap) len cs := by
 subst hl
 exact ⟨_, _, rfl, Or.inr ⟨b, 0, rfl, hb, R⟩⟩
theorem qz7c (n : Nat) (v : Int) : qzf intC (List.replicate n v) = List.replicate n (.int .i64 v) := by
 induction n with
 | zero => rfl
 | succ n ih => simp only [List.replicate_succ, qzf, List.flatMap_cons] at ih ⊢; rw [ih]; rfl
theorem qzf3 {w : World} {base : Nat} {e : TypeId} {g n cap : Nat} {xs : List Value} (h : w.ownsRow base e 1 Q49 n xs) (hn : 0 < n) : g < Q7b /\ w.rangeAt g 0 xs := by
 rcases h.2 with ⟨h0, _⟩ | ⟨g', cap', cur, hv, hg, hh, hnc, _, hs, ht⟩
 ·cases h0
 ·injection hv with hv _ _
  injection hv with hv
  injection hv with hv _ _
  subst hv
  have hlt : g < Q7b := by
   rcases Nat.lt_or_ge g Q7b with hl | hl
   ·exact hl
   ·rw [Array.getElem?_eq_none hl] at hh; cases hh
  refine ⟨hlt, ?_⟩
  have R := World.rangeAt_of_block hh 0 n
  have e1 : (cur.extract 0 (0 + n)).toList = xs := by rw [<- ht]; simp
  rw [e1] at R
  exact R
theorem qzdt : (Tryz.prog.info? 2).map (fun i => (i.zero, i.size, i.bytes)) = some (some (.int .i64 0), 1, 8) := by kernel_rfl
theorem qz2r : (Tryz.prog.info? 33).map (fun i => i.size) = some 5 := by kernel_rfl
theorem qz1n {w : World} {base : Nat} {e : TypeId} {size : Nat} {v : Value} {n : Nat} {xs : List Value} (h : w.ownsRow base e size v n xs) {j : Nat} (hj : v.ownBlock = some j) : base <= j := by
 rcases h.2 with ⟨rfl, _⟩ | ⟨g, cap, cur, rfl, hg, _⟩
 ·simp [Value.ownBlock] at hj
 ·simp [Value.ownBlock] at hj
  omega
theorem qz1c {w : World} {base : Nat} {e : TypeId} {size : Nat} {v : Value} {n : Nat} {xs : List Value} (h : w.ownsRow base e size v n xs) (hn : 0 < n) : ∃ g cap, v = .slice (some ⟨g, 0, none⟩) n cap := by
 rcases h.2 with ⟨rfl, h0⟩ | ⟨g, cap, cur, rfl, _⟩
 ·omega
 ·exact ⟨g, cap, rfl⟩
def qz85 (w1 : World) (uN : Nat) : World :=
 (((w1.alloc (Obj.cells (madeCells #[Value.int IntKind.i64 0] uN) 2)).alloc (Obj.cells #[Value.int IntKind.i64 (-1), Value.int IntKind.i64 0, Value.int IntKind.i64 0] 99)).alloc
  (Obj.cells #[Value.int IntKind.i64 (-1), Value.bool false, Value.int IntKind.i64 0, Value.int IntKind.i64 (-1), Value.int IntKind.i64 0] 65)).alloc
   (Obj.cells #[Value.int IntKind.i64 0, Value.slice none 0 0, Value.slice (some ⟨Q7k, 0, none⟩) uN uN, Value.slice (some ⟨Q7k + 1, 0, none⟩) 1 1, Value.slice (some ⟨Q7k + 1 + 1, 0, none⟩) 1 1] 33)
theorem qzc7 (w1 : World) (uN : Nat) : (qz85 w1 uN).heap.size = Q7k + 4 := by simp [qz85]
theorem qzcb (w1 : World) (uN : Nat) : (qz85 w1 uN).rangeAt Q7k 0 (qzf intC (List.replicate uN 0)) /\ (qz85 w1 uN).rangeAt (Q7k + 1) 0 (ndC ⟨-1, 0, 0⟩) /\ (qz85 w1 uN).rangeAt (Q7k + 1 + 1) 0 (vrC ⟨-1, false, 0, -1, 0⟩) := by
 have e : madeCells #[Value.int IntKind.i64 0] uN = (qzf intC (List.replicate uN 0)).toArray := by
  apply Array.toList_inj.1
  rw [toList_madeCells_one, qz7c]
 unfold qz85
 rw [e]
 refine ⟨?_, ?_, ?_⟩
 ·exact Q7n (Q7n (Q7n (qz6 w1 _ _) _) _) _
 ·have h := qz6 (w1.alloc (Obj.cells (qzf intC (List.replicate uN 0)).toArray 2)) (ndC ⟨-1, 0, 0⟩) 99
  simp only [World.size_alloc] at h
  exact Q7n (Q7n h _) _
 ·have h := qz6 ((w1.alloc (Obj.cells (qzf intC (List.replicate uN 0)).toArray 2)).alloc (Obj.cells (ndC ⟨-1, 0, 0⟩).toArray 99)) (vrC ⟨-1, false, 0, -1, 0⟩) 65
  simp only [World.size_alloc] at h
  exact Q7n h _
structure qz7e (w1 : World) (uN : Nat) (wr : World) (k : Nat) (s : Value) : Prop where
 a0 : wr.cell? ⟨Q7k + 1 + 1 + 1, 0, none⟩ = some (.int .i64 0)
 a1 : wr.cell? ⟨Q7k + 1 + 1 + 1, 1, none⟩ = some s
 a2 : wr.cell? ⟨Q7k + 1 + 1 + 1, 2, none⟩ = some (.slice (some ⟨Q7k, 0, none⟩) uN uN)
 a3 : wr.cell? ⟨Q7k + 1 + 1 + 1, 3, none⟩ = some (.slice (some ⟨Q7k + 1, 0, none⟩) 1 1)
 a4 : wr.cell? ⟨Q7k + 1 + 1 + 1, 4, none⟩ = some (.slice (some ⟨Q7k + 1 + 1, 0, none⟩) 1 1)
 f1 : wr.frozen? ⟨Q7k + 1 + 1 + 1, 1, none⟩ = false
 own : wr.ownsRow (Q7k + 4) 2 1 s k (List.replicate k (.int .i64 (-1)))
 bel : Below (Q7k + 3) (qz85 w1 uN) wr
theorem qz7e.blk {w1 : World} {uN : Nat} {wr : World} {k : Nat} {s : Value} (D : qz7e w1 uN wr k s) : Q7k + 4 <= wr.heap.size := by
 have := D.bel.size
 rw [qzc7] at this
 exact this
theorem qz9y (w1 : World) (uN : Nat) : qz7e w1 uN (qz85 w1 uN) 0 (.slice none 0 0) := by
 have h := (qza (((w1.alloc (Obj.cells (madeCells #[Value.int IntKind.i64 0] uN) 2)).alloc (Obj.cells #[Value.int IntKind.i64 (-1), Value.int IntKind.i64 0, Value.int IntKind.i64 0] 99)).alloc
  (Obj.cells #[Value.int IntKind.i64 (-1), Value.bool false, Value.int IntKind.i64 0, Value.int IntKind.i64 (-1), Value.int IntKind.i64 0] 65))
   #[Value.int IntKind.i64 0, Value.slice none 0 0, Value.slice (some ⟨Q7k, 0, none⟩) uN uN, Value.slice (some ⟨Q7k + 1, 0, none⟩) 1 1, Value.slice (some ⟨Q7k + 1 + 1, 0, none⟩) 1 1] 33 5 (by simp) 1 (by omega)).2
 simp only [World.size_alloc, Nat.zero_add] at h
 refine ⟨?_, ?_, ?_, ?_, ?_, h, World.ownsRow_nil _ _ _ _, Q7g _ _⟩ <;> simp [qz85, World.cell?_alloc_at]
theorem qz7e.step {w1 : World} {uN : Nat} {wr : World} {k : Nat} {s : Value} (D : qz7e w1 uN wr k s) {o : Obj} {w2 : World} {v' : Value}
  (ho : w2.ownsRow (Q7k + 4) 2 1 v' (k + 1) (List.replicate k (.int .i64 (-1)) ++ [.int .i64 (-1)])) (hg : (wr.alloc o).grownBy w2 s.ownBlock) :
  qz7e w1 uN (w2.setCell ⟨Q7k + 1 + 1 + 1, 1, none⟩ v') (k + 1) v' := by
 have hz := D.blk
 have b2 : Below (Q7k + 4) wr w2 := ((Q7g _ wr).alloc hz o).grown hg (by simp; omega) (fun j e => qz1n D.own e)
 have hc : ∀ j, w2.cell? ⟨Q7k + 1 + 1 + 1, j, none⟩ = wr.cell? ⟨Q7k + 1 + 1 + 1, j, none⟩ := fun j => b2.cell (p := ⟨Q7k + 1 + 1 + 1, j, none⟩) (by simp)
 have hf := b2.frozen (p := ⟨Q7k + 1 + 1 + 1, 1, none⟩) (by simp)
 refine ⟨?_, World.cell?_setCell_same _ _ _ ((hc 1).trans D.a1), ?_, ?_, ?_, (World.frozen?_setCell _ _ _ _).trans (hf.trans D.f1), ?_, ?_⟩
 ·exact (World.cell?_setCell_other _ _ _ _ (by simp)).trans ((hc 0).trans D.a0)
 ·exact (World.cell?_setCell_other _ _ _ _ (by simp)).trans ((hc 2).trans D.a2)
 ·exact (World.cell?_setCell_other _ _ _ _ (by simp)).trans ((hc 3).trans D.a3)
 ·exact (World.cell?_setCell_other _ _ _ _ (by simp)).trans ((hc 4).trans D.a4)
 ·rw [List.replicate_succ']
  exact ownsRow_setCell_below ho (by simp) _
 ·exact (D.bel.trans (b2.mono (by omega))).setCell (by simp) _
end
section
def qz3w : List Value := [.int .i64 0, .int .i64 0, .int .i64 0, .int .i64 (-1), .int .i64 0, .int .i64 0, .int .i64 0, .int .i64 0, .int .i64 0, .int .i64 (-1), .int .i64 0, .int .i64 0, .int .i64 0, .int .i64 0, .int .i64 0, .int .i64 0, .int .i64 (-1), .int .i64 0, .int .i64 (-1), .int .i64 0, .int .i64 0, .int .i64 0]
theorem qzfx : (Tryz.prog.info? 53).map (fun i => i.size) = some qz3w.toArray.size := by kernel_rfl
theorem qzf7 : (Tryz.prog.info? 53).map (fun i => i.size) = some qz3w.length := by kernel_rfl
theorem qzgu : qz3w.toArray.all (·.oneCell') = true := by kernel_rfl
theorem qzbh (w : World) (C : Array Value) (T : TypeId) (h : C.size = 22) : (w.alloc (.cells C T)).there Q7b 0 qz3w.toArray.size := qza w C T _ (by rw [h]; decide)
theorem qz5j (w : World) : Calls Tryz.prog 116 #[] w fun e w' => e = .returned (.agg qz3w.toArray) /\ Below Q7b w w' := by
 go_enter Tryz.func116, Tryz.ntmps116
 go_wp2_with (refine Q7e rfl 53 (.tmp 0) (.tmp 1) rfl Q7b 0 _ rfl rfl ?ht ?hi ?h1 ?_)
 case ht => exact qzbh _ _ _ rfl
 case hi => exact qzfx
 case h1 => exact qzgu
 refine bodyPost_ret (v := .agg qz3w.toArray) ?_ rfl ⟨rfl, ?_⟩
 ·exact qz3 Tryz.results116 _ _ Q7b 0 rfl qz3w _ (Q7c _ _ _ _ (qzbh _ _ _ rfl)) Q7d rfl qzf7
 ·exact Below.setCells (Q7l _) _ _ _ ((Q7g _ _).alloc (Q7l _) _)
end
section
theorem qza6 (xN uN : Nat) (y z : Int) (w : World) (hp : qz42 xN y z uN = true) :
  Calls Tryz.prog 115 #[.agg Q4j] w fun e w' => ∃ sg sc gb nb vb, e = .returned (.agg #[.int .i64 0, .slice (some ⟨sg, 0, none⟩) xN sc, .slice (some ⟨gb, 0, none⟩) uN uN, .slice (some ⟨nb, 0, none⟩) 1 1, .slice (some ⟨vb, 0, none⟩) 1 1]) /\
   qzv w'.heap.size w' Q4m Q4n Q4u Q4t (qz2p xN uN) /\ Below Q7b w w' /\ Hid (Q7b <= sg /\ Q7b <= gb /\ Q7b <= nb /\ Q7b <= vb) := by
 have hr := (qz2h xN y z uN).1 hp
 obtain ⟨⟨hx1, hx2⟩, ⟨hy1, hy2⟩, ⟨hz1, hz2⟩, hu1, hu2⟩ := hr
 have hmk := fun w => run_make_row' (P := Tryz.prog) 29 2 (.int .i64 0) 8 Tryz.underlying29 qzdt rfl .i64 .i64 uN (by omega) (by omega) w
 have P0 := qz1w w xN y z uN 28
 go_enter Tryz.func115, Tryz.ntmps115
 go_wp2_with fail
 have R0 := qza (w.alloc (Obj.cells Q4j 28)) Q0h 33 5 (by decide)
 refine (qz22 _ _ _ _ _).mono ?_
 rintro e w1 ⟨rfl, b1⟩
 have hz1 := b1.size
 simp at hz1
 have P1 := (P0.below ((Q7g _ _).alloc (Q7l _) _) (by simp)).below b1 (by simp; omega)
 have R1 := qz2 R0 b1 (by simp)
 have bb1 := (((Q7g Q7b w).alloc (Q7l _) (Obj.cells Q4j 28)).alloc (by simp) (Obj.cells Q0h 33)).trans (b1.mono (by simp; omega))
 have P1' := P1
 obtain ⟨c0, c1, c2, c3⟩ := P1'
 clear b1 P0 R0
 rw [hp]
 obtain ⟨i0, hi, hzr, hsz, hby⟩ := info_parts qzdt
 go_wp2
 go_loopw [4] (fun i wr => ∃ (k : Nat) (s : Value), k <= xN /\ i = .int .i64 k /\ qz7e w1 uN wr k s) (fun i _ => xN - (intOf i).toNat)
 case atStart => exact ⟨0, _, Nat.zero_le _, rfl, qz9y w1 uN⟩
 case round =>
  obtain ⟨k, s, hk, rfl, D⟩ := hrel
  have hz := D.blk
  have bW : Below Q7k w1 wr := (by
   have h1 : Below Q7k w1 (qz85 w1 uN) := ((((Q7g Q7k w1).alloc (Q7l _) _).alloc (by simp) _).alloc (by simp; omega) _).alloc (by simp; omega) _
   exact h1.trans (D.bel.mono (by omega)))
  obtain ⟨e0, e1, e2, e3⟩ := P1.below bW (by omega)
  by_cases hlt : k < xN
  ·have D0 := D
   obtain ⟨a0, a1, a2, a3, a4, f1, own, bel⟩ := D
   go_wp2_with (at_builtin; refine wpList_append_own _ rfl _ _ 29 rfl (Q7k + 4) 2 i0 (.int .i64 0) 1 8 Tryz.underlying29 hi hzr hsz hby rfl (by decide) _ _ _ rfl (own.alloc _) ⟨wr.heap.size, 0, none⟩ 1 1 [.int .i64 (-1)] rfl rfl ?c1 ?c2 ?c3 ?c4 ?c5 ?_)
   case c1 =>
    intro j u hj
    match j, hj with
    | 0, hj => simp at hj; subst hj; simp [Addr.add]
   case c2 => intro u hu; simp at hu; subst hu; rfl
   case c3 => unfold maxLen; omega
   case c4 => omega
   case c5 => simp; omega
   intro v' w2 hown' hgrow _
   have S := D0.step hown' hgrow
   have b2 : Below (Q7k + 4) wr w2 := ((Q7g _ wr).alloc hz _).grown hgrow (by simp; omega) (fun j e => qz1n own e)
   have g1 := (b2.cell (p := ⟨Q7k + 1 + 1 + 1, 1, none⟩) (by simp)).trans a1
   have g2 := (b2.frozen (p := ⟨Q7k + 1 + 1 + 1, 1, none⟩) (by simp)).trans f1
   obtain ⟨g, cap, hv⟩ := qz1c hown' (by omega)
   rw [hv] at S ⊢
   clear own bel D0 hown' hgrow b2 bW
   go_wp2
   go_roundw
   case rel => exact ⟨k + 1, _, by omega, by go_num, S⟩
   case measure => simp [intOf]; omega
  ·obtain rfl : k = xN := by omega
   have D0 := D
   obtain ⟨a0, a1, a2, a3, a4, f1, own, bel⟩ := D
   have R2 := qz2 R1 bW (by simp; omega)
   simp only [World.size_alloc] at R2
   obtain ⟨g, cap, rfl⟩ := qz1c own (by omega)
   obtain ⟨gz, gr⟩ := qzf3 own (by omega)
   rw [<- qz7c] at gr
   obtain ⟨B0, B1, B2⟩ := qzcb w1 uN
   have M0 := qz0 B0 bel (by omega)
   have M1 := qz0 B1 bel (by omega)
   have M2 := qz0 B2 bel (by omega)
   have gg := qz1n own rfl
   have gg' : Q7k + 4 <= g := gg
   have hlow : Hid (Q7b <= g /\ Q7b <= Q7k /\ Q7b <= Q7k + 1 /\ Q7b <= Q7k + 1 + 1) := by show _ /\ _; omega
   clear bel own B0 B1 B2 gg'
   go_wp2_with (refine wpList_store_mid rfl 33 (.tmp 2) (.tmp 28) rfl (w.heap.size + 1) 0 _ rfl rfl R2 qz2r (by simp [Value.oneCell']) ?_)
   refine bodyPost_ret (v := .agg #[.int .i64 0, .slice (some ⟨g, 0, none⟩) k cap, .slice (some ⟨Q7k, 0, none⟩) uN uN, .slice (some ⟨Q7k + 1, 0, none⟩) 1 1, .slice (some ⟨Q7k + 1 + 1, 0, none⟩) 1 1]) ?_ rfl ⟨_, _, _, _, _, rfl, ⟨?_, ?_, ?_, ?_⟩, ?_, hlow⟩
   ·exact qz3 Tryz.results115 _ _ (Q7b + 1) 0 rfl Q21 _ (Q7c _ _ _ _ R2) Tryz.underlying33 rfl qz2r
   ·exact qzq.of (by simp [qz2p]) (by rw [qzn]; omega) (World.rangeAt_setCells_apart gr (w.heap.size + 1) 0 Q21 (Or.inl (by omega)))
   ·exact qzq.of (by simp [qz2p]) (by rw [qzn]; omega) (World.rangeAt_setCells_apart M0 (w.heap.size + 1) 0 Q21 (Or.inl (by omega)))
   ·exact qzq.of (rfl) (by rw [qzn]; omega) (World.rangeAt_setCells_apart M1 (w.heap.size + 1) 0 Q21 (Or.inl (by omega)))
   ·exact qzq.of (rfl) (by rw [qzn]; omega) (World.rangeAt_setCells_apart M2 (w.heap.size + 1) 0 Q21 (Or.inl (by omega)))
   ·exact Below.setCells (by omega) _ _ _ (bb1.trans (bW.mono (by omega)))
end
end Go.Proofs.YthjkdnlmopafkaaGreat
