/-
  What the law's proof goes by, part 1.
-/
import Derived.Test.YtknncnaikeinbaaGreatRows
import Derived.WalkKit
import Derived.ProofKit
import Derived.OpenShut
import Derived.ShutString
import Derived.ChangeOld
import Derived.Below
import Derived.Lib.SmallJoins
import Derived.Deep.MidRow
import Derived.Deep.QuietTactic
import Derived.BigQuiet
import Derived.RegionTactic
import Derived.BigRegion
import Derived.Deep.RegionHeld3
import Derived.Deep.DrawnRows
import Derived.Deep.OwnRows
import Derived.Deep.Slices
namespace Go.Proofs.YtknncnaikeinbaaGreat
open Go.ChangeShapes Go.WideShapes Go.ChangeAt Go.RowKit
set_option maxRecDepth 100000
set_option maxHeartbeats 16000000
set_option linter.unusedVariables false
set_option linter.unusedSimpArgs false
set_option linter.unnecessarySimpa false
set_option linter.unusedSectionVars false
section
theorem own : ownKnob Tryz.prog.godebug = none := by kernel_rfl
theorem qz6m : laidOutB Tryz.prog = true := by kernel_rfl
def inB (n lo hi : Int) : Bool := decide (lo <= n) && decide (n <= hi)
theorem qz2c (n lo hi : Int) : inB n lo hi = true ↔ lo <= n /\ n <= hi := by simp [inB]
theorem qz5u {n lo hi : Int} (h1 : lo <= n) (h2 : n <= hi) : inB n lo hi = true := (qz2c n lo hi).2 ⟨h1, h2⟩
theorem qz8e {n lo hi : Int} (h : ¬ (lo <= n /\ n <= hi)) : inB n lo hi = false := by
 cases e : inB n lo hi
 ·rfl
 ·exact absurd ((qz2c n lo hi).1 e) h
theorem qze (n lo hi : Int) (w : World) :
  Calls Tryz.prog 80 #[.int .i64 n, .int .i64 lo, .int .i64 hi] w fun e w' => e = .returned (.bool (inB n lo hi)) /\ w' = w := by
 by_cases h1 : lo <= n
 ·by_cases h2 : n <= hi
  ·go_enter Tryz.func80, Tryz.ntmps80
   go_wp2
   go_ret
   exact ⟨by rw [qz5u h1 h2]; rfl, rfl⟩
  ·go_enter Tryz.func80, Tryz.ntmps80
   go_wp2
   go_ret
   exact ⟨by rw [qz8e (by omega)]; rfl, rfl⟩
 ·go_enter Tryz.func80, Tryz.ntmps80
  go_wp2
  go_ret
  exact ⟨by rw [qz8e (by omega)]; rfl, rfl⟩
theorem qzd (n lo hi : Int) (w : World) :
  Calls Tryz.prog 40 #[.int .i64 n, .int .i64 lo, .int .i64 hi] w fun e w' => e = .returned (.bool (inB n lo hi)) /\ w' = w := by
 by_cases h1 : lo <= n
 ·by_cases h2 : n <= hi
  ·go_enter Tryz.func40, Tryz.ntmps40
   go_wp2
   go_ret
   exact ⟨by rw [qz5u h1 h2]; rfl, rfl⟩
  ·go_enter Tryz.func40, Tryz.ntmps40
   go_wp2
   go_ret
   exact ⟨by rw [qz8e (by omega)]; rfl, rfl⟩
 ·go_enter Tryz.func40, Tryz.ntmps40
  go_wp2
  go_ret
  exact ⟨by rw [qz8e (by omega)]; rfl, rfl⟩
theorem qz22 (n : Int) (w : World) :
  Calls Tryz.prog 106 #[.int .i64 n] w fun e w' => e = .returned (.bool (inB n 0 63)) /\ w' = w := by
 go_enter Tryz.func106, Tryz.ntmps106
 go_wp2_with (go_at_call 80; refine (qze _ _ _ _).mono ?_; rintro e w' ⟨rfl, rfl⟩)
 go_ret
 exact ⟨rfl, rfl⟩
theorem qz1v (n : Int) (w : World) :
  Calls Tryz.prog 112 #[.int .i64 n] w fun e w' => e = .returned (.bool (inB n 0 63)) /\ w' = w := by
 go_enter Tryz.func112, Tryz.ntmps112
 go_wp2_with (go_at_call 40; refine (qzd _ _ _ _).mono ?_; rintro e w' ⟨rfl, rfl⟩)
 go_ret
 exact ⟨rfl, rfl⟩
def qz3e (a b c d : Int) : Bool := inB a 1 8 && inB b 1 60 && inB c 1 400 && inB d 1 8
theorem qz3y (a b c d : Int) : qz3e a b c d = true ↔ (1 <= a /\ a <= 8) /\ (1 <= b /\ b <= 60) /\ (1 <= c /\ c <= 400) /\ (1 <= d /\ d <= 8) := by
 unfold qz3e
 simp only [Bool.and_eq_true, qz2c]
 constructor
 ·rintro ⟨⟨⟨h1, h2⟩, h3⟩, h4⟩
  exact ⟨h1, h2, h3, h4⟩
 ·rintro ⟨h1, h2, h3, h4⟩
  exact ⟨⟨⟨h1, h2⟩, h3⟩, h4⟩
theorem qz4l (a b c d : Int) (w : World) :
  Calls Tryz.prog 78 #[.agg #[.int .i64 a, .int .i64 b, .int .i64 c, .int .i64 d]] w fun e w' => e = .returned (.bool (qz3e a b c d)) /\ Below w.heap.size w w' := by
 cases h1 : inB a 1 8
 ·have hp : qz3e a b c d = false := by simp [qz3e, h1]
  go_enter Tryz.func78, Tryz.ntmps78
  go_wp2_with (go_at_call 80; refine (qze _ _ _ _).mono ?_; rintro e w' ⟨rfl, rfl⟩)
  go_ret
  exact ⟨by rw [hp]; rfl, (Below.refl _ _).alloc (Nat.le_refl _) _⟩
 ·cases h2 : inB b 1 60
  ·have hp : qz3e a b c d = false := by simp [qz3e, h1, h2]
   go_enter Tryz.func78, Tryz.ntmps78
   go_wp2_with (go_at_call 80; refine (qze _ _ _ _).mono ?_; rintro e w' ⟨rfl, rfl⟩)
   go_ret
   exact ⟨by rw [hp]; rfl, (Below.refl _ _).alloc (Nat.le_refl _) _⟩
  ·cases h3 : inB c 1 400
   ·have hp : qz3e a b c d = false := by simp [qz3e, h1, h2, h3]
    go_enter Tryz.func78, Tryz.ntmps78
    go_wp2_with (go_at_call 80; refine (qze _ _ _ _).mono ?_; rintro e w' ⟨rfl, rfl⟩)
    go_ret
    exact ⟨by rw [hp]; rfl, (Below.refl _ _).alloc (Nat.le_refl _) _⟩
   ·cases h4 : inB d 1 8
    ·have hp : qz3e a b c d = false := by simp [qz3e, h1, h2, h3, h4]
     go_enter Tryz.func78, Tryz.ntmps78
     go_wp2_with (go_at_call 80; refine (qze _ _ _ _).mono ?_; rintro e w' ⟨rfl, rfl⟩)
     go_ret
     exact ⟨by rw [hp]; rfl, (Below.refl _ _).alloc (Nat.le_refl _) _⟩
    ·have hp : qz3e a b c d = true := by simp [qz3e, h1, h2, h3, h4]
     go_enter Tryz.func78, Tryz.ntmps78
     go_wp2_with (go_at_call 80; refine (qze _ _ _ _).mono ?_; rintro e w' ⟨rfl, rfl⟩)
     go_ret
     exact ⟨by rw [hp]; rfl, (Below.refl _ _).alloc (Nat.le_refl _) _⟩
theorem qz40 (a b c d : Int) (w : World) :
  Calls Tryz.prog 97 #[.agg #[.int .i64 a, .int .i64 b, .int .i64 c, .int .i64 d]] w fun e w' => e = .returned (.bool (qz3e a b c d)) /\ Below w.heap.size w w' := by
 cases h1 : inB a 1 8
 ·have hp : qz3e a b c d = false := by simp [qz3e, h1]
  go_enter Tryz.func97, Tryz.ntmps97
  go_wp2_with (go_at_call 40; refine (qzd _ _ _ _).mono ?_; rintro e w' ⟨rfl, rfl⟩)
  go_ret
  exact ⟨by rw [hp]; rfl, (Below.refl _ _).alloc (Nat.le_refl _) _⟩
 ·cases h2 : inB b 1 60
  ·have hp : qz3e a b c d = false := by simp [qz3e, h1, h2]
   go_enter Tryz.func97, Tryz.ntmps97
   go_wp2_with (go_at_call 40; refine (qzd _ _ _ _).mono ?_; rintro e w' ⟨rfl, rfl⟩)
   go_ret
   exact ⟨by rw [hp]; rfl, (Below.refl _ _).alloc (Nat.le_refl _) _⟩
  ·cases h3 : inB c 1 400
   ·have hp : qz3e a b c d = false := by simp [qz3e, h1, h2, h3]
    go_enter Tryz.func97, Tryz.ntmps97
    go_wp2_with (go_at_call 40; refine (qzd _ _ _ _).mono ?_; rintro e w' ⟨rfl, rfl⟩)
    go_ret
    exact ⟨by rw [hp]; rfl, (Below.refl _ _).alloc (Nat.le_refl _) _⟩
   ·cases h4 : inB d 1 8
    ·have hp : qz3e a b c d = false := by simp [qz3e, h1, h2, h3, h4]
     go_enter Tryz.func97, Tryz.ntmps97
     go_wp2_with (go_at_call 40; refine (qzd _ _ _ _).mono ?_; rintro e w' ⟨rfl, rfl⟩)
     go_ret
     exact ⟨by rw [hp]; rfl, (Below.refl _ _).alloc (Nat.le_refl _) _⟩
    ·have hp : qz3e a b c d = true := by simp [qz3e, h1, h2, h3, h4]
     go_enter Tryz.func97, Tryz.ntmps97
     go_wp2_with (go_at_call 40; refine (qzd _ _ _ _).mono ?_; rintro e w' ⟨rfl, rfl⟩)
     go_ret
     exact ⟨by rw [hp]; rfl, (Below.refl _ _).alloc (Nat.le_refl _) _⟩
theorem qz4w (a b c d : Int) (w : World) :
  Calls Tryz.prog 6 #[.agg #[.int .i64 a, .int .i64 b, .int .i64 c, .int .i64 d]] w fun e w' => e = .returned (.agg #[.int .i64 a, .int .i64 b, .int .i64 c, .int .i64 d]) /\ Below w.heap.size w w' := by
 go_enter Tryz.func6, Tryz.ntmps6
 go_wp2
 exact bodyPost_ret (v := .agg #[.int .i64 a, .int .i64 b, .int .i64 c, .int .i64 d]) (by simp [results, Tryz.results6, go_sem]) rfl ⟨rfl, (((Below.refl _ _).alloc (Nat.le_refl _) _).alloc (by simp) _).alloc (by simp; omega) _⟩
theorem qzcd {W w1 : World} (hb : Below W.heap.size W w1) : (∀ b o, b < W.heap.size -> w1.cell? ⟨b, o, none⟩ = W.cell? ⟨b, o, none⟩) /\ (∀ b o, b < W.heap.size -> w1.frozen? ⟨b, o, none⟩ = W.frozen? ⟨b, o, none⟩) :=
 ⟨fun b o h => hb.cell (p := ⟨b, o, none⟩) h, fun b o h => hb.frozen (p := ⟨b, o, none⟩) h⟩
def qza5 (W : World) (b : Nat) (x y z u : Int) : Prop :=
 W.cell? ⟨b, 0, none⟩ = some (.int .i64 x) /\ W.cell? ⟨b, 1, none⟩ = some (.int .i64 y) /\ W.cell? ⟨b, 2, none⟩ = some (.int .i64 z) /\ W.cell? ⟨b, 3, none⟩ = some (.int .i64 u)
theorem qz2u (w : World) (x y z u : Int) (T : TypeId) : qza5 (w.alloc (.cells #[.int .i64 x, .int .i64 y, .int .i64 z, .int .i64 u] T)) w.heap.size x y z u := by
 refine ⟨?_, ?_, ?_, ?_⟩ <;> simp
theorem qza5.below {W w1 : World} {b : Nat} {x y z u : Int} (h : qza5 W b x y z u) (hb : Below W.heap.size W w1) (hlt : b < W.heap.size) : qza5 w1 b x y z u := by
 obtain ⟨hc, _⟩ := qzcd hb
 obtain ⟨h0, h1, h2, h3⟩ := h
 exact ⟨(hc b 0 hlt).trans h0, (hc b 1 hlt).trans h1, (hc b 2 hlt).trans h2, (hc b 3 hlt).trans h3⟩
theorem qza6 {H : Type} {enc : TypeId × Value -> H} {W : World} {r : Reach} {b0 base : Nat} {spare : Nat -> Bool} {held : Bool} {v : Value} {d : DataW H} {p : List MemPlace} (hv : Value.okWide Tryz.prog W r b0 23 v) (h : DataW.Trod enc Tryz.prog W base spare held 23 v d p) :
  ∃ x y z u : Int, v = .agg #[.int .i64 x, .int .i64 y, .int .i64 z, .int .i64 u] /\ (Lit.int .i64 x).wf = true /\ (Lit.int .i64 y).wf = true /\ (Lit.int .i64 z).wf = true /\ (Lit.int .i64 u).wf = true := by
 obtain ⟨c0, c1, c2, c3, y0, y1, y2, y3, n, rfl, _, _, h0, h1, h2, h3⟩ := Go.Joins.open_agg4 Tryz.underlying23 (by kernel_rfl) (by kernel_rfl) hv h
 obtain ⟨x, e0, _, wx⟩ := DataW.trod_int Tryz.underlying2 h0
 obtain ⟨y, e1, _, wy⟩ := DataW.trod_int Tryz.underlying2 h1
 obtain ⟨z, e2, _, wz⟩ := DataW.trod_int Tryz.underlying2 h2
 obtain ⟨u, e3, _, wu⟩ := DataW.trod_int Tryz.underlying2 h3
 simp at e0 e1 e2 e3
 subst e0 e1 e2 e3
 exact ⟨x, y, z, u, rfl, wx, wy, wz, wu⟩
def qzar (a b c d n : Int) : Bool := qz3e a b c d && inB n 0 (a - 1)
theorem qz9a (x y z u n : Int) (w : World) :
  Calls Tryz.prog 50 #[.agg #[.int .i64 x, .int .i64 y, .int .i64 z, .int .i64 u], .int .i64 n] w fun e w' => e = .returned (.bool (qzar x y z u n)) /\ Below w.heap.size w w' := by
 have P0 := qz2u w x y z u 43
 cases h : qz3e x y z u
 ·have hp : qzar x y z u n = false := by simp [qzar, h]
  go_enter Tryz.func50, Tryz.ntmps50
  go_wp2_with fail
  refine (qz4l _ _ _ _ _).mono ?_
  rintro e w1 ⟨rfl, hb1⟩
  go_wp2
  go_ret
  exact ⟨by rw [hp]; rfl, ((Below.refl _ _).alloc (Nat.le_refl _) _).trans (hb1.mono (by simp))⟩
 ·have hp : qzar x y z u n = inB n 0 (x - 1) := by simp [qzar, h]
  have hr := (qz3y x y z u).1 h
  have hx1 : 1 <= x := hr.1.1
  have hx2 : x <= 8 := hr.1.2
  clear hr
  go_enter Tryz.func50, Tryz.ntmps50
  go_wp2_with fail
  refine (qz4l _ _ _ _ _).mono ?_
  rintro e w1 ⟨rfl, hb1⟩
  obtain ⟨c0, c1, c2, c3⟩ := P0.below hb1 (by simp)
  go_wp2_with fail
  refine (qze _ _ _ _).mono ?_
  rintro e w2 ⟨rfl, rfl⟩
  go_wp2
  go_ret
  exact ⟨by rw [hp]; rfl, ((Below.refl _ _).alloc (Nat.le_refl _) _).trans (hb1.mono (by simp))⟩
end
section
open Go.RowKit
theorem qzf (w : World) (C : Array Value) (T : TypeId) (n : Nat) (h : n <= C.size) : (w.alloc (.cells C T)).there w.heap.size 0 n := by
 intro j hj
 rw [Nat.zero_add, World.cell?_alloc_new]
 refine ⟨?_, by simp⟩
 rw [Array.getElem?_eq_getElem (by omega)]
 rfl
theorem qz5 (w : World) (cs : List Value) (T : TypeId) : (w.alloc (.cells cs.toArray T)).rangeAt w.heap.size 0 cs := by
 intro j v hv
 rw [Nat.zero_add, World.cell?_alloc_new]
 simpa using hv
theorem qz0 {w w' : World} {B b o : Nat} {cs : List Value} (h : w.rangeAt b o cs) (hb : Below B w w') (hB : b < B) : w'.rangeAt b o cs :=
 fun j v hv => (hb.cell (p := ⟨b, o + j, none⟩) hB).trans (h j v hv)
theorem qz3 {w w' : World} {B b o n : Nat} (h : w.there b o n) (hb : Below B w w') (hB : b < B) : w'.there b o n :=
 fun j hj => by rw [hb.cell (p := ⟨b, o + j, none⟩) hB, hb.frozen (p := ⟨b, o + j, none⟩) hB]; exact h j hj
theorem qz13 (b : Nat) : ∀ (vs : List Value) (o : Nat) (w : World), (w.setCells b o vs).heap.size = w.heap.size
 | [], _, _ => rfl
 | v :: vs, o, w => by
  show ((w.setCell ⟨b, o, none⟩ v).setCells b (o + 1) vs).heap.size = _
  rw [qz13 b vs (o + 1), World.size_setCell]
theorem Below.setCells {B b : Nat} {a : World} (hB : B <= b) : ∀ (vs : List Value) (o : Nat) (w : World), Below B a w -> Below B a (w.setCells b o vs)
 | [], _, _, h => h
 | v :: vs, o, w, h => Below.setCells hB vs (o + 1) (w.setCell ⟨b, o, none⟩ v) (h.setCell hB v)
theorem qz2 {w : World} {b o n : Nat} (h : w.there b o n) (a : Addr) (v : Value) : (w.setCell a v).there b o n := by
 intro j hj
 refine ⟨?_, (World.frozen?_setCell _ _ _ _).trans (h j hj).2⟩
 by_cases e : a = ⟨b, o + j, none⟩
 ·subst e
  obtain ⟨u, hu⟩ := Option.isSome_iff_exists.1 (h j hj).1
  rw [World.cell?_setCell_same _ _ _ hu]
  rfl
 ·rw [World.cell?_setCell_other _ _ _ _ e]
  exact (h j hj).1
theorem qz4 {P : Program} {fn : Func} {p : Tmp} {ty : TypeId} (h : fn.results = #[.cell p ty]) (tmps : Array Value) (w : World) (b o : Nat) (hp : tmps.getD p undef = .pointer (some ⟨b, o, none⟩))
  (cs : List Value) (d : TypeDesc) (hc : w.rangeAt b o cs) (hu : P.underlying ty = some d) (hd : d.isRow = true) (hi : (P.info? ty).map (·.size) = some cs.length) : (results fn tmps).run P w = .ok (.agg cs.toArray) w := by
 have hl := run_loadVar_mid (P := P) w b o ty cs d hc hu hd hi
 rw [Array.getD_eq_getD_getElem?] at hp
 simp [results, h, hp, asAddr, hl]
theorem qz1p {P : Program} {fn : Func} {p q : Tmp} {ty : TypeId} (h : fn.results = #[.cell p ty, .tmp q]) (tmps : Array Value) (w : World) (b o : Nat) (hp : tmps.getD p undef = .pointer (some ⟨b, o, none⟩))
  (cs : List Value) (d : TypeDesc) (hc : w.rangeAt b o cs) (hu : P.underlying ty = some d) (hd : d.isRow = true) (hi : (P.info? ty).map (·.size) = some cs.length) : (results fn tmps).run P w = .ok (.tuple #[.agg cs.toArray, tmps.getD q undef]) w := by
 have hl := run_loadVar_mid (P := P) w b o ty cs d hc hu hd hi
 rw [Array.getD_eq_getD_getElem?] at hp
 simp [results, h, hp, asAddr, Result.andThen, hl]
end
section
attribute [local go_sem ↓] Go.wp_at_zero Go.wp_at_succ
structure Nd where
 key : Int
 value : Int
 head : Int
structure Vr where
 next : Int
 gone : Bool
 stamp : Int
 prev : Int
 kind : Int
structure Ar where
 camera : Int
 slots : List Int
 guides : List Int
 nodes : List Nd
 vers : List Vr
def intC (n : Int) : List Value := [.int .i64 n]
def ndC (x : Nd) : List Value := [.int .i64 x.key, .int .i64 x.value, .int .i64 x.head]
def vrC (x : Vr) : List Value := [.int .i64 x.next, .bool x.gone, .int .i64 x.stamp, .int .i64 x.prev, .int .i64 x.kind]
def qz9 {α : Type} (f : α -> List Value) (l : List α) : List Value := l.flatMap f
theorem qzj {α : Type} {f : α -> List Value} {sz : Nat} (hf : ∀ x, (f x).length = sz) (l : List α) : (qz9 f l).length = l.length * sz := by
 induction l with
 | nil => simp [qz9]
 | cons x l ih => simp only [qz9, List.flatMap_cons, List.length_append, List.length_cons] at ih ⊢; rw [ih, hf, Nat.add_mul]; omega
theorem qz1c {α : Type} (f : α -> List Value) (l : List α) (x : α) : qz9 f (l ++ [x]) = qz9 f l ++ f x := by simp [qz9]
theorem qz1i {α : Type} {f : α -> List Value} {sz : Nat} (hf : ∀ x, (f x).length = sz) : ∀ (l : List α) (i : Nat) (hi : i < l.length) (j : Nat), j < sz -> (qz9 f l)[i * sz + j]? = (f l[i])[j]?
 | x :: l, 0, _, j, hj => by
  simp only [qz9, List.flatMap_cons, Nat.zero_mul, Nat.zero_add, List.getElem_cons_zero]
  rw [List.getElem?_append_left (by rw [hf]; exact hj)]
 | x :: l, i + 1, hi, j, hj => by
  have ih := qz1i hf l i (by simpa using hi) j hj
  simp only [qz9, List.flatMap_cons, List.getElem_cons_succ] at ih ⊢
  rw [List.getElem?_append_right (by rw [hf, Nat.add_mul]; omega), hf, <- ih]
  congr 1
  rw [Nat.add_mul]
  omega
def qzh (B : Nat) (w : World) (v : Value) (len : Nat) (cs : List Value) : Prop :=
 ∃ a cap, v = .slice a len cap /\ (len = 0 ∨ ∃ bb off, a = some ⟨bb, off, none⟩ /\ bb < B /\ w.rangeAt bb off cs)
theorem qzh.below {B : Nat} {w w' : World} {v : Value} {len : Nat} {cs : List Value} (h : qzh B w v len cs) (hb : Below B w w') : qzh B w' v len cs := by
 obtain ⟨a, cap, rfl, h⟩ := h
 refine ⟨a, cap, rfl, ?_⟩
 rcases h with h | ⟨bb, off, rfl, h1, h2⟩
 ·exact Or.inl h
 ·exact Or.inr ⟨bb, off, rfl, h1, qz0 h2 hb h1⟩
theorem qzh.weaken {B B' : Nat} {w : World} {v : Value} {len : Nat} {cs : List Value} (h : qzh B w v len cs) (hB : B <= B') : qzh B' w v len cs := by
 obtain ⟨a, cap, rfl, h⟩ := h
 refine ⟨a, cap, rfl, ?_⟩
 rcases h with h | ⟨bb, off, rfl, h1, h2⟩
 ·exact Or.inl h
 ·exact Or.inr ⟨bb, off, rfl, by omega, h2⟩
theorem qz3o {w : World} {b o : Nat} {cs : List Value} (R : w.rangeAt b o cs) (h : (w.cell? ⟨b, o + cs.length, none⟩).isSome = true) (v : Value) : (w.setCell ⟨b, o + cs.length, none⟩ v).rangeAt b o (cs ++ [v]) := by
 intro j u hj
 by_cases e : j = cs.length
 ·subst e
  simp at hj
  subst hj
  obtain ⟨x, hx⟩ := Option.isSome_iff_exists.1 h
  exact World.cell?_setCell_same _ _ _ hx
 ·have hlt : j < cs.length := by
   rcases Nat.lt_or_ge j (cs ++ [v]).length with hl | hl
   ·simp at hl; omega
   ·rw [List.getElem?_eq_none hl] at hj; cases hj
  have hne : (⟨b, o + cs.length, none⟩ : Addr) ≠ ⟨b, o + j, none⟩ := by
   intro h'
   have := congrArg Addr.off h'
   simp at this
   omega
  refine (World.cell?_setCell_other _ _ _ _ hne).trans (R j u ?_)
  rw [List.getElem?_append_left hlt] at hj
  exact hj
theorem qza {α : Type} {f : α -> List Value} {sz : Nat} (hf : ∀ x, (f x).length = sz) {w : World} {b o : Nat} {l : List α} (R : w.rangeAt b o (qz9 f l)) (i : Nat) (hi : i < l.length) : w.rangeAt b (o + i * sz) (f l[i]) := by
 intro j v hj
 have hlt : j < sz := by
  rcases Nat.lt_or_ge j (f l[i]).length with h | h
  ·rw [hf] at h; exact h
  ·rw [List.getElem?_eq_none h] at hj; cases hj
 have := R (i * sz + j) v (by rw [qz1i hf l i hi j hlt]; exact hj)
 rw [Nat.add_assoc]
 exact this
theorem qz1u {w : World} {b o : Nat} {cs vs : List Value} (R : w.rangeAt b o cs) (T : w.there b (o + cs.length) vs.length) : (w.setCells b (o + cs.length) vs).rangeAt b o (cs ++ vs) := by
 have h1 := World.rangeAt_setCells_apart R b (o + cs.length) vs (Or.inr (Or.inl (Nat.le_refl _)))
 have h2 := World.rangeAt_setCells_same w b (o + cs.length) vs T
 intro j v hj
 rcases Nat.lt_or_ge j cs.length with h | h
 ·rw [List.getElem?_append_left h] at hj
  exact h1 j v hj
 ·rw [List.getElem?_append_right h] at hj
  have := h2 (j - cs.length) v hj
  rw [show o + cs.length + (j - cs.length) = o + j by omega] at this
  exact this
theorem qz1f {w : World} {b o n : Nat} (T : w.there b o n) (k m : Nat) (h : k + m <= n) : w.there b (o + k) m := by
 intro j hj
 have := T (k + j) (by omega)
 rw [<- Nat.add_assoc] at this
 exact this
theorem qzca : (Tryz.prog.info? 2).map (fun i => (i.zero, i.size, i.bytes)) = some (some (.int .i64 0), 1, 8) := by kernel_rfl
theorem qz7k (B : Nat) (v : Value) (l : List Int) (w : World) (hB : B <= w.heap.size) (hl : l.length <= 1048576) (S : qzh B w v l.length (qz9 intC l)) :
  Calls Tryz.prog 21 #[v] w fun e w' => e = .returned (.slice (some ⟨w.heap.size, 0, none⟩) l.length l.length) /\ w'.rangeAt w.heap.size 0 (qz9 intC l) /\ w'.there w.heap.size 0 l.length /\ w.heap.size < w'.heap.size /\ Below w.heap.size w w' := by
 obtain ⟨a, cap, rfl, hS⟩ := S
 have hmk := fun w => run_make_row' (P := Tryz.prog) 24 2 (.int .i64 0) 8 Tryz.underlying24 qzca rfl .i64 .i64 l.length (by omega) (by omega) w
 go_enter Tryz.func21, Tryz.ntmps21
 go_wp2
 clear hmk
 go_loopw [4] (fun i wr => ∃ k : Nat, k <= l.length /\ i = .int .i64 k /\ wr.rangeAt w.heap.size 0 (qz9 intC (l.take k)) /\ wr.there w.heap.size 0 l.length /\ w.heap.size < wr.heap.size /\ Below w.heap.size w wr) (fun i _ => l.length - (intOf i).toNat)
 case atStart => exact ⟨0, Nat.zero_le _, rfl, by simp [qz9, World.rangeAt], qzf _ _ _ _ (by rw [size_madeCells]; exact Nat.le_refl _), by simp, (Below.refl _ _).alloc (Nat.le_refl _) _⟩
 case round =>
  obtain ⟨k, hk, rfl, R, T, hz, bel⟩ := hrel
  by_cases hlt : k < l.length
  ·rcases hS with h0 | ⟨bb, off, rfl, hbb, R0⟩
   ·omega
   ·have hc := (qz0 R0 (bel.mono hB) hbb) k (.int .i64 l[k]) (by have := qz1i (f := intC) (sz := 1) (fun _ => rfl) l k hlt 0 (by omega); simpa [intC] using this)
    obtain ⟨tc, tf⟩ := T k hlt
    obtain ⟨u, hu⟩ := Option.isSome_iff_exists.1 tc
    simp only [Nat.zero_add] at hu tf
    have hlen : (qz9 intC (l.take k)).length = k := by rw [qzj (sz := 1) (fun _ => rfl), List.length_take]; omega
    have R1 := qz3o R (by rw [hlen, Nat.zero_add, hu]; rfl) (.int .i64 l[k])
    rw [hlen, Nat.zero_add] at R1
    have e1 : qz9 intC (l.take (k + 1)) = qz9 intC (l.take k) ++ [.int .i64 l[k]] := by rw [List.take_succ_eq_append_getElem hlt, qz1c]; rfl
    rw [<- e1] at R1
    clear R0 e1 hlen
    go_wp2
    go_roundw
    case rel => exact ⟨k + 1, by omega, by go_num, R1, qz2 T _ _, by rw [World.size_setCell]; exact hz, bel.setCell (Nat.le_refl _) _⟩
    case measure => simp [intOf]; omega
  ·obtain rfl : k = l.length := by omega
   go_wp2
   go_ret
   exact ⟨rfl, by simpa using R, T, hz, bel⟩
theorem qz9n (x : Nd) (w : World) :
  Calls Tryz.prog 46 #[.agg (ndC x).toArray] w fun e w' => e = .returned (.agg (ndC x).toArray) /\ Below w.heap.size w w' := by
 show Calls Tryz.prog 46 #[.agg #[.int .i64 x.key, .int .i64 x.value, .int .i64 x.head]] w fun e w' => e = .returned (.agg #[.int .i64 x.key, .int .i64 x.value, .int .i64 x.head]) /\ Below w.heap.size w w'
 go_enter Tryz.func46, Tryz.ntmps46
 go_wp2
 exact bodyPost_ret (v := .agg #[.int .i64 x.key, .int .i64 x.value, .int .i64 x.head]) (by simp [results, Tryz.results46, go_sem]) rfl ⟨rfl, (((Below.refl _ _).alloc (Nat.le_refl _) _).alloc (by simp) _).alloc (by simp; omega) _⟩
theorem qzak (x : Vr) (w : World) :
  Calls Tryz.prog 47 #[.agg (vrC x).toArray] w fun e w' => e = .returned (.agg (vrC x).toArray) /\ Below w.heap.size w w' := by
 show Calls Tryz.prog 47 #[.agg #[.int .i64 x.next, .bool x.gone, .int .i64 x.stamp, .int .i64 x.prev, .int .i64 x.kind]] w fun e w' => e = .returned (.agg #[.int .i64 x.next, .bool x.gone, .int .i64 x.stamp, .int .i64 x.prev, .int .i64 x.kind]) /\ Below w.heap.size w w'
 go_enter Tryz.func47, Tryz.ntmps47
 go_wp2
 exact bodyPost_ret (v := .agg #[.int .i64 x.next, .bool x.gone, .int .i64 x.stamp, .int .i64 x.prev, .int .i64 x.kind]) (by simp [results, Tryz.results47, go_sem]) rfl ⟨rfl, (((Below.refl _ _).alloc (Nat.le_refl _) _).alloc (by simp) _).alloc (by simp; omega) _⟩
theorem qz62 : (Tryz.prog.info? 65).map (fun i => (i.zero, i.size, i.bytes)) = some (some (.agg #[.int .i64 0, .int .i64 0, .int .i64 0]), 3, 24) := by kernel_rfl
theorem qz9l (x : Nd) : (Tryz.prog.info? 65).map (fun i => i.size) = some (ndC x).toArray.size := by
 show _ = some 3
 kernel_rfl
theorem qz83 (x : Nd) : (Tryz.prog.info? 65).map (fun i => i.size) = some (ndC x).length := by
 show _ = some 3
 kernel_rfl
theorem qza7 (x : Nd) : (Tryz.prog.info? 83).map (fun i => i.size) = some (ndC x).length := by
 show _ = some 3
 kernel_rfl
theorem qz8i (B : Nat) (v : Value) (l : List Nd) (w : World) (hB : B <= w.heap.size) (hl : l.length <= 1048576) (S : qzh B w v l.length (qz9 ndC l)) :
  Calls Tryz.prog 22 #[v] w fun e w' => e = .returned (.slice (some ⟨w.heap.size, 0, none⟩) l.length l.length) /\ w'.rangeAt w.heap.size 0 (qz9 ndC l) /\ w'.there w.heap.size 0 (l.length * 3) /\ w.heap.size < w'.heap.size /\ Below w.heap.size w w' := by
 obtain ⟨a, cap, rfl, hS⟩ := S
 obtain ⟨i0, hi, hz0, hz1, hz2⟩ := info_parts qz62
 have hmk : ∀ w : World, (Instr.makeSlice 32 (.int .i64 (l.length : Int)) (.int .i64 (l.length : Int))).run Tryz.prog w = .ok (.slice (some ⟨w.heap.size, 0, none⟩) l.length l.length) (w.alloc (.cells (madeCells (.agg #[.int .i64 0, .int .i64 0, .int .i64 0] : Value).cells (l.length * 3)) 65)) := by
  intro w
  have h := run_make (P := Tryz.prog) w 32 65 i0 _ Tryz.underlying32 hi hz0 .i64 .i64 l.length l.length (by omega) (by omega) (by rw [hz2]; omega) (by omega)
  simpa [hz1] using h
 clear hi hz0 hz1 hz2
 go_enter Tryz.func22, Tryz.ntmps22
 go_wp2
 clear hmk
 go_loopw [4] (fun i wr => ∃ k : Nat, k <= l.length /\ i = .int .i64 k /\ wr.rangeAt w.heap.size 0 (qz9 ndC (l.take k)) /\ wr.there w.heap.size 0 (l.length * 3) /\ w.heap.size < wr.heap.size /\ Below w.heap.size w wr) (fun i _ => l.length - (intOf i).toNat)
 case atStart => exact ⟨0, Nat.zero_le _, rfl, by simp [qz9, World.rangeAt], qzf _ _ _ _ (by rw [size_madeCells]; exact Nat.le_refl _), by simp, (Below.refl _ _).alloc (Nat.le_refl _) _⟩
 case round =>
  obtain ⟨k, hk, rfl, R, T, hz, bel⟩ := hrel
  by_cases hlt : k < l.length
  ·rcases hS with h0 | ⟨bb, off, rfl, hbb, R0⟩
   ·omega
   ·have E0 := qza (sz := 3) (fun _ => rfl) (qz0 R0 (bel.mono hB) hbb) k hlt
    clear R0
    go_wp2_with (refine wpList_load_mid rfl 83 (.tmp 18) rfl bb (off + k * 3) rfl (ndC l[k]) _ ?hc Tryz.underlying83 rfl (qza7 _) ?_)
    case hc => exact E0
    refine (qz9n _ _).mono ?_
    rintro e w1 ⟨rfl, b1⟩
    have hk3 : k * 3 + 3 <= l.length * 3 := by omega
    have R1 := qz0 R b1 hz
    have T1 := qz3 T b1 hz
    have hlen : (qz9 ndC (l.take k)).length = k * 3 := by rw [qzj (sz := 3) (fun _ => rfl), List.length_take]; omega
    have T2 := qz1f T1 (k * 3) 3 hk3
    have G := qz1u R1 (vs := ndC l[k]) (by rw [hlen]; exact T2)
    rw [hlen, <- qz1c, <- List.take_succ_eq_append_getElem hlt] at G
    simp only [Nat.zero_add] at G T2
    have z1 := b1.size
    have B2 := bel.trans (b1.mono (by omega))
    clear E0 R R1 hlen
    go_wp2_with (refine wpList_store_mid rfl 65 (.tmp 21) (.tmp 20) rfl w.heap.size (k * 3) _ rfl rfl ?ht ?hi ?h1 ?_)
    case ht => exact T2
    case hi => exact qz9l _
    case h1 => simp [ndC, Value.oneCell']
    go_roundw
    case rel => exact ⟨k + 1, by omega, by go_num, G, World.there_setCells T1 _ _ _, by rw [qz13]; omega, Below.setCells (Nat.le_refl _) _ _ _ B2⟩
    case measure => simp [intOf]; omega
  ·obtain rfl : k = l.length := by omega
   go_wp2
   go_ret
   exact ⟨rfl, by simpa using R, T, hz, bel⟩
theorem qz7x : (Tryz.prog.info? 80).map (fun i => (i.zero, i.size, i.bytes)) = some (some (.agg #[.int .i64 0, .bool false, .int .i64 0, .int .i64 0, .int .i64 0]), 5, 40) := by kernel_rfl
theorem qzao (x : Vr) : (Tryz.prog.info? 80).map (fun i => i.size) = some (vrC x).toArray.size := by
 show _ = some 5
 kernel_rfl
theorem qz9t (x : Vr) : (Tryz.prog.info? 80).map (fun i => i.size) = some (vrC x).length := by
 show _ = some 5
 kernel_rfl
theorem qzav (x : Vr) : (Tryz.prog.info? 85).map (fun i => i.size) = some (vrC x).length := by
 show _ = some 5
 kernel_rfl
theorem qz94 (B : Nat) (v : Value) (l : List Vr) (w : World) (hB : B <= w.heap.size) (hl : l.length <= 1048576) (S : qzh B w v l.length (qz9 vrC l)) :
  Calls Tryz.prog 23 #[v] w fun e w' => e = .returned (.slice (some ⟨w.heap.size, 0, none⟩) l.length l.length) /\ w'.rangeAt w.heap.size 0 (qz9 vrC l) /\ w'.there w.heap.size 0 (l.length * 5) /\ w.heap.size < w'.heap.size /\ Below w.heap.size w w' := by
 obtain ⟨a, cap, rfl, hS⟩ := S
 obtain ⟨i0, hi, hz0, hz1, hz2⟩ := info_parts qz7x
 have hmk : ∀ w : World, (Instr.makeSlice 33 (.int .i64 (l.length : Int)) (.int .i64 (l.length : Int))).run Tryz.prog w = .ok (.slice (some ⟨w.heap.size, 0, none⟩) l.length l.length) (w.alloc (.cells (madeCells (.agg #[.int .i64 0, .bool false, .int .i64 0, .int .i64 0, .int .i64 0] : Value).cells (l.length * 5)) 80)) := by
  intro w
  have h := run_make (P := Tryz.prog) w 33 80 i0 _ Tryz.underlying33 hi hz0 .i64 .i64 l.length l.length (by omega) (by omega) (by rw [hz2]; omega) (by omega)
  simpa [hz1] using h
 clear hi hz0 hz1 hz2
 go_enter Tryz.func23, Tryz.ntmps23
 go_wp2
 clear hmk
 go_loopw [4] (fun i wr => ∃ k : Nat, k <= l.length /\ i = .int .i64 k /\ wr.rangeAt w.heap.size 0 (qz9 vrC (l.take k)) /\ wr.there w.heap.size 0 (l.length * 5) /\ w.heap.size < wr.heap.size /\ Below w.heap.size w wr) (fun i _ => l.length - (intOf i).toNat)
 case atStart => exact ⟨0, Nat.zero_le _, rfl, by simp [qz9, World.rangeAt], qzf _ _ _ _ (by rw [size_madeCells]; exact Nat.le_refl _), by simp, (Below.refl _ _).alloc (Nat.le_refl _) _⟩
 case round =>
  obtain ⟨k, hk, rfl, R, T, hz, bel⟩ := hrel
  by_cases hlt : k < l.length
  ·rcases hS with h0 | ⟨bb, off, rfl, hbb, R0⟩
   ·omega
   ·have E0 := qza (sz := 5) (fun _ => rfl) (qz0 R0 (bel.mono hB) hbb) k hlt
    clear R0
    go_wp2_with (refine wpList_load_mid rfl 85 (.tmp 18) rfl bb (off + k * 5) rfl (vrC l[k]) _ ?hc Tryz.underlying85 rfl (qzav _) ?_)
    case hc => exact E0
    refine (qzak _ _).mono ?_
    rintro e w1 ⟨rfl, b1⟩
    have hk3 : k * 5 + 5 <= l.length * 5 := by omega
    have R1 := qz0 R b1 hz
    have T1 := qz3 T b1 hz
    have hlen : (qz9 vrC (l.take k)).length = k * 5 := by rw [qzj (sz := 5) (fun _ => rfl), List.length_take]; omega
    have T2 := qz1f T1 (k * 5) 5 hk3
    have G := qz1u R1 (vs := vrC l[k]) (by rw [hlen]; exact T2)
    rw [hlen, <- qz1c, <- List.take_succ_eq_append_getElem hlt] at G
    simp only [Nat.zero_add] at G T2
    have z1 := b1.size
    have B2 := bel.trans (b1.mono (by omega))
    clear E0 R R1 hlen
    go_wp2_with (refine wpList_store_mid rfl 80 (.tmp 21) (.tmp 20) rfl w.heap.size (k * 5) _ rfl rfl ?ht ?hi ?h1 ?_)
    case ht => exact T2
    case hi => exact qzao _
    case h1 => simp [vrC, Value.oneCell']
    go_roundw
    case rel => exact ⟨k + 1, by omega, by go_num, G, World.there_setCells T1 _ _ _, by rw [qz13]; omega, Below.setCells (Nat.le_refl _) _ _ _ B2⟩
    case measure => simp [intOf]; omega
  ·obtain rfl : k = l.length := by omega
   go_wp2
   go_ret
   exact ⟨rfl, by simpa using R, T, hz, bel⟩
structure qzi (B : Nat) (w : World) (s g n r : Value) (A : Ar) : Prop where
 s : qzh B w s A.slots.length (qz9 intC A.slots)
 g : qzh B w g A.guides.length (qz9 intC A.guides)
 n : qzh B w n A.nodes.length (qz9 ndC A.nodes)
 r : qzh B w r A.vers.length (qz9 vrC A.vers)
def Ar.size (A : Ar) : Nat := A.slots.length + A.guides.length + A.nodes.length + A.vers.length
theorem qzi.below {B : Nat} {w w' : World} {s g n r : Value} {A : Ar} (I : qzi B w s g n r A) (hb : Below B w w') : qzi B w' s g n r A :=
 ⟨I.s.below hb, I.g.below hb, I.n.below hb, I.r.below hb⟩
theorem qzi.weaken {B B' : Nat} {w : World} {s g n r : Value} {A : Ar} (I : qzi B w s g n r A) (hB : B <= B') : qzi B' w s g n r A :=
 ⟨I.s.weaken hB, I.g.weaken hB, I.n.weaken hB, I.r.weaken hB⟩
theorem qzh.mk {w : World} {b len : Nat} {cs : List Value} (h : b < w.heap.size) (R : w.rangeAt b 0 cs) : qzh w.heap.size w (.slice (some ⟨b, 0, none⟩) len len) len cs :=
 ⟨_, _, rfl, Or.inr ⟨b, 0, rfl, h, R⟩⟩
theorem qz6 {w : World} {b : Nat} {cs : List Value} (R : w.rangeAt b 0 cs) (k : Nat) (hk : k < cs.length) (v : Value) : (w.setCell ⟨b, k, none⟩ v).rangeAt b 0 (cs.set k v) := by
 intro j u hj
 rw [Nat.zero_add]
 by_cases e : k = j
 ·subst e
  rw [List.getElem?_set_self hk] at hj
  cases hj
  have := R k cs[k] (List.getElem?_eq_getElem hk)
  rw [Nat.zero_add] at this
  exact World.cell?_setCell_same _ _ _ this
 ·rw [List.getElem?_set_ne e] at hj
  have := R j u hj
  rw [Nat.zero_add] at this
  exact (World.cell?_setCell_other _ _ _ _ (by simp)).trans this
theorem qzp {w : World} {b o : Nat} {cs : List Value} (R : w.rangeAt b o cs) {a : Addr} (h : a.block ≠ b) (v : Value) : (w.setCell a v).rangeAt b o cs := by
 intro j u hj
 refine (World.cell?_setCell_other _ _ _ _ ?_).trans (R j u hj)
 intro e
 exact h (by rw [e])
theorem row5 {w : World} {b : Nat} {v0 v1 v2 v3 v4 : Value} (R : w.rangeAt b 0 [v0, v1, v2, v3, v4]) : w.cell? ⟨b, 0, none⟩ = some v0 /\ w.cell? ⟨b, 1, none⟩ = some v1 /\ w.cell? ⟨b, 2, none⟩ = some v2 /\ w.cell? ⟨b, 3, none⟩ = some v3 /\ w.cell? ⟨b, 4, none⟩ = some v4 := by
 refine ⟨?_, ?_, ?_, ?_, ?_⟩
 ·simpa using R 0 v0 rfl
 ·simpa using R 1 v1 rfl
 ·simpa using R 2 v2 rfl
 ·simpa using R 3 v3 rfl
 ·simpa using R 4 v4 rfl
structure qz4f (w : World) (b : Nat) (cs : List Value) (n : Nat) : Prop where
 row : w.rangeAt b 0 cs
 may : w.there b 0 n
theorem qz4f.below {w w' : World} {B b n : Nat} {cs : List Value} (h : qz4f w b cs n) (hb : Below B w w') (hB : b < B) : qz4f w' b cs n := ⟨qz0 h.row hb hB, qz3 h.may hb hB⟩
theorem qz4f.setCell_ne {w : World} {b n : Nat} {cs : List Value} (h : qz4f w b cs n) {a : Addr} (hne : a.block ≠ b) (v : Value) : qz4f (w.setCell a v) b cs n := ⟨qzp h.row hne v, qz2 h.may a v⟩
theorem qz4f.setCells_ne {w : World} {b n c o : Nat} {cs vs : List Value} (h : qz4f w b cs n) (hne : b ≠ c) : qz4f (w.setCells c o vs) b cs n := ⟨World.rangeAt_setCells_apart h.row _ _ _ (Or.inl hne), World.there_setCells h.may c o vs⟩
theorem qz50 (B : Nat) (v : Value) (l : List Int) (w : World) (hB : B <= w.heap.size) (hl : l.length <= 1048576) (S : qzh B w v l.length (qz9 intC l)) :
  Calls Tryz.prog 21 #[v] w fun e w' => ∃ b, e = .returned (.slice (some ⟨b, 0, none⟩) l.length l.length) /\ w.heap.size <= b /\ b < w'.heap.size /\ qz4f w' b (qz9 intC l) (l.length * 1) /\ Below w.heap.size w w' :=
 (qz7k B v l w hB hl S).mono fun e w' ⟨h1, h2, h3, h4, h5⟩ => ⟨_, h1, Nat.le_refl _, h4, ⟨h2, by rw [Nat.mul_one]; exact h3⟩, h5⟩
theorem qz8h (B : Nat) (v : Value) (l : List Nd) (w : World) (hB : B <= w.heap.size) (hl : l.length <= 1048576) (S : qzh B w v l.length (qz9 ndC l)) :
  Calls Tryz.prog 22 #[v] w fun e w' => ∃ b, e = .returned (.slice (some ⟨b, 0, none⟩) l.length l.length) /\ w.heap.size <= b /\ b < w'.heap.size /\ qz4f w' b (qz9 ndC l) (l.length * 3) /\ Below w.heap.size w w' :=
 (qz8i B v l w hB hl S).mono fun e w' ⟨h1, h2, h3, h4, h5⟩ => ⟨_, h1, Nat.le_refl _, h4, ⟨h2, h3⟩, h5⟩
theorem qz93 (B : Nat) (v : Value) (l : List Vr) (w : World) (hB : B <= w.heap.size) (hl : l.length <= 1048576) (S : qzh B w v l.length (qz9 vrC l)) :
  Calls Tryz.prog 23 #[v] w fun e w' => ∃ b, e = .returned (.slice (some ⟨b, 0, none⟩) l.length l.length) /\ w.heap.size <= b /\ b < w'.heap.size /\ qz4f w' b (qz9 vrC l) (l.length * 5) /\ Below w.heap.size w w' :=
 (qz94 B v l w hB hl S).mono fun e w' ⟨h1, h2, h3, h4, h5⟩ => ⟨_, h1, Nat.le_refl _, h4, ⟨h2, h3⟩, h5⟩
theorem qzay : (Tryz.prog.info? 35).map (fun i => i.size) = some 5 := by kernel_rfl
theorem qz4n (B : Nat) (A : Ar) (s g n r : Value) (w : World) (hB : B <= w.heap.size) (hA : A.size <= 1048576) (I : qzi B w s g n r A) :
  Calls Tryz.prog 7 #[.agg #[.int .i64 A.camera, s, g, n, r]] w fun e w' => ∃ p0 p1 p2 p3, e = .returned (.agg #[.int .i64 A.camera, .slice (some ⟨p0, 0, none⟩) A.slots.length A.slots.length, .slice (some ⟨p1, 0, none⟩) A.guides.length A.guides.length, .slice (some ⟨p2, 0, none⟩) A.nodes.length A.nodes.length, .slice (some ⟨p3, 0, none⟩) A.vers.length A.vers.length]) /\
   w.heap.size < p0 /\ p0 < p1 /\ p1 < p2 /\ p2 < p3 /\ p3 < w'.heap.size /\ qz4f w' p0 (qz9 intC A.slots) (A.slots.length * 1) /\ qz4f w' p1 (qz9 intC A.guides) (A.guides.length * 1) /\ qz4f w' p2 (qz9 ndC A.nodes) (A.nodes.length * 3) /\ qz4f w' p3 (qz9 vrC A.vers) (A.vers.length * 5) /\ Below w.heap.size w w' := by
 unfold Ar.size at hA
 go_enter Tryz.func7, Tryz.ntmps7
 go_wp2_with fail
 have X0 := qz5 w [.int .i64 A.camera, s, g, n, r] 28
 have Y0 := qzf (w.alloc (.cells #[.int .i64 A.camera, s, g, n, r] 28)) #[.int .i64 0, .slice none 0 0, .slice none 0 0, .slice none 0 0, .slice none 0 0] 35 5 (by decide)
 have R0 : World.rangeAt _ _ 0 [.int .i64 A.camera, .slice none 0 0, .slice none 0 0, .slice none 0 0, .slice none 0 0] := qz5 ((w.alloc (.cells #[.int .i64 A.camera, s, g, n, r] 28)).alloc (.cells #[.int .i64 0, .slice none 0 0, .slice none 0 0, .slice none 0 0, .slice none 0 0] 35)) [.int .i64 A.camera, .slice none 0 0, .slice none 0 0, .slice none 0 0, .slice none 0 0] 35
 have T0 := qzf ((w.alloc (.cells #[.int .i64 A.camera, s, g, n, r] 28)).alloc (.cells #[.int .i64 0, .slice none 0 0, .slice none 0 0, .slice none 0 0, .slice none 0 0] 35)) #[.int .i64 A.camera, .slice none 0 0, .slice none 0 0, .slice none 0 0, .slice none 0 0] 35 5 (by simp)
 have K0 := (((Below.refl w.heap.size w).alloc (Nat.le_refl _) (.cells #[.int .i64 A.camera, s, g, n, r] 28)).alloc (by simp) (.cells #[.int .i64 0, .slice none 0 0, .slice none 0 0, .slice none 0 0, .slice none 0 0] 35)).alloc (by simp; omega) (.cells #[.int .i64 A.camera, .slice none 0 0, .slice none 0 0, .slice none 0 0, .slice none 0 0] 35)
 have X1 := World.rangeAt_alloc (World.rangeAt_alloc X0 (.cells #[.int .i64 0, .slice none 0 0, .slice none 0 0, .slice none 0 0, .slice none 0 0] 35)) (.cells #[.int .i64 A.camera, .slice none 0 0, .slice none 0 0, .slice none 0 0, .slice none 0 0] 35)
 have Y1 := World.there_alloc Y0 (.cells #[.int .i64 A.camera, .slice none 0 0, .slice none 0 0, .slice none 0 0, .slice none 0 0] 35)
 simp only [World.size_alloc] at R0 T0 Y1
 have I0 := I.below (K0.mono hB)
 have hz0 : w.heap.size + 1 + 1 < (((w.alloc (.cells #[.int .i64 A.camera, s, g, n, r] 28)).alloc (.cells #[.int .i64 0, .slice none 0 0, .slice none 0 0, .slice none 0 0, .slice none 0 0] 35)).alloc (.cells #[.int .i64 A.camera, .slice none 0 0, .slice none 0 0, .slice none 0 0, .slice none 0 0] 35)).heap.size := by simp
 clear X0 Y0 I
 refine (qz50 B s A.slots _ (by have := hz0; omega) (by omega) I0.s).mono ?_
 rintro e w1 ⟨p0, rfl, q0, m0, E0, b1⟩
 have o0 : w.heap.size + 1 + 1 < p0 := Nat.lt_of_lt_of_le hz0 q0
 have X2 := qz0 X1 b1 (by have := hz0; omega)
 have Y2 := qz3 Y1 b1 (by have := hz0; omega)
 have R0' := qz0 R0 b1 hz0
 have T0' := qz3 T0 b1 hz0
 have K0' := K0.trans (b1.mono (by have := hz0; omega))
 have I0' := I0.below (b1.mono (by have := hz0; omega))
 have hz0' := Nat.lt_of_lt_of_le hz0 b1.size
 have s1 := R0' 1 (.slice none 0 0) rfl
 have s2 := (T0' 1 (by omega)).2
 simp only [Nat.zero_add] at s1 s2
 have R1 := qz6 R0' 1 (by simp) (.slice (some ⟨p0, 0, none⟩) A.slots.length A.slots.length)
 have T1 := qz2 T0' ⟨w.heap.size + 1 + 1, 1, none⟩ (.slice (some ⟨p0, 0, none⟩) A.slots.length A.slots.length)
 have bs : Below (w.heap.size + 1 + 1) w1 (w1.setCell ⟨w.heap.size + 1 + 1, 1, none⟩ (.slice (some ⟨p0, 0, none⟩) A.slots.length A.slots.length)) := Below.setCell (p := ⟨w.heap.size + 1 + 1, 1, none⟩) (Below.refl _ _) (Nat.le_refl _) _
 have X2s := qz0 X2 bs (by omega)
 have Y2s := qz3 Y2 bs (by omega)
 have K1 := K0'.trans (bs.mono (by omega))
 have I1 := I0'.below (bs.mono (by omega))
 have F0 := qz4f.setCell_ne E0 (a := ⟨w.heap.size + 1 + 1, 1, none⟩) (by simp only; omega) (.slice (some ⟨p0, 0, none⟩) A.slots.length A.slots.length)
 have hz1 : w.heap.size + 1 + 1 < (w1.setCell ⟨w.heap.size + 1 + 1, 1, none⟩ (.slice (some ⟨p0, 0, none⟩) A.slots.length A.slots.length)).heap.size := by rw [World.size_setCell]; exact hz0'
 have m0s : p0 < (w1.setCell ⟨w.heap.size + 1 + 1, 1, none⟩ (.slice (some ⟨p0, 0, none⟩) A.slots.length A.slots.length)).heap.size := by rw [World.size_setCell]; have := b1.size; omega
 clear X1 X2 Y1 Y2 R0 R0' T0 T0' K0 K0' I0 I0' bs E0 b1 m0
 have c1 := X2s 2 g rfl
 simp only [Nat.zero_add] at c1
 go_wp2_with fail
 clear s1 s2 c1
 have X2 := X2s
 have Y2 := Y2s
 clear X2s Y2s
 have E0 := F0
 have m0 := m0s
 clear F0 m0s
 refine (qz50 B g A.guides _ (by have := hz1; omega) (by omega) I1.g).mono ?_
 rintro e w2 ⟨p1, rfl, q1, m1, E1, b2⟩
 have o1 : p0 < p1 := Nat.lt_of_lt_of_le m0 q1
 have X3 := qz0 X2 b2 (by have := hz1; omega)
 have Y3 := qz3 Y2 b2 (by have := hz1; omega)
 have R1' := qz0 R1 b2 hz1
 have T1' := qz3 T1 b2 hz1
 have K1' := K1.trans (b2.mono (by have := hz1; omega))
 have I1' := I1.below (b2.mono (by have := hz1; omega))
 have E0' := E0.below b2 m0
 have hz1' := Nat.lt_of_lt_of_le hz1 b2.size
 have s1 := R1' 2 (.slice none 0 0) rfl
 have s2 := (T1' 2 (by omega)).2
 simp only [Nat.zero_add] at s1 s2
 have R2 := qz6 R1' 2 (by simp) (.slice (some ⟨p1, 0, none⟩) A.guides.length A.guides.length)
 have T2 := qz2 T1' ⟨w.heap.size + 1 + 1, 2, none⟩ (.slice (some ⟨p1, 0, none⟩) A.guides.length A.guides.length)
 have bs : Below (w.heap.size + 1 + 1) w2 (w2.setCell ⟨w.heap.size + 1 + 1, 2, none⟩ (.slice (some ⟨p1, 0, none⟩) A.guides.length A.guides.length)) := Below.setCell (p := ⟨w.heap.size + 1 + 1, 2, none⟩) (Below.refl _ _) (Nat.le_refl _) _
 have X3s := qz0 X3 bs (by omega)
 have Y3s := qz3 Y3 bs (by omega)
 have K2 := K1'.trans (bs.mono (by omega))
 have I2 := I1'.below (bs.mono (by omega))
 have F1 := qz4f.setCell_ne E1 (a := ⟨w.heap.size + 1 + 1, 2, none⟩) (by simp only; omega) (.slice (some ⟨p1, 0, none⟩) A.guides.length A.guides.length)
 have F0 := qz4f.setCell_ne E0' (a := ⟨w.heap.size + 1 + 1, 2, none⟩) (by simp only; omega) (.slice (some ⟨p1, 0, none⟩) A.guides.length A.guides.length)
 have hz2 : w.heap.size + 1 + 1 < (w2.setCell ⟨w.heap.size + 1 + 1, 2, none⟩ (.slice (some ⟨p1, 0, none⟩) A.guides.length A.guides.length)).heap.size := by rw [World.size_setCell]; exact hz1'
 have m0s : p0 < (w2.setCell ⟨w.heap.size + 1 + 1, 2, none⟩ (.slice (some ⟨p1, 0, none⟩) A.guides.length A.guides.length)).heap.size := by rw [World.size_setCell]; have := b2.size; omega
 have m1s : p1 < (w2.setCell ⟨w.heap.size + 1 + 1, 2, none⟩ (.slice (some ⟨p1, 0, none⟩) A.guides.length A.guides.length)).heap.size := by rw [World.size_setCell]; have := b2.size; omega
 clear X2 X3 Y2 Y3 R1 R1' T1 T1' K1 K1' I1 I1' bs E1 E0 E0' b2 m0 m1
 have c1 := X3s 3 n rfl
 simp only [Nat.zero_add] at c1
 go_wp2_with fail
 clear s1 s2 c1
 have X3 := X3s
 have Y3 := Y3s
 clear X3s Y3s
 have E0 := F0
 have m0 := m0s
 clear F0 m0s
 have E1 := F1
 have m1 := m1s
 clear F1 m1s
 refine (qz8h B n A.nodes _ (by have := hz2; omega) (by omega) I2.n).mono ?_
 rintro e w3 ⟨p2, rfl, q2, m2, E2, b3⟩
 have o2 : p1 < p2 := Nat.lt_of_lt_of_le m1 q2
 have X4 := qz0 X3 b3 (by have := hz2; omega)
 have Y4 := qz3 Y3 b3 (by have := hz2; omega)
 have R2' := qz0 R2 b3 hz2
 have T2' := qz3 T2 b3 hz2
 have K2' := K2.trans (b3.mono (by have := hz2; omega))
 have I2' := I2.below (b3.mono (by have := hz2; omega))
 have E0' := E0.below b3 m0
 have E1' := E1.below b3 m1
 have hz2' := Nat.lt_of_lt_of_le hz2 b3.size
 have s1 := R2' 3 (.slice none 0 0) rfl
 have s2 := (T2' 3 (by omega)).2
 simp only [Nat.zero_add] at s1 s2
 have R3 := qz6 R2' 3 (by simp) (.slice (some ⟨p2, 0, none⟩) A.nodes.length A.nodes.length)
 have T3 := qz2 T2' ⟨w.heap.size + 1 + 1, 3, none⟩ (.slice (some ⟨p2, 0, none⟩) A.nodes.length A.nodes.length)
 have bs : Below (w.heap.size + 1 + 1) w3 (w3.setCell ⟨w.heap.size + 1 + 1, 3, none⟩ (.slice (some ⟨p2, 0, none⟩) A.nodes.length A.nodes.length)) := Below.setCell (p := ⟨w.heap.size + 1 + 1, 3, none⟩) (Below.refl _ _) (Nat.le_refl _) _
 have X4s := qz0 X4 bs (by omega)
 have Y4s := qz3 Y4 bs (by omega)
 have K3 := K2'.trans (bs.mono (by omega))
 have I3 := I2'.below (bs.mono (by omega))
 have F2 := qz4f.setCell_ne E2 (a := ⟨w.heap.size + 1 + 1, 3, none⟩) (by simp only; omega) (.slice (some ⟨p2, 0, none⟩) A.nodes.length A.nodes.length)
 have F0 := qz4f.setCell_ne E0' (a := ⟨w.heap.size + 1 + 1, 3, none⟩) (by simp only; omega) (.slice (some ⟨p2, 0, none⟩) A.nodes.length A.nodes.length)
 have F1 := qz4f.setCell_ne E1' (a := ⟨w.heap.size + 1 + 1, 3, none⟩) (by simp only; omega) (.slice (some ⟨p2, 0, none⟩) A.nodes.length A.nodes.length)
 have hz3 : w.heap.size + 1 + 1 < (w3.setCell ⟨w.heap.size + 1 + 1, 3, none⟩ (.slice (some ⟨p2, 0, none⟩) A.nodes.length A.nodes.length)).heap.size := by rw [World.size_setCell]; exact hz2'
 have m0s : p0 < (w3.setCell ⟨w.heap.size + 1 + 1, 3, none⟩ (.slice (some ⟨p2, 0, none⟩) A.nodes.length A.nodes.length)).heap.size := by rw [World.size_setCell]; have := b3.size; omega
 have m1s : p1 < (w3.setCell ⟨w.heap.size + 1 + 1, 3, none⟩ (.slice (some ⟨p2, 0, none⟩) A.nodes.length A.nodes.length)).heap.size := by rw [World.size_setCell]; have := b3.size; omega
 have m2s : p2 < (w3.setCell ⟨w.heap.size + 1 + 1, 3, none⟩ (.slice (some ⟨p2, 0, none⟩) A.nodes.length A.nodes.length)).heap.size := by rw [World.size_setCell]; have := b3.size; omega
 clear X3 X4 Y3 Y4 R2 R2' T2 T2' K2 K2' I2 I2' bs E2 E0 E0' E1 E1' b3 m0 m1 m2
 have c1 := X4s 4 r rfl
 simp only [Nat.zero_add] at c1
 go_wp2_with fail
 clear s1 s2 c1
 have X4 := X4s
 have Y4 := Y4s
 clear X4s Y4s
 have E0 := F0
 have m0 := m0s
 clear F0 m0s
 have E1 := F1
 have m1 := m1s
 clear F1 m1s
 have E2 := F2
 have m2 := m2s
 clear F2 m2s
 refine (qz93 B r A.vers _ (by have := hz3; omega) (by omega) I3.r).mono ?_
 rintro e w4 ⟨p3, rfl, q3, m3, E3, b4⟩
 have o3 : p2 < p3 := Nat.lt_of_lt_of_le m2 q3
 have X5 := qz0 X4 b4 (by have := hz3; omega)
 have Y5 := qz3 Y4 b4 (by have := hz3; omega)
 have R3' := qz0 R3 b4 hz3
 have T3' := qz3 T3 b4 hz3
 have K3' := K3.trans (b4.mono (by have := hz3; omega))
 have I3' := I3.below (b4.mono (by have := hz3; omega))
 have E0' := E0.below b4 m0
 have E1' := E1.below b4 m1
 have E2' := E2.below b4 m2
 have hz3' := Nat.lt_of_lt_of_le hz3 b4.size
 have s1 := R3' 4 (.slice none 0 0) rfl
 have s2 := (T3' 4 (by omega)).2
 simp only [Nat.zero_add] at s1 s2
 have R4 := qz6 R3' 4 (by simp) (.slice (some ⟨p3, 0, none⟩) A.vers.length A.vers.length)
 have T4 := qz2 T3' ⟨w.heap.size + 1 + 1, 4, none⟩ (.slice (some ⟨p3, 0, none⟩) A.vers.length A.vers.length)
 have bs : Below (w.heap.size + 1 + 1) w4 (w4.setCell ⟨w.heap.size + 1 + 1, 4, none⟩ (.slice (some ⟨p3, 0, none⟩) A.vers.length A.vers.length)) := Below.setCell (p := ⟨w.heap.size + 1 + 1, 4, none⟩) (Below.refl _ _) (Nat.le_refl _) _
 have X5s := qz0 X5 bs (by omega)
 have Y5s := qz3 Y5 bs (by omega)
 have K4 := K3'.trans (bs.mono (by omega))
 have I4 := I3'.below (bs.mono (by omega))
 have F3 := qz4f.setCell_ne E3 (a := ⟨w.heap.size + 1 + 1, 4, none⟩) (by simp only; omega) (.slice (some ⟨p3, 0, none⟩) A.vers.length A.vers.length)
 have F0 := qz4f.setCell_ne E0' (a := ⟨w.heap.size + 1 + 1, 4, none⟩) (by simp only; omega) (.slice (some ⟨p3, 0, none⟩) A.vers.length A.vers.length)
 have F1 := qz4f.setCell_ne E1' (a := ⟨w.heap.size + 1 + 1, 4, none⟩) (by simp only; omega) (.slice (some ⟨p3, 0, none⟩) A.vers.length A.vers.length)
 have F2 := qz4f.setCell_ne E2' (a := ⟨w.heap.size + 1 + 1, 4, none⟩) (by simp only; omega) (.slice (some ⟨p3, 0, none⟩) A.vers.length A.vers.length)
 have hz4 : w.heap.size + 1 + 1 < (w4.setCell ⟨w.heap.size + 1 + 1, 4, none⟩ (.slice (some ⟨p3, 0, none⟩) A.vers.length A.vers.length)).heap.size := by rw [World.size_setCell]; exact hz3'
 have m0s : p0 < (w4.setCell ⟨w.heap.size + 1 + 1, 4, none⟩ (.slice (some ⟨p3, 0, none⟩) A.vers.length A.vers.length)).heap.size := by rw [World.size_setCell]; have := b4.size; omega
 have m1s : p1 < (w4.setCell ⟨w.heap.size + 1 + 1, 4, none⟩ (.slice (some ⟨p3, 0, none⟩) A.vers.length A.vers.length)).heap.size := by rw [World.size_setCell]; have := b4.size; omega
 have m2s : p2 < (w4.setCell ⟨w.heap.size + 1 + 1, 4, none⟩ (.slice (some ⟨p3, 0, none⟩) A.vers.length A.vers.length)).heap.size := by rw [World.size_setCell]; have := b4.size; omega
 have m3s : p3 < (w4.setCell ⟨w.heap.size + 1 + 1, 4, none⟩ (.slice (some ⟨p3, 0, none⟩) A.vers.length A.vers.length)).heap.size := by rw [World.size_setCell]; have := b4.size; omega
 clear X4 X5 Y4 Y5 R3 R3' T3 T3' K3 K3' I3 I3' bs E3 E0 E0' E1 E1' E2 E2' b4 m0 m1 m2 m3
 have G : World.rangeAt _ (w.heap.size + 1 + 1) 0 [.int .i64 A.camera, .slice (some ⟨p0, 0, none⟩) A.slots.length A.slots.length, .slice (some ⟨p1, 0, none⟩) A.guides.length A.guides.length, .slice (some ⟨p2, 0, none⟩) A.nodes.length A.nodes.length, .slice (some ⟨p3, 0, none⟩) A.vers.length A.vers.length] := R4
 go_wp2_with (first | (refine wpList_load_mid rfl 35 (.tmp 3) rfl (w.heap.size + 1 + 1) 0 rfl [.int .i64 A.camera, .slice (some ⟨p0, 0, none⟩) A.slots.length A.slots.length, .slice (some ⟨p1, 0, none⟩) A.guides.length A.guides.length, .slice (some ⟨p2, 0, none⟩) A.nodes.length A.nodes.length, .slice (some ⟨p3, 0, none⟩) A.vers.length A.vers.length] _ ?hc Tryz.underlying35 rfl qzay ?_) | (refine wpList_store_mid rfl 35 (.tmp 2) (.tmp 23) rfl (w.heap.size + 1) 0 _ rfl rfl ?ht ?hi ?h1 ?_))
 case hc => exact G
 case ht => exact Y5s
 case hi => exact qzay
 case h1 => simp [Value.oneCell']
 have ob := Below.setCells (B := w.heap.size) (b := w.heap.size + 1) (by omega) [.int .i64 A.camera, .slice (some ⟨p0, 0, none⟩) A.slots.length A.slots.length, .slice (some ⟨p1, 0, none⟩) A.guides.length A.guides.length, .slice (some ⟨p2, 0, none⟩) A.nodes.length A.nodes.length, .slice (some ⟨p3, 0, none⟩) A.vers.length A.vers.length] 0 _ K4
 refine bodyPost_ret (v := .agg #[.int .i64 A.camera, .slice (some ⟨p0, 0, none⟩) A.slots.length A.slots.length, .slice (some ⟨p1, 0, none⟩) A.guides.length A.guides.length, .slice (some ⟨p2, 0, none⟩) A.nodes.length A.nodes.length, .slice (some ⟨p3, 0, none⟩) A.vers.length A.vers.length]) ?_ rfl ⟨_, _, _, _, rfl, by omega, o1, o2, o3, by rw [qz13]; exact m3s, ?_, ?_, ?_, ?_, ob⟩
 ·exact qz4 Tryz.results7 _ _ (w.heap.size + 1) 0 rfl [.int .i64 A.camera, .slice (some ⟨p0, 0, none⟩) A.slots.length A.slots.length, .slice (some ⟨p1, 0, none⟩) A.guides.length A.guides.length, .slice (some ⟨p2, 0, none⟩) A.nodes.length A.nodes.length, .slice (some ⟨p3, 0, none⟩) A.vers.length A.vers.length] _ (World.rangeAt_setCells_same _ _ _ _ Y5s) Tryz.underlying35 rfl qzay
 ·exact F0.setCells_ne (by omega)
 ·exact F1.setCells_ne (by omega)
 ·exact F2.setCells_ne (by omega)
 ·exact F3.setCells_ne (by omega)
theorem qz87 (B : Nat) (A : Ar) (s g n r : Value) (w : World) (hB : B <= w.heap.size) (hA : A.size <= 1048576) (I : qzi B w s g n r A) :
  Calls Tryz.prog 7 #[.agg #[.int .i64 A.camera, s, g, n, r]] w fun e w' => ∃ p0 p1 p2 p3, e = .returned (.agg #[.int .i64 A.camera, .slice (some ⟨p0, 0, none⟩) A.slots.length A.slots.length, .slice (some ⟨p1, 0, none⟩) A.guides.length A.guides.length, .slice (some ⟨p2, 0, none⟩) A.nodes.length A.nodes.length, .slice (some ⟨p3, 0, none⟩) A.vers.length A.vers.length]) /\
   qzi w'.heap.size w' (.slice (some ⟨p0, 0, none⟩) A.slots.length A.slots.length) (.slice (some ⟨p1, 0, none⟩) A.guides.length A.guides.length) (.slice (some ⟨p2, 0, none⟩) A.nodes.length A.nodes.length) (.slice (some ⟨p3, 0, none⟩) A.vers.length A.vers.length) A /\ Below w.heap.size w w' :=
 (qz4n B A s g n r w hB hA I).mono fun e w' ⟨p0, p1, p2, p3, he, h0, h1, h2, h3, h4, R0, R1, R2, R3, b⟩ => ⟨p0, p1, p2, p3, he, ⟨qzh.mk (by omega) R0.row, qzh.mk (by omega) R1.row, qzh.mk (by omega) R2.row, qzh.mk h4 R3.row⟩, b⟩
end
section
attribute [local go_sem ↓] Go.wp_at_zero Go.wp_at_succ
theorem qz2m {B : Nat} {a w : World} (h : Below B a w) (n : Nat) : Below B a (w.drewN n) := ⟨h.os, h.tape, h.output, h.size, h.block⟩
theorem qz57 (B : Nat) (v1 v2 : Value) (l : List Int) (w : World) (hB : B <= w.heap.size) (hl : l.length <= 1048576) (S1 : qzh B w v1 l.length (qz9 intC l)) (S2 : qzh B w v2 l.length (qz9 intC l)) :
  Calls Tryz.prog 32 #[v1, v2] w fun e w' => e = .returned (.bool true) /\ Below w.heap.size w w' := by
 obtain ⟨a1, cap1, rfl, h1⟩ := S1
 obtain ⟨a2, cap2, rfl, h2⟩ := S2
 go_enter Tryz.func32, Tryz.ntmps32
 go_wp2
 go_loopw [5] (fun i wr => ∃ k : Nat, k <= l.length /\ i = .int .i64 k /\ Below w.heap.size w wr) (fun i _ => l.length - (intOf i).toNat)
 case atStart => exact ⟨0, Nat.zero_le _, rfl, Below.refl _ _⟩
 case round =>
  obtain ⟨k, hk, rfl, bel⟩ := hrel
  by_cases hlt : k < l.length
  ·rcases h1 with h0 | ⟨b1, o1, rfl, hb1, R1⟩
   ·omega
   rcases h2 with h0 | ⟨b2, o2, rfl, hb2, R2⟩
   ·omega
   have hc1 := (qz0 R1 (bel.mono hB) hb1) k (.int .i64 l[k]) (by have := qz1i (f := intC) (sz := 1) (fun _ => rfl) l k hlt 0 (by omega); simpa [intC] using this)
   have hc2 := (qz0 R2 (bel.mono hB) hb2) k (.int .i64 l[k]) (by have := qz1i (f := intC) (sz := 1) (fun _ => rfl) l k hlt 0 (by omega); simpa [intC] using this)
   clear R1 R2
   generalize l[k] = x at *
   have hlt' : (k : Int) < (l.length : Int) := by omega
   go_wp2
   go_quiet (fail)
   go_wp2
   go_roundw
   case rel => exact ⟨k + 1, by omega, by go_num, qz2m bel _⟩
   case measure => simp [intOf]; omega
  ·go_wp2
   go_ret
   exact ⟨rfl, bel⟩
theorem qz9j (x : Nd) (w : World) :
  Calls Tryz.prog 64 #[.agg (ndC x).toArray, .agg (ndC x).toArray] w fun e w' => e = .returned (.bool true) /\ Below w.heap.size w w' := by
 show Calls Tryz.prog 64 #[.agg #[.int .i64 x.key, .int .i64 x.value, .int .i64 x.head], .agg #[.int .i64 x.key, .int .i64 x.value, .int .i64 x.head]] w fun e w' => e = .returned (.bool true) /\ Below w.heap.size w w'
 go_enter Tryz.func64, Tryz.ntmps64
 go_wp2
 go_ret
 exact ⟨rfl, ((Below.refl _ _).alloc (Nat.le_refl _) _).alloc (by simp) _⟩
theorem qzah (x : Vr) (w : World) :
  Calls Tryz.prog 65 #[.agg (vrC x).toArray, .agg (vrC x).toArray] w fun e w' => e = .returned (.bool true) /\ Below w.heap.size w w' := by
 show Calls Tryz.prog 65 #[.agg #[.int .i64 x.next, .bool x.gone, .int .i64 x.stamp, .int .i64 x.prev, .int .i64 x.kind], .agg #[.int .i64 x.next, .bool x.gone, .int .i64 x.stamp, .int .i64 x.prev, .int .i64 x.kind]] w fun e w' => e = .returned (.bool true) /\ Below w.heap.size w w'
 go_enter Tryz.func65, Tryz.ntmps65
 go_wp2
 go_ret
 exact ⟨rfl, ((Below.refl _ _).alloc (Nat.le_refl _) _).alloc (by simp) _⟩
theorem qz88 (B : Nat) (v1 v2 : Value) (l : List Nd) (w : World) (hB : B <= w.heap.size) (hl : l.length <= 1048576) (S1 : qzh B w v1 l.length (qz9 ndC l)) (S2 : qzh B w v2 l.length (qz9 ndC l)) :
  Calls Tryz.prog 33 #[v1, v2] w fun e w' => e = .returned (.bool true) /\ Below w.heap.size w w' := by
 obtain ⟨a1, cap1, rfl, h1⟩ := S1
 obtain ⟨a2, cap2, rfl, h2⟩ := S2
 go_enter Tryz.func33, Tryz.ntmps33
 go_wp2
 go_loopw [5] (fun i wr => ∃ k : Nat, k <= l.length /\ i = .int .i64 k /\ Below w.heap.size w wr) (fun i _ => l.length - (intOf i).toNat)
 case atStart => exact ⟨0, Nat.zero_le _, rfl, Below.refl _ _⟩
 case round =>
  obtain ⟨k, hk, rfl, bel⟩ := hrel
  by_cases hlt : k < l.length
  ·rcases h1 with h0 | ⟨b1, o1, rfl, hb1, R1⟩
   ·omega
   rcases h2 with h0 | ⟨b2, o2, rfl, hb2, R2⟩
   ·omega
   have E1 := qza (sz := 3) (fun _ => rfl) (qz0 R1 (bel.mono hB) hb1) k hlt
   have E2 := qza (sz := 3) (fun _ => rfl) (qz0 R2 (bel.mono hB) hb2) k hlt
   clear R1 R2
   have hsz := bel.size
   have hlt' : (k : Int) < (l.length : Int) := by omega
   have hk0 : (0 : Int) <= (k : Int) := by omega
   generalize hx : l[k] = x at *
   clear hx
   have f10 : wr.cell? ⟨b1, o1 + k * 3, none⟩ = some (.int .i64 x.key) := E1 0 _ rfl
   have f11 : wr.cell? ⟨b1, o1 + k * 3 + 1, none⟩ = some (.int .i64 x.value) := E1 1 _ rfl
   have f12 : wr.cell? ⟨b1, o1 + k * 3 + 2, none⟩ = some (.int .i64 x.head) := E1 2 _ rfl
   have f20 : wr.cell? ⟨b2, o2 + k * 3, none⟩ = some (.int .i64 x.key) := E2 0 _ rfl
   have f21 : wr.cell? ⟨b2, o2 + k * 3 + 1, none⟩ = some (.int .i64 x.value) := E2 1 _ rfl
   have f22 : wr.cell? ⟨b2, o2 + k * 3 + 2, none⟩ = some (.int .i64 x.head) := E2 2 _ rfl
   go_wp2
   go_region_held3 (fun w' => w'.cell? ⟨b1, o1 + k * 3, none⟩ = some (.int .i64 x.key) /\ w'.cell? ⟨b1, o1 + k * 3 + 1, none⟩ = some (.int .i64 x.value) /\ w'.cell? ⟨b1, o1 + k * 3 + 2, none⟩ = some (.int .i64 x.head) /\ w'.cell? ⟨b2, o2 + k * 3, none⟩ = some (.int .i64 x.key) /\ w'.cell? ⟨b2, o2 + k * 3 + 1, none⟩ = some (.int .i64 x.value) /\ w'.cell? ⟨b2, o2 + k * 3 + 2, none⟩ = some (.int .i64 x.head)) (go_keep) ((go_at_call 64; refine (qz9j x _).mono ?_; rintro e w2 ⟨rfl, b3⟩; have E1' := qz0 E1 ((Below.refl _ wr).drew.trans b3) (show b1 < wr.heap.size by omega); have E2' := qz0 E2 ((Below.refl _ wr).drew.trans b3) (show b2 < wr.heap.size by omega); have BB : Below w.heap.size w w2 := bel.drew.trans (b3.mono (by exact hsz)); have g10 : w2.cell? ⟨b1, o1 + k * 3, none⟩ = some (.int .i64 x.key) := E1' 0 _ rfl; have g11 : w2.cell? ⟨b1, o1 + k * 3 + 1, none⟩ = some (.int .i64 x.value) := E1' 1 _ rfl; have g12 : w2.cell? ⟨b1, o1 + k * 3 + 2, none⟩ = some (.int .i64 x.head) := E1' 2 _ rfl; have g20 : w2.cell? ⟨b2, o2 + k * 3, none⟩ = some (.int .i64 x.key) := E2' 0 _ rfl; have g21 : w2.cell? ⟨b2, o2 + k * 3 + 1, none⟩ = some (.int .i64 x.value) := E2' 1 _ rfl; have g22 : w2.cell? ⟨b2, o2 + k * 3 + 2, none⟩ = some (.int .i64 x.head) := E2' 2 _ rfl))
   go_wp2
   go_roundw
   case rel => exact ⟨k + 1, by omega, by go_num, BB⟩
   case measure => simp [intOf]; omega
  ·go_wp2
   go_ret
   exact ⟨rfl, bel⟩
theorem qz9z (B : Nat) (v1 v2 : Value) (l : List Vr) (w : World) (hB : B <= w.heap.size) (hl : l.length <= 1048576) (S1 : qzh B w v1 l.length (qz9 vrC l)) (S2 : qzh B w v2 l.length (qz9 vrC l)) :
  Calls Tryz.prog 34 #[v1, v2] w fun e w' => e = .returned (.bool true) /\ Below w.heap.size w w' := by
 obtain ⟨a1, cap1, rfl, h1⟩ := S1
 obtain ⟨a2, cap2, rfl, h2⟩ := S2
 go_enter Tryz.func34, Tryz.ntmps34
 go_wp2
 go_loopw [5] (fun i wr => ∃ k : Nat, k <= l.length /\ i = .int .i64 k /\ Below w.heap.size w wr) (fun i _ => l.length - (intOf i).toNat)
 case atStart => exact ⟨0, Nat.zero_le _, rfl, Below.refl _ _⟩
 case round =>
  obtain ⟨k, hk, rfl, bel⟩ := hrel
  by_cases hlt : k < l.length
  ·rcases h1 with h0 | ⟨b1, o1, rfl, hb1, R1⟩
   ·omega
   rcases h2 with h0 | ⟨b2, o2, rfl, hb2, R2⟩
   ·omega
   have E1 := qza (sz := 5) (fun _ => rfl) (qz0 R1 (bel.mono hB) hb1) k hlt
   have E2 := qza (sz := 5) (fun _ => rfl) (qz0 R2 (bel.mono hB) hb2) k hlt
   clear R1 R2
   have hsz := bel.size
   have hlt' : (k : Int) < (l.length : Int) := by omega
   have hk0 : (0 : Int) <= (k : Int) := by omega
   generalize hx : l[k] = x at *
   clear hx
   have f10 : wr.cell? ⟨b1, o1 + k * 5, none⟩ = some (.int .i64 x.next) := E1 0 _ rfl
   have f11 : wr.cell? ⟨b1, o1 + k * 5 + 1, none⟩ = some (.bool x.gone) := E1 1 _ rfl
   have f12 : wr.cell? ⟨b1, o1 + k * 5 + 2, none⟩ = some (.int .i64 x.stamp) := E1 2 _ rfl
   have f13 : wr.cell? ⟨b1, o1 + k * 5 + 3, none⟩ = some (.int .i64 x.prev) := E1 3 _ rfl
   have f14 : wr.cell? ⟨b1, o1 + k * 5 + 4, none⟩ = some (.int .i64 x.kind) := E1 4 _ rfl
   have f20 : wr.cell? ⟨b2, o2 + k * 5, none⟩ = some (.int .i64 x.next) := E2 0 _ rfl
   have f21 : wr.cell? ⟨b2, o2 + k * 5 + 1, none⟩ = some (.bool x.gone) := E2 1 _ rfl
   have f22 : wr.cell? ⟨b2, o2 + k * 5 + 2, none⟩ = some (.int .i64 x.stamp) := E2 2 _ rfl
   have f23 : wr.cell? ⟨b2, o2 + k * 5 + 3, none⟩ = some (.int .i64 x.prev) := E2 3 _ rfl
   have f24 : wr.cell? ⟨b2, o2 + k * 5 + 4, none⟩ = some (.int .i64 x.kind) := E2 4 _ rfl
   go_wp2
   go_region_held3 (fun w' => w'.cell? ⟨b1, o1 + k * 5, none⟩ = some (.int .i64 x.next) /\ w'.cell? ⟨b1, o1 + k * 5 + 1, none⟩ = some (.bool x.gone) /\ w'.cell? ⟨b1, o1 + k * 5 + 2, none⟩ = some (.int .i64 x.stamp) /\ w'.cell? ⟨b1, o1 + k * 5 + 3, none⟩ = some (.int .i64 x.prev) /\ w'.cell? ⟨b1, o1 + k * 5 + 4, none⟩ = some (.int .i64 x.kind) /\ w'.cell? ⟨b2, o2 + k * 5, none⟩ = some (.int .i64 x.next) /\ w'.cell? ⟨b2, o2 + k * 5 + 1, none⟩ = some (.bool x.gone) /\ w'.cell? ⟨b2, o2 + k * 5 + 2, none⟩ = some (.int .i64 x.stamp) /\ w'.cell? ⟨b2, o2 + k * 5 + 3, none⟩ = some (.int .i64 x.prev) /\ w'.cell? ⟨b2, o2 + k * 5 + 4, none⟩ = some (.int .i64 x.kind)) (go_keep) ((go_at_call 65; refine (qzah x _).mono ?_; rintro e w2 ⟨rfl, b3⟩; have E1' := qz0 E1 ((Below.refl _ wr).drew.trans b3) (show b1 < wr.heap.size by omega); have E2' := qz0 E2 ((Below.refl _ wr).drew.trans b3) (show b2 < wr.heap.size by omega); have BB : Below w.heap.size w w2 := bel.drew.trans (b3.mono (by exact hsz)); have g10 : w2.cell? ⟨b1, o1 + k * 5, none⟩ = some (.int .i64 x.next) := E1' 0 _ rfl; have g11 : w2.cell? ⟨b1, o1 + k * 5 + 1, none⟩ = some (.bool x.gone) := E1' 1 _ rfl; have g12 : w2.cell? ⟨b1, o1 + k * 5 + 2, none⟩ = some (.int .i64 x.stamp) := E1' 2 _ rfl; have g13 : w2.cell? ⟨b1, o1 + k * 5 + 3, none⟩ = some (.int .i64 x.prev) := E1' 3 _ rfl; have g14 : w2.cell? ⟨b1, o1 + k * 5 + 4, none⟩ = some (.int .i64 x.kind) := E1' 4 _ rfl; have g20 : w2.cell? ⟨b2, o2 + k * 5, none⟩ = some (.int .i64 x.next) := E2' 0 _ rfl; have g21 : w2.cell? ⟨b2, o2 + k * 5 + 1, none⟩ = some (.bool x.gone) := E2' 1 _ rfl; have g22 : w2.cell? ⟨b2, o2 + k * 5 + 2, none⟩ = some (.int .i64 x.stamp) := E2' 2 _ rfl; have g23 : w2.cell? ⟨b2, o2 + k * 5 + 3, none⟩ = some (.int .i64 x.prev) := E2' 3 _ rfl; have g24 : w2.cell? ⟨b2, o2 + k * 5 + 4, none⟩ = some (.int .i64 x.kind) := E2' 4 _ rfl))
   go_wp2
   go_roundw
   case rel => exact ⟨k + 1, by omega, by go_num, BB⟩
   case measure => simp [intOf]; omega
  ·go_wp2
   go_ret
   exact ⟨rfl, bel⟩
theorem qz5y (B : Nat) (A : Ar) (s1 g1 n1 r1 s2 g2 n2 r2 : Value) (w : World) (hB : B <= w.heap.size) (hA : A.size <= 1048576) (I1 : qzi B w s1 g1 n1 r1 A) (I2 : qzi B w s2 g2 n2 r2 A) :
  Calls Tryz.prog 11 #[.agg #[.int .i64 A.camera, s1, g1, n1, r1], .agg #[.int .i64 A.camera, s2, g2, n2, r2]] w fun e w' => e = .returned (.bool true) /\ Below w.heap.size w w' := by
 unfold Ar.size at hA
 have X0 := World.rangeAt_alloc (qz5 w [.int .i64 A.camera, s1, g1, n1, r1] 35) (.cells #[.int .i64 A.camera, s2, g2, n2, r2] 35)
 have Y0 : World.rangeAt ((w.alloc (.cells #[.int .i64 A.camera, s1, g1, n1, r1] 35)).alloc (.cells #[.int .i64 A.camera, s2, g2, n2, r2] 35)) (w.heap.size + 1) 0 [.int .i64 A.camera, s2, g2, n2, r2] := by
  have h := qz5 (w.alloc (.cells #[.int .i64 A.camera, s1, g1, n1, r1] 35)) [.int .i64 A.camera, s2, g2, n2, r2] 35
  simp only [World.size_alloc] at h
  exact h
 have K0 := ((Below.refl w.heap.size w).alloc (Nat.le_refl _) (.cells #[.int .i64 A.camera, s1, g1, n1, r1] 35)).alloc (by simp) (.cells #[.int .i64 A.camera, s2, g2, n2, r2] 35)
 have hz0 : w.heap.size + 1 < ((w.alloc (.cells #[.int .i64 A.camera, s1, g1, n1, r1] 35)).alloc (.cells #[.int .i64 A.camera, s2, g2, n2, r2] 35)).heap.size := by simp
 have J0 := I1.below (K0.mono hB)
 have L0 := I2.below (K0.mono hB)
 clear I1 I2
 go_enter Tryz.func11, Tryz.ntmps11
 go_wp2_with fail
 refine (qz57 B s1 s2 A.slots _ (by have := hz0; omega) (by omega) J0.s L0.s).mono ?_
 rintro e w1 ⟨rfl, b1⟩
 have K1 := K0.trans (b1.mono (by have := hz0; omega))
 have X1 := qz0 X0 b1 (by have := hz0; omega)
 have Y1 := qz0 Y0 b1 (by have := hz0; omega)
 have J1 := J0.below (b1.mono (by have := hz0; omega))
 have L1 := L0.below (b1.mono (by have := hz0; omega))
 have hz1 := Nat.lt_of_lt_of_le hz0 b1.size
 have c1 := X1 2 g1 rfl
 have c2 := Y1 2 g2 rfl
 simp only [Nat.zero_add] at c1 c2
 clear X0 Y0 J0 L0 K0 b1
 go_wp2_with fail
 clear c1 c2
 refine (qz57 B g1 g2 A.guides _ (by have := hz1; omega) (by omega) J1.g L1.g).mono ?_
 rintro e w2 ⟨rfl, b2⟩
 have K2 := K1.trans (b2.mono (by have := hz1; omega))
 have X2 := qz0 X1 b2 (by have := hz1; omega)
 have Y2 := qz0 Y1 b2 (by have := hz1; omega)
 have J2 := J1.below (b2.mono (by have := hz1; omega))
 have L2 := L1.below (b2.mono (by have := hz1; omega))
 have hz2 := Nat.lt_of_lt_of_le hz1 b2.size
 have c1 := X2 3 n1 rfl
 have c2 := Y2 3 n2 rfl
 simp only [Nat.zero_add] at c1 c2
 clear X1 Y1 J1 L1 K1 b2
 go_wp2_with fail
 clear c1 c2
 refine (qz88 B n1 n2 A.nodes _ (by have := hz2; omega) (by omega) J2.n L2.n).mono ?_
 rintro e w3 ⟨rfl, b3⟩
 have K3 := K2.trans (b3.mono (by have := hz2; omega))
 have X3 := qz0 X2 b3 (by have := hz2; omega)
 have Y3 := qz0 Y2 b3 (by have := hz2; omega)
 have J3 := J2.below (b3.mono (by have := hz2; omega))
 have L3 := L2.below (b3.mono (by have := hz2; omega))
 have hz3 := Nat.lt_of_lt_of_le hz2 b3.size
 have c1 := X3 4 r1 rfl
 have c2 := Y3 4 r2 rfl
 simp only [Nat.zero_add] at c1 c2
 clear X2 Y2 J2 L2 K2 b3
 go_wp2_with fail
 clear c1 c2
 refine (qz9z B r1 r2 A.vers _ (by have := hz3; omega) (by omega) J3.r L3.r).mono ?_
 rintro e w4 ⟨rfl, b4⟩
 have K4 := K3.trans (b4.mono (by have := hz3; omega))
 go_wp2
 go_ret
 exact ⟨rfl, K4⟩
theorem qz1r (a : Option Addr) (len cap : Nat) (left : Int) (w : World) (h0 : 0 <= left) (h1 : left <= 1048576) (hl : (len : Int) <= left) :
  Calls Tryz.prog 15 #[.slice a len cap, .int .i64 left] w fun e w' => e = .returned (.int .i64 (left - len)) /\ w' = w := by
 go_enter Tryz.func15, Tryz.ntmps15
 go_wp2
 go_ret
 exact ⟨rfl, rfl⟩
theorem qz4u (a : Option Addr) (len cap : Nat) (left : Int) (w : World) (h0 : 0 <= left) (h1 : left <= 1048576) (hl : left < (len : Int)) (hm : (len : Int) <= 9223372036854775807) :
  Calls Tryz.prog 15 #[.slice a len cap, .int .i64 left] w fun e w' => e = .returned (.int .i64 (-1)) /\ w' = w := by
 go_enter Tryz.func15, Tryz.ntmps15
 go_wp2
 go_ret
 exact ⟨rfl, rfl⟩
theorem qz5v (a : Option Addr) (len cap : Nat) (left : Int) (w : World) (h0 : 0 <= left) (h1 : left <= 1048576) (hl : (len : Int) <= left) :
  Calls Tryz.prog 16 #[.slice a len cap, .int .i64 left] w fun e w' => e = .returned (.int .i64 (left - len)) /\ w' = w := by
 go_enter Tryz.func16, Tryz.ntmps16
 go_wp2
 go_ret
 exact ⟨rfl, rfl⟩
theorem qz8b (a : Option Addr) (len cap : Nat) (left : Int) (w : World) (h0 : 0 <= left) (h1 : left <= 1048576) (hl : left < (len : Int)) (hm : (len : Int) <= 9223372036854775807) :
  Calls Tryz.prog 16 #[.slice a len cap, .int .i64 left] w fun e w' => e = .returned (.int .i64 (-1)) /\ w' = w := by
 go_enter Tryz.func16, Tryz.ntmps16
 go_wp2
 go_ret
 exact ⟨rfl, rfl⟩
theorem qz9x (a : Option Addr) (len cap : Nat) (left : Int) (w : World) (h0 : 0 <= left) (h1 : left <= 1048576) (hl : (len : Int) <= left) :
  Calls Tryz.prog 17 #[.slice a len cap, .int .i64 left] w fun e w' => e = .returned (.int .i64 (left - len)) /\ w' = w := by
 go_enter Tryz.func17, Tryz.ntmps17
 go_wp2
 go_ret
 exact ⟨rfl, rfl⟩
theorem qz9v (a : Option Addr) (len cap : Nat) (left : Int) (w : World) (h0 : 0 <= left) (h1 : left <= 1048576) (hl : left < (len : Int)) (hm : (len : Int) <= 9223372036854775807) :
  Calls Tryz.prog 17 #[.slice a len cap, .int .i64 left] w fun e w' => e = .returned (.int .i64 (-1)) /\ w' = w := by
 go_enter Tryz.func17, Tryz.ntmps17
 go_wp2
 go_ret
 exact ⟨rfl, rfl⟩
theorem qz8p (cam : Int) (a0 : Option Addr) (l0 c0 : Nat) (a1 : Option Addr) (l1 c1 : Nat) (a2 : Option Addr) (l2 c2 : Nat) (a3 : Option Addr) (l3 c3 : Nat) (w : World) (h : l0 + l1 + l2 + l3 <= 1048576) :
  Calls Tryz.prog 4 #[.agg #[.int .i64 cam, .slice a0 l0 c0, .slice a1 l1 c1, .slice a2 l2 c2, .slice a3 l3 c3], .int .i64 1048576] w fun e w' => e = .returned (.int .i64 (1048576 - l0 - l1 - l2 - l3)) /\ Below w.heap.size w w' := by
 go_enter Tryz.func4, Tryz.ntmps4
 go_wp2_with fail
 refine (qz1r _ _ _ _ _ (by omega) (by omega) (by omega)).mono ?_
 rintro e w0 ⟨rfl, rfl⟩
 go_wp2_with fail
 refine (qz1r _ _ _ _ _ (by omega) (by omega) (by omega)).mono ?_
 rintro e w1 ⟨rfl, rfl⟩
 go_wp2_with fail
 refine (qz5v _ _ _ _ _ (by omega) (by omega) (by omega)).mono ?_
 rintro e w2 ⟨rfl, rfl⟩
 go_wp2_with fail
 refine (qz9x _ _ _ _ _ (by omega) (by omega) (by omega)).mono ?_
 rintro e w3 ⟨rfl, rfl⟩
 go_wp2
 go_ret
 exact ⟨rfl, (Below.refl _ _).alloc (Nat.le_refl _) _⟩
theorem qz8q (cam : Int) (a0 : Option Addr) (l0 c0 : Nat) (a1 : Option Addr) (l1 c1 : Nat) (a2 : Option Addr) (l2 c2 : Nat) (a3 : Option Addr) (l3 c3 : Nat) (w : World) (h : 1048576 < l0 + l1 + l2 + l3) (m0 : (l0 : Int) <= 9223372036854775807) (m1 : (l1 : Int) <= 9223372036854775807) (m2 : (l2 : Int) <= 9223372036854775807) (m3 : (l3 : Int) <= 9223372036854775807) :
  Calls Tryz.prog 4 #[.agg #[.int .i64 cam, .slice a0 l0 c0, .slice a1 l1 c1, .slice a2 l2 c2, .slice a3 l3 c3], .int .i64 1048576] w fun e w' => e = .returned (.int .i64 (-1)) /\ Below w.heap.size w w' := by
 by_cases q0 : l0 <= 1048576
 case neg =>
  go_enter Tryz.func4, Tryz.ntmps4
  go_wp2_with fail
  refine (qz4u _ _ _ _ _ (by omega) (by omega) (by omega) (by omega)).mono ?_
  rintro e w0 ⟨rfl, rfl⟩
  go_wp2
  go_ret
  exact ⟨rfl, (Below.refl _ _).alloc (Nat.le_refl _) _⟩
 by_cases q1 : l0 + l1 <= 1048576
 case neg =>
  go_enter Tryz.func4, Tryz.ntmps4
  go_wp2_with fail
  refine (qz1r _ _ _ _ _ (by omega) (by omega) (by omega)).mono ?_
  rintro e w0 ⟨rfl, rfl⟩
  go_wp2_with fail
  refine (qz4u _ _ _ _ _ (by omega) (by omega) (by omega) (by omega)).mono ?_
  rintro e w1 ⟨rfl, rfl⟩
  go_wp2
  go_ret
  exact ⟨rfl, (Below.refl _ _).alloc (Nat.le_refl _) _⟩
 by_cases q2 : l0 + l1 + l2 <= 1048576
 case neg =>
  go_enter Tryz.func4, Tryz.ntmps4
  go_wp2_with fail
  refine (qz1r _ _ _ _ _ (by omega) (by omega) (by omega)).mono ?_
  rintro e w0 ⟨rfl, rfl⟩
  go_wp2_with fail
  refine (qz1r _ _ _ _ _ (by omega) (by omega) (by omega)).mono ?_
  rintro e w1 ⟨rfl, rfl⟩
  go_wp2_with fail
  refine (qz8b _ _ _ _ _ (by omega) (by omega) (by omega) (by omega)).mono ?_
  rintro e w2 ⟨rfl, rfl⟩
  go_wp2
  go_ret
  exact ⟨rfl, (Below.refl _ _).alloc (Nat.le_refl _) _⟩
 go_enter Tryz.func4, Tryz.ntmps4
 go_wp2_with fail
 refine (qz1r _ _ _ _ _ (by omega) (by omega) (by omega)).mono ?_
 rintro e w0 ⟨rfl, rfl⟩
 go_wp2_with fail
 refine (qz1r _ _ _ _ _ (by omega) (by omega) (by omega)).mono ?_
 rintro e w1 ⟨rfl, rfl⟩
 go_wp2_with fail
 refine (qz5v _ _ _ _ _ (by omega) (by omega) (by omega)).mono ?_
 rintro e w2 ⟨rfl, rfl⟩
 go_wp2_with fail
 refine (qz9v _ _ _ _ _ (by omega) (by omega) (by omega) (by omega)).mono ?_
 rintro e w3 ⟨rfl, rfl⟩
 go_wp2
 go_ret
 exact ⟨rfl, (Below.refl _ _).alloc (Nat.le_refl _) _⟩
theorem qz52 {B : Nat} {A : Ar} {s g n r : Value} {w1 W : World} (BB : Below w1.heap.size w1 W) (hB : B <= w1.heap.size) (hA : A.size <= 1048576) (I : qzi B w1 s g n r A) :
  Calls Tryz.prog 7 #[.agg #[.int .i64 A.camera, s, g, n, r]] W fun e w' => ∃ p0 p1 p2 p3, e = .returned (.agg #[.int .i64 A.camera, .slice (some ⟨p0, 0, none⟩) A.slots.length A.slots.length, .slice (some ⟨p1, 0, none⟩) A.guides.length A.guides.length, .slice (some ⟨p2, 0, none⟩) A.nodes.length A.nodes.length, .slice (some ⟨p3, 0, none⟩) A.vers.length A.vers.length]) /\
   qzi w'.heap.size w' (.slice (some ⟨p0, 0, none⟩) A.slots.length A.slots.length) (.slice (some ⟨p1, 0, none⟩) A.guides.length A.guides.length) (.slice (some ⟨p2, 0, none⟩) A.nodes.length A.nodes.length) (.slice (some ⟨p3, 0, none⟩) A.vers.length A.vers.length) A /\ Below W.heap.size W w' :=
 qz87 B A s g n r W (Nat.le_trans hB BB.size) hA (I.below (BB.mono hB))
end
section
open Go.ChangeShapes Go.WideShapes Go.ChangeAt Go.RowKit Go.Deep
theorem qz9e : Tryz.prog.cellsOf 2 = 1 := by kernel_rfl
theorem qz3g {α : Type} {f : α -> List Value} {sz : Nat} (hf : ∀ x, (f x).length = sz) {w : World} {b o : Nat} : ∀ (l : List α) (k : Nat), (∀ i (h : i < l.length), w.rangeAt b (o + (k + i) * sz) (f l[i])) -> w.rangeAt b (o + k * sz) (qz9 f l)
 | [], _, _ => by intro j v hj; simp [qz9] at hj
 | x :: l, k, h => by
  intro j v hj
  simp only [qz9, List.flatMap_cons] at hj
  rcases Nat.lt_or_ge j sz with hlt | hge
  ·rw [List.getElem?_append_left (by rw [hf]; exact hlt)] at hj
   exact h 0 (by simp) j v (by simpa using hj)
  ·rw [List.getElem?_append_right (by rw [hf]; exact hge), hf] at hj
   have ih := qz3g hf l (k + 1) (fun i hi => by have := h (i + 1) (by simpa using hi); rw [show k + (i + 1) = k + 1 + i by omega] at this; simpa using this) (j - sz) v hj
   rw [show o + (k + 1) * sz + (j - sz) = o + k * sz + j by rw [Nat.add_mul]; omega] at ih
   exact ih
theorem qz4k {α : Type} [Inhabited α] {f : α -> List Value} {sz : Nat} (hf : ∀ x, (f x).length = sz) (hsz : 0 < sz) {t e : TypeId} (ht : Tryz.prog.underlying t = some (.slice e)) (hc : Tryz.prog.cellsOf e = sz)
  {H : Type} {enc : TypeId × Value -> H} {W : World} {base fuel : Nat} {spare : Nat -> Bool} {held : Bool} {v : Value} {x : DataW H × List MemPlace}
  (dec : ∀ (n : Nat) (cs : List Value) (y : DataW H × List MemPlace), DataW.trod enc Tryz.prog W base spare held n e cs = some y -> ∃ a, cs = f a) (h : DataW.trod enc Tryz.prog W base spare held fuel t [v] = some x) :
  ∃ (l : List α) (a : Option Addr) (cap : Nat), v = .slice a l.length cap /\ l.length <= maxLen /\ qzh W.heap.size W v l.length (qz9 f l) := by
 rcases open_slice ht h with ⟨h0, _⟩ | ⟨a, len, cap, m, n, D, Pl, hv, hb, hl, hm, hmm, _, hx⟩
 ·obtain rfl : v = .slice none 0 0 := by simpa using h0
  exact ⟨[], none, 0, rfl, by simp, none, 0, rfl, Or.inl rfl⟩
 ·obtain rfl : v = .slice (some a) len cap := by simpa using hv
  have hlm : len <= m := by rw [hmm]; split <;> omega
  obtain ⟨A, hA⟩ := choose_lt (α := α) (n := len) (p := fun i z => W.cells? base (a.add (i * sz)) sz = some (f z)) (fun i hi => by
   obtain ⟨cs', h1, h2⟩ := hx i (by omega)
   obtain ⟨z, rfl⟩ := dec n cs' _ h2
   rw [hc] at h1
   exact ⟨z, h1⟩)
  have hlen : ((List.range len).map A).length = len := by simp
  refine ⟨(List.range len).map A, some a, cap, by rw [hlen], by rw [hlen]; omega, ?_⟩
  rw [hlen]
  refine ⟨some a, cap, rfl, ?_⟩
  rcases Nat.eq_zero_or_pos len with h0 | hpos
  ·exact Or.inl h0
  ·right
   obtain ⟨bb, off, spot⟩ := a
   obtain ⟨_, _, c0⟩ := World.cells?_some (hA 0 hpos)
   have c00 := c0 0 hsz
   rw [List.getElem?_eq_getElem (by rw [hf]; exact hsz)] at c00
   have hspot : spot = none := by simpa [Addr.add] using World.cell?_spot c00
   subst hspot
   refine ⟨bb, off, rfl, ?_, ?_⟩
   ·have := World.block_lt_of_cell? W _ c00
    simpa [Addr.add_mid] using this
   ·have R := qz3g hf (w := W) (b := bb) (o := off) ((List.range len).map A) 0 (fun i hi => by
     rw [hlen] at hi
     obtain ⟨_, _, ci⟩ := World.cells?_some (hA i hi)
     intro j u hj
     have hj2 : j < sz := by
      rcases Nat.lt_or_ge j (f (A i)).length with hl | hl
      ·rw [hf] at hl; exact hl
      ·simp only [List.getElem_map, List.getElem_range] at hj
       rw [List.getElem?_eq_none hl] at hj; cases hj
     have cj := ci j hj2
     simp only [List.getElem_map, List.getElem_range] at hj
     rw [hj] at cj
     rw [Addr.add_mid, Addr.add_mid] at cj
     simpa using cj)
    simpa using R
theorem qzce {α : Type} {l : List α} (h : l.length = 3) : ∃ c0 c1 c2, l = [c0, c1, c2] := by
 match l, h with
 | [c0, c1, c2], _ => exact ⟨c0, c1, c2, rfl⟩
theorem qzcb {α : Type} {l : List α} (h : l.length = 5) : ∃ c0 c1 c2 c3 c4, l = [c0, c1, c2, c3, c4] := by
 match l, h with
 | [c0, c1, c2, c3, c4], _ => exact ⟨c0, c1, c2, c3, c4, rfl⟩
theorem qzb9 {H : Type} {enc : TypeId × Value -> H} {W : World} {base fuel : Nat} {spare : Nat -> Bool} {held : Bool} {cs : List Value} {x : DataW H × List MemPlace} (h : DataW.trod enc Tryz.prog W base spare held fuel 83 cs = some x) : ∃ a : Nd, cs = ndC a := by
 obtain ⟨xs, m, _, _, hl, hlen, hf⟩ := DataW.trod_struct Tryz.underlying83 h
 obtain ⟨c0, c1, c2, rfl⟩ := qzce (hl.trans (show Tryz.prog.cellsOf 83 = 3 by kernel_rfl))
 have hx : xs.length = 3 := hlen
 have g0 := hf 0 _ rfl
 rw [List.getElem?_eq_getElem (by omega)] at g0
 have k0 : DataW.trod enc Tryz.prog W base spare held m 2 [c0] = some xs[0] := g0
 obtain ⟨v0, d0, _⟩ := DataW.trod_int Tryz.underlying2 k0
 obtain rfl : c0 = .int .i64 v0 := by simpa using d0
 have g1 := hf 1 _ rfl
 rw [List.getElem?_eq_getElem (by omega)] at g1
 have k1 : DataW.trod enc Tryz.prog W base spare held m 2 [c1] = some xs[1] := g1
 obtain ⟨v1, d1, _⟩ := DataW.trod_int Tryz.underlying2 k1
 obtain rfl : c1 = .int .i64 v1 := by simpa using d1
 have g2 := hf 2 _ rfl
 rw [List.getElem?_eq_getElem (by omega)] at g2
 have k2 : DataW.trod enc Tryz.prog W base spare held m 2 [c2] = some xs[2] := g2
 obtain ⟨v2, d2, _⟩ := DataW.trod_int Tryz.underlying2 k2
 obtain rfl : c2 = .int .i64 v2 := by simpa using d2
 exact ⟨⟨v0, v1, v2⟩, rfl⟩
theorem qzbu {H : Type} {enc : TypeId × Value -> H} {W : World} {base fuel : Nat} {spare : Nat -> Bool} {held : Bool} {cs : List Value} {x : DataW H × List MemPlace} (h : DataW.trod enc Tryz.prog W base spare held fuel 85 cs = some x) : ∃ a : Vr, cs = vrC a := by
 obtain ⟨xs, m, _, _, hl, hlen, hf⟩ := DataW.trod_struct Tryz.underlying85 h
 obtain ⟨c0, c1, c2, c3, c4, rfl⟩ := qzcb (hl.trans (show Tryz.prog.cellsOf 85 = 5 by kernel_rfl))
 have hx : xs.length = 5 := hlen
 have g0 := hf 0 _ rfl
 rw [List.getElem?_eq_getElem (by omega)] at g0
 have k0 : DataW.trod enc Tryz.prog W base spare held m 2 [c0] = some xs[0] := g0
 obtain ⟨v0, d0, _⟩ := DataW.trod_int Tryz.underlying2 k0
 obtain rfl : c0 = .int .i64 v0 := by simpa using d0
 have g1 := hf 1 _ rfl
 rw [List.getElem?_eq_getElem (by omega)] at g1
 have k1 : DataW.trod enc Tryz.prog W base spare held m 4 [c1] = some xs[1] := g1
 obtain ⟨v1, d1, _⟩ := DataW.trod_bool Tryz.underlying4 k1
 obtain rfl : c1 = .bool v1 := by simpa using d1
 have g2 := hf 2 _ rfl
 rw [List.getElem?_eq_getElem (by omega)] at g2
 have k2 : DataW.trod enc Tryz.prog W base spare held m 2 [c2] = some xs[2] := g2
 obtain ⟨v2, d2, _⟩ := DataW.trod_int Tryz.underlying2 k2
 obtain rfl : c2 = .int .i64 v2 := by simpa using d2
 have g3 := hf 3 _ rfl
 rw [List.getElem?_eq_getElem (by omega)] at g3
 have k3 : DataW.trod enc Tryz.prog W base spare held m 2 [c3] = some xs[3] := g3
 obtain ⟨v3, d3, _⟩ := DataW.trod_int Tryz.underlying2 k3
 obtain rfl : c3 = .int .i64 v3 := by simpa using d3
 have g4 := hf 4 _ rfl
 rw [List.getElem?_eq_getElem (by omega)] at g4
 have k4 : DataW.trod enc Tryz.prog W base spare held m 2 [c4] = some xs[4] := g4
 obtain ⟨v4, d4, _⟩ := DataW.trod_int Tryz.underlying2 k4
 obtain rfl : c4 = .int .i64 v4 := by simpa using d4
 exact ⟨⟨v0, v1, v2, v3, v4⟩, rfl⟩
instance : Inhabited Nd := ⟨⟨0, 0, 0⟩⟩
instance : Inhabited Vr := ⟨⟨0, false, 0, 0, 0⟩⟩
theorem qzbn {H : Type} {enc : TypeId × Value -> H} {W : World} {base fuel : Nat} {spare : Nat -> Bool} {held : Bool} {cs : List Value} {x : DataW H × List MemPlace} (h : DataW.trod enc Tryz.prog W base spare held fuel 2 cs = some x) : ∃ a : Int, cs = intC a := by
 obtain ⟨v, rfl, _⟩ := DataW.trod_int Tryz.underlying2 h
 exact ⟨v, rfl⟩
theorem qz9g {H : Type} {enc : TypeId × Value -> H} {W : World} {r : Reach} {b0 base : Nat} {spare : Nat -> Bool} {held : Bool} {v : Value} {d : DataW H} {p : List MemPlace} (hv : Value.okWide Tryz.prog W r b0 28 v) (h : DataW.Trod enc Tryz.prog W base spare held 28 v d p) :
  ∃ (A : Ar) (a0 a1 a2 a3 : Option Addr) (c0 c1 c2 c3 : Nat), v = .agg #[.int .i64 A.camera, .slice a0 A.slots.length c0, .slice a1 A.guides.length c1, .slice a2 A.nodes.length c2, .slice a3 A.vers.length c3] /\
   qzi W.heap.size W (.slice a0 A.slots.length c0) (.slice a1 A.guides.length c1) (.slice a2 A.nodes.length c2) (.slice a3 A.vers.length c3) A /\ A.slots.length <= maxLen /\ A.guides.length <= maxLen /\ A.nodes.length <= maxLen /\ A.vers.length <= maxLen := by
 obtain ⟨cs, rfl, hsz⟩ := okWide_struct Tryz.underlying28 hv
 obtain ⟨fuel, hf⟩ := h
 have hcs : (Value.agg cs).cells.toList = cs.toList := rfl
 rw [hcs] at hf
 obtain ⟨xs, m, _, _, hl, hlen, hg⟩ := DataW.trod_struct Tryz.underlying28 hf
 obtain ⟨v0, v1, v2, v3, v4, hc⟩ := qzcb (hl.trans (show Tryz.prog.cellsOf 28 = 5 by kernel_rfl))
 have hx : xs.length = 5 := hlen
 rw [hc] at hg
 have g0 := hg 0 _ rfl
 have g1 := hg 1 _ rfl
 have g2 := hg 2 _ rfl
 have g3 := hg 3 _ rfl
 have g4 := hg 4 _ rfl
 rw [List.getElem?_eq_getElem (by omega)] at g0 g1 g2 g3 g4
 have k0 : DataW.trod enc Tryz.prog W base spare held m 2 [v0] = some xs[0] := g0
 have k1 : DataW.trod enc Tryz.prog W base spare held m 24 [v1] = some xs[1] := g1
 have k2 : DataW.trod enc Tryz.prog W base spare held m 24 [v2] = some xs[2] := g2
 have k3 : DataW.trod enc Tryz.prog W base spare held m 25 [v3] = some xs[3] := g3
 have k4 : DataW.trod enc Tryz.prog W base spare held m 26 [v4] = some xs[4] := g4
 obtain ⟨cam, e0, _⟩ := DataW.trod_int Tryz.underlying2 k0
 obtain ⟨l1, a0, c0, rfl, m1, S1⟩ := qz4k (f := intC) (sz := 1) (fun _ => rfl) (by omega) Tryz.underlying24 qz9e (fun _ _ _ h => qzbn h) k1
 obtain ⟨l2, a1, c1, rfl, m2, S2⟩ := qz4k (f := intC) (sz := 1) (fun _ => rfl) (by omega) Tryz.underlying24 qz9e (fun _ _ _ h => qzbn h) k2
 obtain ⟨l3, a2, c2, rfl, m3, S3⟩ := qz4k (f := ndC) (sz := 3) (fun _ => rfl) (by omega) Tryz.underlying25 (by kernel_rfl) (fun _ _ _ h => qzb9 h) k3
 obtain ⟨l4, a3, c3, rfl, m4, S4⟩ := qz4k (f := vrC) (sz := 5) (fun _ => rfl) (by omega) Tryz.underlying26 (by kernel_rfl) (fun _ _ _ h => qzbu h) k4
 obtain rfl : v0 = .int .i64 cam := by simpa using e0
 refine ⟨⟨cam, l1, l2, l3, l4⟩, a0, a1, a2, a3, c0, c1, c2, c3, ?_, ⟨S1, S2, S3, S4⟩, m1, m2, m3, m4⟩
 congr 1
 apply Array.toList_inj.1
 rw [hc]
end
end Go.Proofs.YtknncnaikeinbaaGreat
