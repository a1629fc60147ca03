/-
  What the law's proof goes by, part 1.
-/
import Derived.Test.YtlfjhcdjgoeafaaDoorRows
import Derived.WalkKit
import Derived.ProofKit
import Derived.OpenShut
import Derived.ShutString
import Derived.ChangeOld
import Derived.Below
import Derived.Lib.SmallJoins
import Derived.Deep.MidRow
namespace Go.Proofs.YtlfjhcdjgoeafaaDoor
open Go.ChangeShapes Go.WideShapes Go.ChangeAt Go.RowKit
set_option maxRecDepth 100000
set_option maxHeartbeats 16000000
set_option linter.unusedVariables false
set_option linter.unusedSimpArgs false
set_option linter.unnecessarySimpa false
set_option linter.unusedSectionVars false
section
theorem own : ownKnob Tryd.prog.godebug = none := by kernel_rfl
theorem qz3p : laidOutB Tryd.prog = true := by kernel_rfl
def inB (n lo hi : Int) : Bool := decide (lo <= n) && decide (n <= hi)
theorem qz1m (n lo hi : Int) : inB n lo hi = true ↔ lo <= n /\ n <= hi := by simp [inB]
theorem qz8s {n lo hi : Int} (h1 : lo <= n) (h2 : n <= hi) : inB n lo hi = true := (qz1m n lo hi).2 ⟨h1, h2⟩
theorem qz84 {n lo hi : Int} (h : ¬ (lo <= n /\ n <= hi)) : inB n lo hi = false := by
 cases e : inB n lo hi
 ·rfl
 ·exact absurd ((qz1m n lo hi).1 e) h
theorem qz7 (n lo hi : Int) (w : World) :
  Calls Tryd.prog 53 #[.int .i64 n, .int .i64 lo, .int .i64 hi] w fun e w' => e = .returned (.bool (inB n lo hi)) /\ w' = w := by
 by_cases h1 : lo <= n
 ·by_cases h2 : n <= hi
  ·go_enter Tryd.func53, Tryd.ntmps53
   go_wp2
   go_ret
   exact ⟨by rw [qz8s h1 h2]; rfl, rfl⟩
  ·go_enter Tryd.func53, Tryd.ntmps53
   go_wp2
   go_ret
   exact ⟨by rw [qz84 (by omega)]; rfl, rfl⟩
 ·go_enter Tryd.func53, Tryd.ntmps53
  go_wp2
  go_ret
  exact ⟨by rw [qz84 (by omega)]; rfl, rfl⟩
theorem qzb (n lo hi : Int) (w : World) :
  Calls Tryd.prog 48 #[.int .i64 n, .int .i64 lo, .int .i64 hi] w fun e w' => e = .returned (.bool (inB n lo hi)) /\ w' = w := by
 by_cases h1 : lo <= n
 ·by_cases h2 : n <= hi
  ·go_enter Tryd.func48, Tryd.ntmps48
   go_wp2
   go_ret
   exact ⟨by rw [qz8s h1 h2]; rfl, rfl⟩
  ·go_enter Tryd.func48, Tryd.ntmps48
   go_wp2
   go_ret
   exact ⟨by rw [qz84 (by omega)]; rfl, rfl⟩
 ·go_enter Tryd.func48, Tryd.ntmps48
  go_wp2
  go_ret
  exact ⟨by rw [qz84 (by omega)]; rfl, rfl⟩
theorem qz6e (n : Int) (w : World) :
  Calls Tryd.prog 42 #[.int .i64 n] w fun e w' => e = .returned (.bool (inB n 0 63)) /\ w' = w := by
 go_enter Tryd.func42, Tryd.ntmps42
 go_wp2_with (go_at_call 53; refine (qz7 _ _ _ _).mono ?_; rintro e w' ⟨rfl, rfl⟩)
 go_ret
 exact ⟨rfl, rfl⟩
theorem qzz (n : Int) (w : World) :
  Calls Tryd.prog 39 #[.int .i64 n] w fun e w' => e = .returned (.bool (inB n 0 63)) /\ w' = w := by
 go_enter Tryd.func39, Tryd.ntmps39
 go_wp2_with (go_at_call 48; refine (qzb _ _ _ _).mono ?_; rintro e w' ⟨rfl, rfl⟩)
 go_ret
 exact ⟨rfl, rfl⟩
def qz2m (a b c d : Int) : Bool := inB a 1 8 && inB b 1 60 && inB c 1 400 && inB d 1 8
theorem qz8l (a b c d : Int) : qz2m a b c d = true ↔ (1 <= a /\ a <= 8) /\ (1 <= b /\ b <= 60) /\ (1 <= c /\ c <= 400) /\ (1 <= d /\ d <= 8) := by
 unfold qz2m
 simp only [Bool.and_eq_true, qz1m]
 constructor
 ·rintro ⟨⟨⟨h1, h2⟩, h3⟩, h4⟩
  exact ⟨h1, h2, h3, h4⟩
 ·rintro ⟨h1, h2, h3, h4⟩
  exact ⟨⟨⟨h1, h2⟩, h3⟩, h4⟩
theorem qz7y (a b c d : Int) (w : World) :
  Calls Tryd.prog 65 #[.agg #[.int .i64 a, .int .i64 b, .int .i64 c, .int .i64 d]] w fun e w' => e = .returned (.bool (qz2m a b c d)) /\ Below w.heap.size w w' := by
 cases h1 : inB a 1 8
 ·have hp : qz2m a b c d = false := by simp [qz2m, h1]
  go_enter Tryd.func65, Tryd.ntmps65
  go_wp2_with (go_at_call 53; refine (qz7 _ _ _ _).mono ?_; rintro e w' ⟨rfl, rfl⟩)
  go_ret
  exact ⟨by rw [hp]; rfl, (Below.refl _ _).alloc (Nat.le_refl _) _⟩
 ·cases h2 : inB b 1 60
  ·have hp : qz2m a b c d = false := by simp [qz2m, h1, h2]
   go_enter Tryd.func65, Tryd.ntmps65
   go_wp2_with (go_at_call 53; refine (qz7 _ _ _ _).mono ?_; rintro e w' ⟨rfl, rfl⟩)
   go_ret
   exact ⟨by rw [hp]; rfl, (Below.refl _ _).alloc (Nat.le_refl _) _⟩
  ·cases h3 : inB c 1 400
   ·have hp : qz2m a b c d = false := by simp [qz2m, h1, h2, h3]
    go_enter Tryd.func65, Tryd.ntmps65
    go_wp2_with (go_at_call 53; refine (qz7 _ _ _ _).mono ?_; rintro e w' ⟨rfl, rfl⟩)
    go_ret
    exact ⟨by rw [hp]; rfl, (Below.refl _ _).alloc (Nat.le_refl _) _⟩
   ·cases h4 : inB d 1 8
    ·have hp : qz2m a b c d = false := by simp [qz2m, h1, h2, h3, h4]
     go_enter Tryd.func65, Tryd.ntmps65
     go_wp2_with (go_at_call 53; refine (qz7 _ _ _ _).mono ?_; rintro e w' ⟨rfl, rfl⟩)
     go_ret
     exact ⟨by rw [hp]; rfl, (Below.refl _ _).alloc (Nat.le_refl _) _⟩
    ·have hp : qz2m a b c d = true := by simp [qz2m, h1, h2, h3, h4]
     go_enter Tryd.func65, Tryd.ntmps65
     go_wp2_with (go_at_call 53; refine (qz7 _ _ _ _).mono ?_; rintro e w' ⟨rfl, rfl⟩)
     go_ret
     exact ⟨by rw [hp]; rfl, (Below.refl _ _).alloc (Nat.le_refl _) _⟩
theorem qz4u (a b c d : Int) (w : World) :
  Calls Tryd.prog 46 #[.agg #[.int .i64 a, .int .i64 b, .int .i64 c, .int .i64 d]] w fun e w' => e = .returned (.bool (qz2m a b c d)) /\ Below w.heap.size w w' := by
 cases h1 : inB a 1 8
 ·have hp : qz2m a b c d = false := by simp [qz2m, h1]
  go_enter Tryd.func46, Tryd.ntmps46
  go_wp2_with (go_at_call 48; refine (qzb _ _ _ _).mono ?_; rintro e w' ⟨rfl, rfl⟩)
  go_ret
  exact ⟨by rw [hp]; rfl, (Below.refl _ _).alloc (Nat.le_refl _) _⟩
 ·cases h2 : inB b 1 60
  ·have hp : qz2m a b c d = false := by simp [qz2m, h1, h2]
   go_enter Tryd.func46, Tryd.ntmps46
   go_wp2_with (go_at_call 48; refine (qzb _ _ _ _).mono ?_; rintro e w' ⟨rfl, rfl⟩)
   go_ret
   exact ⟨by rw [hp]; rfl, (Below.refl _ _).alloc (Nat.le_refl _) _⟩
  ·cases h3 : inB c 1 400
   ·have hp : qz2m a b c d = false := by simp [qz2m, h1, h2, h3]
    go_enter Tryd.func46, Tryd.ntmps46
    go_wp2_with (go_at_call 48; refine (qzb _ _ _ _).mono ?_; rintro e w' ⟨rfl, rfl⟩)
    go_ret
    exact ⟨by rw [hp]; rfl, (Below.refl _ _).alloc (Nat.le_refl _) _⟩
   ·cases h4 : inB d 1 8
    ·have hp : qz2m a b c d = false := by simp [qz2m, h1, h2, h3, h4]
     go_enter Tryd.func46, Tryd.ntmps46
     go_wp2_with (go_at_call 48; refine (qzb _ _ _ _).mono ?_; rintro e w' ⟨rfl, rfl⟩)
     go_ret
     exact ⟨by rw [hp]; rfl, (Below.refl _ _).alloc (Nat.le_refl _) _⟩
    ·have hp : qz2m a b c d = true := by simp [qz2m, h1, h2, h3, h4]
     go_enter Tryd.func46, Tryd.ntmps46
     go_wp2_with (go_at_call 48; refine (qzb _ _ _ _).mono ?_; rintro e w' ⟨rfl, rfl⟩)
     go_ret
     exact ⟨by rw [hp]; rfl, (Below.refl _ _).alloc (Nat.le_refl _) _⟩
theorem qz3n (a b c d : Int) (w : World) :
  Calls Tryd.prog 7 #[.agg #[.int .i64 a, .int .i64 b, .int .i64 c, .int .i64 d]] w fun e w' => e = .returned (.agg #[.int .i64 a, .int .i64 b, .int .i64 c, .int .i64 d]) /\ Below w.heap.size w w' := by
 go_enter Tryd.func7, Tryd.ntmps7
 go_wp2
 exact bodyPost_ret (v := .agg #[.int .i64 a, .int .i64 b, .int .i64 c, .int .i64 d]) (by simp [results, Tryd.results7, go_sem]) rfl ⟨rfl, (((Below.refl _ _).alloc (Nat.le_refl _) _).alloc (by simp) _).alloc (by simp; omega) _⟩
theorem qzaf {W w1 : World} (hb : Below W.heap.size W w1) : (∀ b o, b < W.heap.size -> w1.cell? ⟨b, o, none⟩ = W.cell? ⟨b, o, none⟩) /\ (∀ b o, b < W.heap.size -> w1.frozen? ⟨b, o, none⟩ = W.frozen? ⟨b, o, none⟩) :=
 ⟨fun b o h => hb.cell (p := ⟨b, o, none⟩) h, fun b o h => hb.frozen (p := ⟨b, o, none⟩) h⟩
def qz82 (W : World) (b : Nat) (x y z u : Int) : Prop :=
 W.cell? ⟨b, 0, none⟩ = some (.int .i64 x) /\ W.cell? ⟨b, 1, none⟩ = some (.int .i64 y) /\ W.cell? ⟨b, 2, none⟩ = some (.int .i64 z) /\ W.cell? ⟨b, 3, none⟩ = some (.int .i64 u)
theorem qz1h (w : World) (x y z u : Int) (T : TypeId) : qz82 (w.alloc (.cells #[.int .i64 x, .int .i64 y, .int .i64 z, .int .i64 u] T)) w.heap.size x y z u := by
 refine ⟨?_, ?_, ?_, ?_⟩ <;> simp
theorem qz82.below {W w1 : World} {b : Nat} {x y z u : Int} (h : qz82 W b x y z u) (hb : Below W.heap.size W w1) (hlt : b < W.heap.size) : qz82 w1 b x y z u := by
 obtain ⟨hc, _⟩ := qzaf hb
 obtain ⟨h0, h1, h2, h3⟩ := h
 exact ⟨(hc b 0 hlt).trans h0, (hc b 1 hlt).trans h1, (hc b 2 hlt).trans h2, (hc b 3 hlt).trans h3⟩
theorem qz7z {H : Type} {enc : TypeId × Value -> H} {W : World} {r : Reach} {b0 base : Nat} {spare : Nat -> Bool} {held : Bool} {v : Value} {d : DataW H} {p : List MemPlace} (hv : Value.okWide Tryd.prog W r b0 23 v) (h : DataW.Trod enc Tryd.prog W base spare held 23 v d p) :
  ∃ x y z u : Int, v = .agg #[.int .i64 x, .int .i64 y, .int .i64 z, .int .i64 u] /\ (Lit.int .i64 x).wf = true /\ (Lit.int .i64 y).wf = true /\ (Lit.int .i64 z).wf = true /\ (Lit.int .i64 u).wf = true := by
 obtain ⟨c0, c1, c2, c3, y0, y1, y2, y3, n, rfl, _, _, h0, h1, h2, h3⟩ := Go.Joins.open_agg4 Tryd.underlying23 (by kernel_rfl) (by kernel_rfl) hv h
 obtain ⟨x, e0, _, wx⟩ := DataW.trod_int Tryd.underlying2 h0
 obtain ⟨y, e1, _, wy⟩ := DataW.trod_int Tryd.underlying2 h1
 obtain ⟨z, e2, _, wz⟩ := DataW.trod_int Tryd.underlying2 h2
 obtain ⟨u, e3, _, wu⟩ := DataW.trod_int Tryd.underlying2 h3
 simp at e0 e1 e2 e3
 subst e0 e1 e2 e3
 exact ⟨x, y, z, u, rfl, wx, wy, wz, wu⟩
end
section
open Go.RowKit
theorem qzv (w : World) (C : Array Value) (T : TypeId) (n : Nat) (h : n <= C.size) : (w.alloc (.cells C T)).there w.heap.size 0 n := by
 intro j hj
 rw [Nat.zero_add, World.cell?_alloc_new]
 refine ⟨?_, by simp⟩
 rw [Array.getElem?_eq_getElem (by omega)]
 rfl
theorem qz6 (w : World) (cs : List Value) (T : TypeId) : (w.alloc (.cells cs.toArray T)).rangeAt w.heap.size 0 cs := by
 intro j v hv
 rw [Nat.zero_add, World.cell?_alloc_new]
 simpa using hv
theorem qz0 {w w' : World} {B b o : Nat} {cs : List Value} (h : w.rangeAt b o cs) (hb : Below B w w') (hB : b < B) : w'.rangeAt b o cs :=
 fun j v hv => (hb.cell (p := ⟨b, o + j, none⟩) hB).trans (h j v hv)
theorem qz3 {w w' : World} {B b o n : Nat} (h : w.there b o n) (hb : Below B w w') (hB : b < B) : w'.there b o n :=
 fun j hj => by rw [hb.cell (p := ⟨b, o + j, none⟩) hB, hb.frozen (p := ⟨b, o + j, none⟩) hB]; exact h j hj
theorem qzg (b : Nat) : ∀ (vs : List Value) (o : Nat) (w : World), (w.setCells b o vs).heap.size = w.heap.size
 | [], _, _ => rfl
 | v :: vs, o, w => by
  show ((w.setCell ⟨b, o, none⟩ v).setCells b (o + 1) vs).heap.size = _
  rw [qzg b vs (o + 1), World.size_setCell]
theorem Below.setCells {B b : Nat} {a : World} (hB : B <= b) : ∀ (vs : List Value) (o : Nat) (w : World), Below B a w -> Below B a (w.setCells b o vs)
 | [], _, _, h => h
 | v :: vs, o, w, h => Below.setCells hB vs (o + 1) (w.setCell ⟨b, o, none⟩ v) (h.setCell hB v)
theorem qzp {w : World} {b o n : Nat} (h : w.there b o n) (a : Addr) (v : Value) : (w.setCell a v).there b o n := by
 intro j hj
 refine ⟨?_, (World.frozen?_setCell _ _ _ _).trans (h j hj).2⟩
 by_cases e : a = ⟨b, o + j, none⟩
 ·subst e
  obtain ⟨u, hu⟩ := Option.isSome_iff_exists.1 (h j hj).1
  rw [World.cell?_setCell_same _ _ _ hu]
  rfl
 ·rw [World.cell?_setCell_other _ _ _ _ e]
  exact (h j hj).1
theorem qz2r {P : Program} {fn : Func} {p : Tmp} {ty : TypeId} (h : fn.results = #[.cell p ty]) (tmps : Array Value) (w : World) (b o : Nat) (hp : tmps.getD p undef = .pointer (some ⟨b, o, none⟩))
  (cs : List Value) (d : TypeDesc) (hc : w.rangeAt b o cs) (hu : P.underlying ty = some d) (hd : d.isRow = true) (hi : (P.info? ty).map (·.size) = some cs.length) : (results fn tmps).run P w = .ok (.agg cs.toArray) w := by
 have hl := run_loadVar_mid (P := P) w b o ty cs d hc hu hd hi
 rw [Array.getD_eq_getD_getElem?] at hp
 simp [results, h, hp, asAddr, hl]
theorem qzh {P : Program} {fn : Func} {p q : Tmp} {ty : TypeId} (h : fn.results = #[.cell p ty, .tmp q]) (tmps : Array Value) (w : World) (b o : Nat) (hp : tmps.getD p undef = .pointer (some ⟨b, o, none⟩))
  (cs : List Value) (d : TypeDesc) (hc : w.rangeAt b o cs) (hu : P.underlying ty = some d) (hd : d.isRow = true) (hi : (P.info? ty).map (·.size) = some cs.length) : (results fn tmps).run P w = .ok (.tuple #[.agg cs.toArray, tmps.getD q undef]) w := by
 have hl := run_loadVar_mid (P := P) w b o ty cs d hc hu hd hi
 rw [Array.getD_eq_getD_getElem?] at hp
 simp [results, h, hp, asAddr, Result.andThen, hl]
end
end Go.Proofs.YtlfjhcdjgoeafaaDoor
