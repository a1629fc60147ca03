/-
  What the law's proof goes by, part 5.
-/
import Derived.Deep.QuietTactic
import Derived.BigQuiet
import Derived.Test.YtclkglkhhnapiaaFnCallD
namespace Go.Proofs.Ytclkglkhhnapiaa
open Go.ChangeShapes Go.WideShapes Go.ChangeAt Go.RowKit
set_option maxRecDepth 100000
set_option maxHeartbeats 16000000
set_option linter.unusedVariables false
set_option linter.unusedSimpArgs false
set_option linter.unnecessarySimpa false
set_option linter.unusedSectionVars false
section
theorem qz3r.under {W w1 : World} {b C : Nat} {x y z u : Int} (h : qz3r W b x y z u) (hb : Below C W w1) (hlt : b < C) : qz3r w1 b x y z u :=
 ⟨(hb.cell (p := ⟨b, 0, none⟩) hlt).trans h.1, (hb.cell (p := ⟨b, 1, none⟩) hlt).trans h.2.1, (hb.cell (p := ⟨b, 2, none⟩) hlt).trans h.2.2.1, (hb.cell (p := ⟨b, 3, none⟩) hlt).trans h.2.2.2⟩
theorem But.far {S : Nat -> Prop} {b : Nat} {w0 w w' : World} (h : But S w0 w) (k : Only b w w') (hb : w0.heap.size <= b) : But S w0 w' :=
 ⟨k.os.trans h.os, k.tape.trans h.tape, k.output.trans h.output, Nat.le_trans h.size k.size, fun q hq hn => (k.block q (Nat.lt_of_lt_of_le hq h.size) (by omega)).trans (h.block q hq hn)⟩
structure Stp (base : Nat) (w0 w : World) (b bo : Nat) (s0 g0 n0 r0 s g n r : Value) (A : Ar) (D : List Value) : Prop where
 row : w.rangeAt b 0 D
 th : w.there b 0 33
 to : w.there bo 0 33
 lo : w0.heap.size <= b
 lt : b < bo
 hi : bo < w.heap.size
 own : qz38 base w s g n r A
 but : But (OwnB s0 g0 n0 r0) w0 w
 blk : ∀ q, OwnB s g n r q -> OwnB s0 g0 n0 r0 q ∨ w0.heap.size <= q
 ne : ∀ q, OwnB s g n r q -> q ≠ b /\ q ≠ bo
section
variable {base : Nat} {w0 w w' : World} {b bo : Nat} {s0 g0 n0 r0 s g n r : Value} {A : Ar} {D : List Value}
theorem Stp.below (S : Stp base w0 w b bo s0 g0 n0 r0 s g n r A D) (hb : Below w.heap.size w w') : Stp base w0 w' b bo s0 g0 n0 r0 s g n r A D :=
 ⟨qz0 S.row hb (Nat.lt_trans S.lt S.hi), qz6 S.th hb (Nat.lt_trans S.lt S.hi), qz6 S.to hb S.hi, S.lo, S.lt, Nat.lt_of_lt_of_le S.hi hb.size, S.own.below hb, S.but.trans (But.of_below hb), S.blk, S.ne⟩
theorem Stp.at_b (S : Stp base w0 w b bo s0 g0 n0 r0 s g n r A D) (k : Only b w w') {D' : List Value} (row : w'.rangeAt b 0 D') (th : w'.there b 0 33) (to : w'.there bo 0 33) : Stp base w0 w' b bo s0 g0 n0 r0 s g n r A D' :=
 ⟨row, th, to, S.lo, S.lt, Nat.lt_of_lt_of_le S.hi k.size, S.own.kept (But.of_only (S := fun q => q = b) k rfl) (fun q hq => (S.ne q hq).1), S.but.far k S.lo, S.blk, S.ne⟩
theorem Stp.put (S : Stp base w0 w b bo s0 g0 n0 r0 s g n r A D) (k : Nat) (hk : k < D.length) (v : Value) : Stp base w0 (w.setCell ⟨b, k, none⟩ v) b bo s0 g0 n0 r0 s g n r A (D.set k v) :=
 S.at_b ((Only.refl b w).setCell (p := ⟨b, k, none⟩) (Or.inl rfl) v) (qzc S.row k hk v) (qz4 S.th _ _) (qz4 S.to _ _)
theorem Stp.puts (S : Stp base w0 w b bo s0 g0 n0 r0 s g n r A D) (p q t vs : List Value) (hD : D = p ++ (q ++ t)) (hl : vs.length = q.length) (h33 : D.length = 33) : Stp base w0 (w.setCells b p.length vs) b bo s0 g0 n0 r0 s g n r A (p ++ (vs ++ t)) := by
 subst hD
 have hp : p.length + q.length <= 33 := by simp only [List.length_append] at h33; omega
 have T := qz1c S.th p.length q.length hp
 rw [Nat.zero_add, <- hl] at T
 refine S.at_b (qz8 b vs p.length w) ?_ (World.there_setCells S.th _ _ _) (World.there_setCells S.to _ _ _)
 obtain ⟨R1, R2⟩ := qz2u S.row
 obtain ⟨R3, R4⟩ := qz2u R2
 rw [Nat.zero_add] at R2 R3 R4
 refine qz3e (World.rangeAt_setCells_apart R1 _ _ _ (Or.inr (Or.inl (by simp)))) (qz3e ?_ ?_)
 ·rw [Nat.zero_add]; exact World.rangeAt_setCells_same w b p.length vs T
 ·rw [Nat.zero_add, hl]; exact World.rangeAt_setCells_apart R4 _ _ _ (Or.inr (Or.inr (by rw [hl]; exact Nat.le_refl _)))
theorem Stp.hand {cam : Int} {h : Hd} {d : Dd} {tk : Bool} (S : Stp base w0 w b bo s0 g0 n0 r0 s g n r A (qze cam s g n r h d tk)) (h' : Hd) : Stp base w0 (w.setCells b 5 (hdC h')) b bo s0 g0 n0 r0 s g n r A (qze cam s g n r h' d tk) :=
 S.puts [.int .i64 cam, s, g, n, r] (hdC h) (ddC d ++ [.bool tk]) (hdC h') rfl rfl rfl
theorem Stp.deed {cam : Int} {h : Hd} {d : Dd} {tk : Bool} (S : Stp base w0 w b bo s0 g0 n0 r0 s g n r A (qze cam s g n r h d tk)) (d' : Dd) : Stp base w0 (w.setCells b 27 (ddC d')) b bo s0 g0 n0 r0 s g n r A (qze cam s g n r h d' tk) :=
 S.puts ([.int .i64 cam, s, g, n, r] ++ hdC h) (ddC d) [.bool tk] (ddC d') rfl rfl rfl
theorem Stp.ver {rb rc : Nat} (S : Stp base w0 w b bo s0 g0 n0 r0 s g n (.slice (some ⟨rb, 0, none⟩) A.vers.length rc) A D) (hr : OwnB s0 g0 n0 r0 rb ∨ w0.heap.size <= rb) (k : Nat) (hk : k < A.vers.length) (j : Nat) (hj : j < 5) (y : Vr) (v : Value) (hy : vrC y = (vrC A.vers[k]).set j v) : Stp base w0 (w.setCell ⟨rb, k * 5 + j, none⟩ v) b bo s0 g0 n0 r0 s g n (.slice (some ⟨rb, 0, none⟩) A.vers.length rc) { A with vers := A.vers.set k y } D := by
 have hO : Only rb w (w.setCell ⟨rb, k * 5 + j, none⟩ v) := (Only.refl rb w).setCell (p := ⟨rb, k * 5 + j, none⟩) (Or.inl rfl) v
 have hne := S.ne rb (Or.inr (Or.inr (Or.inr rfl)))
 have hB : But (fun q => q = rb) w (w.setCell ⟨rb, k * 5 + j, none⟩ v) := But.of_only hO rfl
 refine ⟨hB.range S.row (Nat.lt_trans S.lt S.hi) (fun e => hne.1 e.symm), hB.there S.th (Nat.lt_trans S.lt S.hi) (fun e => hne.1 e.symm), hB.there S.to S.hi (fun e => hne.2 e.symm), S.lo, S.lt, Nat.lt_of_lt_of_le S.hi hO.size, ?_, ?_, S.blk, S.ne⟩
 ·have hv := qz80 S.own.rr (k * 5 + j) (by omega) v
  rw [<- qz46 (f := vrC) (sz := 5) (fun _ => rfl) A.vers k hk j hj y v hy] at hv
  refine ⟨qz1z S.own.rs hB (fun i e h => ?_), qz1z S.own.rg hB (fun i e h => ?_), qz1z S.own.rn hB (fun i e h => ?_), by simpa using hv, S.own.ne⟩
  ·subst h; exact qz2w S.own.rs S.own.rr (by decide) _ e rfl
  ·subst h; exact qz2w S.own.rg S.own.rr (by decide) _ e rfl
  ·subst h; exact qz2w S.own.rn S.own.rr (by decide) _ e rfl
 ·rcases hr with hr | hr
  ·exact S.but.trans (But.of_only hO hr)
  ·exact S.but.far hO hr
theorem Stp.slot {sb sc : Nat} (S : Stp base w0 w b bo s0 g0 n0 r0 (.slice (some ⟨sb, 0, none⟩) A.slots.length sc) g n r A D) (k : Nat) (hk : k < A.slots.length) (v : Int) : Stp base w0 (w.setCell ⟨sb, k, none⟩ (.int .i64 v)) b bo s0 g0 n0 r0 (.slice (some ⟨sb, 0, none⟩) A.slots.length sc) g n r { A with slots := A.slots.set k v } D := by
 have hO : Only sb w (w.setCell ⟨sb, k, none⟩ (.int .i64 v)) := (Only.refl sb w).setCell (p := ⟨sb, k, none⟩) (Or.inl rfl) (.int .i64 v)
 have hne := S.ne sb (Or.inl rfl)
 have hB : But (fun q => q = sb) w (w.setCell ⟨sb, k, none⟩ (.int .i64 v)) := But.of_only hO rfl
 refine ⟨hB.range S.row (Nat.lt_trans S.lt S.hi) (fun e => hne.1 e.symm), hB.there S.th (Nat.lt_trans S.lt S.hi) (fun e => hne.1 e.symm), hB.there S.to S.hi (fun e => hne.2 e.symm), S.lo, S.lt, Nat.lt_of_lt_of_le S.hi hO.size, ?_, ?_, S.blk, S.ne⟩
 ·have hv := qz80 S.own.rs k (by omega) (.int .i64 v)
  have hcs := qz46 (f := intC) (sz := 1) (fun _ => rfl) A.slots k hk 0 (by omega) v (.int .i64 v) rfl
  rw [Nat.mul_one, Nat.add_zero] at hcs
  rw [<- hcs] at hv
  refine ⟨by simpa using hv, qz1z S.own.rg hB (fun i e h => ?_), qz1z S.own.rn hB (fun i e h => ?_), qz1z S.own.rr hB (fun i e h => ?_), S.own.ne⟩
  ·subst h; exact S.own.ne _ rfl e
  ·subst h; exact qz2w S.own.rs S.own.rn (by decide) _ rfl e
  ·subst h; exact qz2w S.own.rs S.own.rr (by decide) _ rfl e
 ·rcases S.blk sb (Or.inl rfl) with hr | hr
  ·exact S.but.trans (But.of_only hO hr)
  ·exact S.but.far hO hr
theorem Stp.guide {gb gc : Nat} (S : Stp base w0 w b bo s0 g0 n0 r0 s (.slice (some ⟨gb, 0, none⟩) A.guides.length gc) n r A D) (k : Nat) (hk : k < A.guides.length) (v : Int) : Stp base w0 (w.setCell ⟨gb, k, none⟩ (.int .i64 v)) b bo s0 g0 n0 r0 s (.slice (some ⟨gb, 0, none⟩) A.guides.length gc) n r { A with guides := A.guides.set k v } D := by
 have hO : Only gb w (w.setCell ⟨gb, k, none⟩ (.int .i64 v)) := (Only.refl gb w).setCell (p := ⟨gb, k, none⟩) (Or.inl rfl) (.int .i64 v)
 have hne := S.ne gb (Or.inr (Or.inl rfl))
 have hB : But (fun q => q = gb) w (w.setCell ⟨gb, k, none⟩ (.int .i64 v)) := But.of_only hO rfl
 refine ⟨hB.range S.row (Nat.lt_trans S.lt S.hi) (fun e => hne.1 e.symm), hB.there S.th (Nat.lt_trans S.lt S.hi) (fun e => hne.1 e.symm), hB.there S.to S.hi (fun e => hne.2 e.symm), S.lo, S.lt, Nat.lt_of_lt_of_le S.hi hO.size, ?_, ?_, S.blk, S.ne⟩
 ·have hv := qz80 S.own.rg k (by omega) (.int .i64 v)
  have hcs := qz46 (f := intC) (sz := 1) (fun _ => rfl) A.guides k hk 0 (by omega) v (.int .i64 v) rfl
  rw [Nat.mul_one, Nat.add_zero] at hcs
  rw [<- hcs] at hv
  refine ⟨qz1z S.own.rs hB (fun i e h => ?_), by simpa using hv, qz1z S.own.rn hB (fun i e h => ?_), qz1z S.own.rr hB (fun i e h => ?_), S.own.ne⟩
  ·subst h; exact S.own.ne _ e rfl
  ·subst h; exact qz2w S.own.rg S.own.rn (by decide) _ rfl e
  ·subst h; exact qz2w S.own.rg S.own.rr (by decide) _ rfl e
 ·rcases S.blk gb (Or.inr (Or.inl rfl)) with hr | hr
  ·exact S.but.trans (But.of_only hO hr)
  ·exact S.but.far hO hr
theorem Stp.cam (S : Stp base w0 w b bo s0 g0 n0 r0 s g n r A D) (cam : Int) : Stp base w0 w b bo s0 g0 n0 r0 s g n r { A with camera := cam } D :=
 ⟨S.row, S.th, S.to, S.lo, S.lt, S.hi, ⟨S.own.rs, S.own.rg, S.own.rn, S.own.rr, S.own.ne⟩, S.but, S.blk, S.ne⟩
theorem Stp.swap {s' g' n' r' : Value} {A' : Ar} (S : Stp base w0 w b bo s0 g0 n0 r0 s g n r A D) (E : qz2b base w w' s g n r s' g' n' r' A') : Stp base w0 w' b bo s0 g0 n0 r0 s' g' n' r' A' D := by
 have hb := Nat.lt_trans S.lt S.hi
 have n1 : ¬ OwnB s g n r b := fun h => (S.ne b h).1 rfl
 have n2 : ¬ OwnB s g n r bo := fun h => (S.ne bo h).2 rfl
 refine ⟨E.but.range S.row hb n1, E.but.there S.th hb n1, E.but.there S.to S.hi n2, S.lo, S.lt, Nat.lt_of_lt_of_le S.hi E.but.size, E.own, ?_, ?_, ?_⟩
 ·refine ⟨E.but.os.trans S.but.os, E.but.tape.trans S.but.tape, E.but.output.trans S.but.output, Nat.le_trans S.but.size E.but.size, fun q hq hn => (E.but.block q (Nat.lt_of_lt_of_le hq S.but.size) (fun h => ?_)).trans (S.but.block q hq hn)⟩
  rcases S.blk q h with h1 | h1
  ·exact hn h1
  ·omega
 ·intro q h
  rcases E.blk q h with h1 | h1
  ·exact S.blk q h1
  ·exact Or.inr (Nat.le_trans S.but.size h1)
 ·intro q h
  have hi := S.hi
  have hlt := S.lt
  rcases E.blk q h with h1 | h1
  ·exact S.ne q h1
  ·omega
theorem Stp.arena {cam cam' : Int} {h : Hd} {d : Dd} {tk : Bool} {s1 g1 n1 r1 : Value} (S : Stp base w0 w b bo s0 g0 n0 r0 s g n r A (qze cam s1 g1 n1 r1 h d tk)) : Stp base w0 (w.setCells b 0 [.int .i64 cam', s, g, n, r]) b bo s0 g0 n0 r0 s g n r A (qze cam' s g n r h d tk) :=
 S.puts [] [.int .i64 cam, s1, g1, n1, r1] (hdC h ++ (ddC d ++ [.bool tk])) [.int .i64 cam', s, g, n, r] rfl rfl rfl
theorem Stp.fin (S : Stp base w0 w b bo s0 g0 n0 r0 s g n r A D) : qz2b base w0 (w.setCells bo 0 D) s0 g0 n0 r0 s g n r A :=
 ⟨S.own.kept (But.of_only (S := fun q => q = bo) (qz8 bo D 0 w) rfl) (fun q hq => (S.ne q hq).2), S.but.far (qz8 bo D 0 w) (Nat.le_trans S.lo (Nat.le_of_lt S.lt)), S.blk⟩
theorem Stp.out (S : Stp base w0 w b bo s0 g0 n0 r0 s g n r A D) (h33 : D.length = 33) : (w.setCells bo 0 D).rangeAt bo 0 D :=
 World.rangeAt_setCells_same _ _ _ _ (by rw [h33]; exact S.to)
theorem Stp.is (S : Stp base w0 w b bo s0 g0 n0 r0 s g n r A D) : qz25 w.heap.size w s g n r A := S.own.is
theorem Stp.cell (S : Stp base w0 w b bo s0 g0 n0 r0 s g n r A D) (k : Nat) {v : Value} (h : D[k]? = some v) : w.cell? ⟨b, k, none⟩ = some v := by simpa using S.row k v h
theorem Stp.free (S : Stp base w0 w b bo s0 g0 n0 r0 s g n r A D) (k : Nat) (h : k < 33) : w.frozen? ⟨b, k, none⟩ = false := by simpa using (S.th k h).2
end
theorem Stp.from {base : Nat} {w w1 w2 : World} {b bo : Nat} {s0 g0 n0 r0 s g n r : Value} {A : Ar} {D : List Value} (S : Stp base w1 w2 b bo s0 g0 n0 r0 s g n r A D) (hb : Below w.heap.size w w1) : Stp base w w2 b bo s0 g0 n0 r0 s g n r A D :=
 ⟨S.row, S.th, S.to, Nat.le_trans hb.size S.lo, S.lt, S.hi, S.own, ⟨S.but.os.trans hb.os, S.but.tape.trans hb.tape, S.but.output.trans hb.output, Nat.le_trans hb.size S.but.size, fun q hq hn => (S.but.block q (Nat.lt_of_lt_of_le hq hb.size) hn).trans (hb.block q hq)⟩, fun q h => (S.blk q h).imp_right (Nat.le_trans hb.size), S.ne⟩
theorem qz7y (base : Nat) (w : World) (s g n r : Value) (A : Ar) (D Z : List Value) (T : TypeId) (O : qz38 base w s g n r A) (hD : D.length = 33) (hZ : Z.length = 33) : Stp base w ((w.alloc (.cells D.toArray T)).alloc (.cells Z.toArray T)) w.heap.size (w.heap.size + 1) s g n r s g n r A D := by
 have K0 := ((Below.refl w.heap.size w).alloc (Nat.le_refl _) (.cells D.toArray T)).alloc (by simp) (.cells Z.toArray T)
 have F0 := qzh (w.alloc (.cells D.toArray T)) Z.toArray T 33 (by rw [List.size_toArray, hZ]; exact Nat.le_refl _)
 rw [World.size_alloc] at F0
 exact ⟨World.rangeAt_alloc (qzd w D T) _, World.there_alloc (qzh w D.toArray T 33 (by rw [List.size_toArray, hD]; exact Nat.le_refl _)) _, F0, Nat.le_refl _, Nat.lt_succ_self _, by simp, O.below K0, But.of_below K0, fun q h => Or.inl h, fun q h => by have := O.lt q h; omega⟩
theorem qz1i (base : Nat) (w : World) (s g n r : Value) (A : Ar) (D Z : List Value) (T T0 : TypeId) (x y z u : Int) (O : qz38 base w s g n r A) (hD : D.length = 33) (hZ : Z.length = 33) : Stp base w (((w.alloc (.cells #[.int .i64 x, .int .i64 y, .int .i64 z, .int .i64 u] T0)).alloc (.cells D.toArray T)).alloc (.cells Z.toArray T)) (w.heap.size + 1) (w.heap.size + 1 + 1) s g n r s g n r A D /\ qz3r (((w.alloc (.cells #[.int .i64 x, .int .i64 y, .int .i64 z, .int .i64 u] T0)).alloc (.cells D.toArray T)).alloc (.cells Z.toArray T)) w.heap.size x y z u := by
 have K0 := (Below.refl w.heap.size w).alloc (Nat.le_refl _) (.cells #[.int .i64 x, .int .i64 y, .int .i64 z, .int .i64 u] T0)
 have S := qz7y base (w.alloc (.cells #[.int .i64 x, .int .i64 y, .int .i64 z, .int .i64 u] T0)) s g n r A D Z T (O.below K0) hD hZ
 rw [World.size_alloc] at S
 refine ⟨S.from K0, ((qz1t w x y z u T0).below ((Below.refl _ _).alloc (Nat.le_refl _) _) (by simp)).below ((Below.refl _ _).alloc (Nat.le_refl _) _) (by simp; omega)⟩
end
section
theorem qzd5 {p q : List Value} {m v : Value} : (p ++ m :: q).set p.length v = p ++ v :: q := by
 rw [List.set_append_right _ _ (Nat.le_refl _)]
 simp
theorem qzaq {base : Nat} {e : TypeId} {sz g n cap : Nat} : ∀ (vs p m q : List Value) (w : World), m.length = vs.length -> w.ownsRow base e sz (.slice (some ⟨g, 0, none⟩) n cap) n (p ++ (m ++ q)) -> (w.setCells g p.length vs).ownsRow base e sz (.slice (some ⟨g, 0, none⟩) n cap) n (p ++ (vs ++ q))
 | [], p, [], q, w, _, h => h
 | v :: vs, p, k :: m, q, w, hl, h => by
  have hk : p.length < n * sz := by
   have := h.1
   simp only [List.length_append, List.length_cons] at this
   omega
  have h1 := qz80 h p.length hk v
  rw [show p ++ (k :: m ++ q) = p ++ k :: (m ++ q) from rfl, qzd5] at h1
  have := qzaq vs (p ++ [v]) m q _ (by simpa using hl) (by simpa using h1)
  simpa [World.setCells] using this
theorem qz5l {α : Type} {f : α -> List Value} : ∀ (l : List α) (k : Nat) (hk : k < l.length), qzq f l = qzq f (l.take k) ++ (f l[k] ++ qzq f (l.drop (k + 1)))
 | x :: l, 0, _ => by simp [qzq]
 | x :: l, k + 1, hk => by
  have := qz5l (f := f) l k (by simpa using hk)
  simp only [qzq, List.flatMap_cons, List.take_succ_cons, List.drop_succ_cons, List.getElem_cons_succ, List.append_assoc] at this ⊢
  rw [this]
theorem qz6u {α : Type} {f : α -> List Value} : ∀ (l : List α) (k : Nat) (y : α), k < l.length -> qzq f (l.set k y) = qzq f (l.take k) ++ (f y ++ qzq f (l.drop (k + 1)))
 | x :: l, 0, y, _ => by simp [qzq]
 | x :: l, k + 1, y, hk => by
  have := qz6u (f := f) l k y (by simpa using hk)
  simp only [qzq, List.flatMap_cons, List.take_succ_cons, List.drop_succ_cons, List.set_cons_succ, List.append_assoc] at this ⊢
  rw [this]
theorem qzcm {α : Type} {f : α -> List Value} {base : Nat} {e : TypeId} {sz g n cap : Nat} {l : List α} {w : World} (hf : ∀ x, (f x).length = sz) (h : w.ownsRow base e sz (.slice (some ⟨g, 0, none⟩) n cap) n (qzq f l)) (k : Nat) (hk : k < l.length) (y : α) : (w.setCells g (k * sz) (f y)).ownsRow base e sz (.slice (some ⟨g, 0, none⟩) n cap) n (qzq f (l.set k y)) := by
 rw [qz5l l k hk] at h
 rw [qz6u l k y hk]
 have hp : (qzq f (l.take k)).length = k * sz := by
  rw [qz2h hf, List.length_take, Nat.min_eq_left (Nat.le_of_lt hk)]
 rw [<- hp]
 exact qzaq (f y) _ _ _ w (by rw [hf, hf]) h
theorem qz92 {base : Nat} {e : TypeId} {sz g n cap : Nat} {xs : List Value} {w : World} (h : w.ownsRow base e sz (.slice (some ⟨g, 0, none⟩) n cap) n xs) (o m : Nat) (hm : o + m <= n * sz) : w.there g o m := by
 intro j hj
 have hl : o + j < xs.length := by rw [h.1]; omega
 have := qz33 h (o + j) xs[o + j] (List.getElem?_eq_getElem hl)
 exact ⟨by rw [this.1]; rfl, this.2⟩
structure Und (N : Nat) (w0 w : World) (b : Nat) (hs cs ds ts : Value) (H : List Hd) (C : List Cl) (E : List Dd) (T : List Int) (D : List Value) : Prop where
 row : w.rangeAt b 0 D
 th : w.there b 0 14
 lo : N <= b
 hi : b < w.heap.size
 h : w.ownsRow N 27 22 hs H.length (qzq hdC H)
 c : w.ownsRow N 141 10 cs C.length (qzq clC C)
 d : w.ownsRow N 144 5 ds E.length (qzq ddC E)
 t : w.ownsRow N 2 1 ts T.length (qzq intC T)
 nh : ∀ q, hs.ownBlock = some q -> q ≠ b
 nc : ∀ q, cs.ownBlock = some q -> q ≠ b
 nd : ∀ q, ds.ownBlock = some q -> q ≠ b
 nt : ∀ q, ts.ownBlock = some q -> q ≠ b
 bel : Below N w0 w
section
variable {N : Nat} {w0 w w' : World} {b : Nat} {hs cs ds ts : Value} {H : List Hd} {C : List Cl} {E : List Dd} {T : List Int} {D : List Value}
theorem Und.below (S : Und N w0 w b hs cs ds ts H C E T D) (hb : Below w.heap.size w w') (hN : N <= w.heap.size) : Und N w0 w' b hs cs ds ts H C E T D :=
 ⟨qz0 S.row hb S.hi, qz6 S.th hb S.hi, S.lo, Nat.lt_of_lt_of_le S.hi hb.size, qz1v S.h hb, qz1v S.c hb, qz1v S.d hb, qz1v S.t hb, S.nh, S.nc, S.nd, S.nt, S.bel.trans (hb.mono hN)⟩
theorem Und.at_b (S : Und N w0 w b hs cs ds ts H C E T D) (k : Only b w w') {D' : List Value} (row : w'.rangeAt b 0 D') (th : w'.there b 0 14) : Und N w0 w' b hs cs ds ts H C E T D' :=
 ⟨row, th, S.lo, Nat.lt_of_lt_of_le S.hi k.size, qz10 S.h k S.nh, qz10 S.c k S.nc, qz10 S.d k S.nd, qz10 S.t k S.nt, S.nh, S.nc, S.nd, S.nt, S.bel.trans (k.below S.lo (Nat.le_trans S.lo (Nat.le_of_lt S.hi)))⟩
theorem Und.put (S : Und N w0 w b hs cs ds ts H C E T D) (k : Nat) (hk : k < D.length) (v : Value) : Und N w0 (w.setCell ⟨b, k, none⟩ v) b hs cs ds ts H C E T (D.set k v) :=
 S.at_b ((Only.refl b w).setCell (p := ⟨b, k, none⟩) (Or.inl rfl) v) (qzc S.row k hk v) (qz4 S.th _ _)
theorem Und.puts (S : Und N w0 w b hs cs ds ts H C E T D) (p q t vs : List Value) (hD : D = p ++ (q ++ t)) (hl : vs.length = q.length) (h14 : D.length = 14) : Und N w0 (w.setCells b p.length vs) b hs cs ds ts H C E T (p ++ (vs ++ t)) := by
 subst hD
 have hp : p.length + q.length <= 14 := by simp only [List.length_append] at h14; omega
 have Th := qz1c S.th p.length q.length hp
 rw [Nat.zero_add, <- hl] at Th
 refine S.at_b (qz8 b vs p.length w) ?_ (World.there_setCells S.th _ _ _)
 obtain ⟨R1, R2⟩ := qz2u S.row
 obtain ⟨R3, R4⟩ := qz2u R2
 rw [Nat.zero_add] at R2 R3 R4
 refine qz3e (World.rangeAt_setCells_apart R1 _ _ _ (Or.inr (Or.inl (by simp)))) (qz3e ?_ ?_)
 ·rw [Nat.zero_add]; exact World.rangeAt_setCells_same w b p.length vs Th
 ·rw [Nat.zero_add, hl]; exact World.rangeAt_setCells_apart R4 _ _ _ (Or.inr (Or.inr (by rw [hl]; exact Nat.le_refl _)))
theorem Und.cell (S : Und N w0 w b hs cs ds ts H C E T D) (k : Nat) {v : Value} (h : D[k]? = some v) : w.cell? ⟨b, k, none⟩ = some v := by
 have := S.row k v h
 rwa [Nat.zero_add] at this
theorem Und.free (S : Und N w0 w b hs cs ds ts H C E T D) (k : Nat) (hk : k < 14) : w.frozen? ⟨b, k, none⟩ = false := by
 have := (S.th k hk).2
 rwa [Nat.zero_add] at this
theorem qz4q : (27 : TypeId) ≠ 141 /\ (27 : TypeId) ≠ 144 /\ (27 : TypeId) ≠ 2 /\ (141 : TypeId) ≠ 144 /\ (141 : TypeId) ≠ 2 /\ (144 : TypeId) ≠ 2 := by decide
theorem Und.hand {g cap : Nat} (S : Und N w0 w b (.slice (some ⟨g, 0, none⟩) H.length cap) cs ds ts H C E T D) (k : Nat) (hk : k < H.length) (h' : Hd) : Und N w0 (w.setCells g (k * 22) (hdC h')) b (.slice (some ⟨g, 0, none⟩) H.length cap) cs ds ts (H.set k h') C E T D := by
 obtain ⟨t1, t2, t3, t4, t5, t6⟩ := qz4q
 have hO : Only g w (w.setCells g (k * 22) (hdC h')) := qz8 g _ _ w
 have hg : N <= g := qz1l S.h rfl
 have hB : But (fun q => q = g) w (w.setCells g (k * 22) (hdC h')) := But.of_only hO rfl
 have hne : b ≠ g := fun e => S.nh g rfl e.symm
 refine ⟨hB.range S.row S.hi hne, hB.there S.th S.hi hne, S.lo, Nat.lt_of_lt_of_le S.hi hO.size, ?_, qz10 S.c hO (fun j e h => qz2w S.c S.h (Ne.symm t1) j e (by rw [h]; rfl)), qz10 S.d hO (fun j e h => qz2w S.d S.h (Ne.symm t2) j e (by rw [h]; rfl)), qz10 S.t hO (fun j e h => qz2w S.t S.h (Ne.symm t3) j e (by rw [h]; rfl)), S.nh, S.nc, S.nd, S.nt, S.bel.trans (hO.below hg (Nat.le_trans S.lo (Nat.le_of_lt S.hi)))⟩
 have := qzcm (f := hdC) (sz := 22) (fun _ => rfl) S.h k hk h'
 simpa using this
theorem Und.grow_c {cs' : Value} {C' : List Cl} (S : Und N w0 w b hs cs ds ts H C E T D) (hown : w'.ownsRow N 141 10 cs' C'.length (qzq clC C')) (hB : But (fun q => cs.ownBlock = some q) w w') (hat : cs'.ownBlock = cs.ownBlock ∨ cs'.ownBlock = some w.heap.size) : Und N w0 w' b hs cs' ds ts H C' E T D := by
 obtain ⟨t1, t2, t3, t4, t5, t6⟩ := qz4q
 have hne : ¬ cs.ownBlock = some b := fun e => S.nc b e rfl
 refine ⟨hB.range S.row S.hi hne, hB.there S.th S.hi hne, S.lo, Nat.lt_of_lt_of_le S.hi hB.size, qz1z S.h hB (fun j e h => qz2w S.h S.c t1 j e h), hown, qz1z S.d hB (fun j e h => qz2w S.d S.c (Ne.symm t4) j e h), qz1z S.t hB (fun j e h => qz2w S.t S.c (Ne.symm t5) j e h), S.nh, fun q e => ?_, S.nd, S.nt, S.bel.trans (hB.below (Nat.le_trans S.lo (Nat.le_of_lt S.hi)) (fun q e => qz1l S.c e))⟩
 rcases hat with h | h
 ·rw [h] at e; exact S.nc q e
 ·rw [h] at e; cases e; have := S.hi; omega
theorem Und.grow_d {ds' : Value} {E' : List Dd} (S : Und N w0 w b hs cs ds ts H C E T D) (hown : w'.ownsRow N 144 5 ds' E'.length (qzq ddC E')) (hB : But (fun q => ds.ownBlock = some q) w w') (hat : ds'.ownBlock = ds.ownBlock ∨ ds'.ownBlock = some w.heap.size) : Und N w0 w' b hs cs ds' ts H C E' T D := by
 obtain ⟨t1, t2, t3, t4, t5, t6⟩ := qz4q
 have hne : ¬ ds.ownBlock = some b := fun e => S.nd b e rfl
 refine ⟨hB.range S.row S.hi hne, hB.there S.th S.hi hne, S.lo, Nat.lt_of_lt_of_le S.hi hB.size, qz1z S.h hB (fun j e h => qz2w S.h S.d t2 j e h), qz1z S.c hB (fun j e h => qz2w S.c S.d t4 j e h), hown, qz1z S.t hB (fun j e h => qz2w S.t S.d (Ne.symm t6) j e h), S.nh, S.nc, fun q e => ?_, S.nt, S.bel.trans (hB.below (Nat.le_trans S.lo (Nat.le_of_lt S.hi)) (fun q e => qz1l S.d e))⟩
 rcases hat with h | h
 ·rw [h] at e; exact S.nd q e
 ·rw [h] at e; cases e; have := S.hi; omega
theorem Und.grow_t {ts' : Value} {T' : List Int} (S : Und N w0 w b hs cs ds ts H C E T D) (hown : w'.ownsRow N 2 1 ts' T'.length (qzq intC T')) (hB : But (fun q => ts.ownBlock = some q) w w') (hat : ts'.ownBlock = ts.ownBlock ∨ ts'.ownBlock = some w.heap.size) : Und N w0 w' b hs cs ds ts' H C E T' D := by
 obtain ⟨t1, t2, t3, t4, t5, t6⟩ := qz4q
 have hne : ¬ ts.ownBlock = some b := fun e => S.nt b e rfl
 refine ⟨hB.range S.row S.hi hne, hB.there S.th S.hi hne, S.lo, Nat.lt_of_lt_of_le S.hi hB.size, qz1z S.h hB (fun j e h => qz2w S.h S.t t3 j e h), qz1z S.c hB (fun j e h => qz2w S.c S.t t5 j e h), qz1z S.d hB (fun j e h => qz2w S.d S.t t6 j e h), hown, S.nh, S.nc, S.nd, fun q e => ?_, S.bel.trans (hB.below (Nat.le_trans S.lo (Nat.le_of_lt S.hi)) (fun q e => qz1l S.t e))⟩
 rcases hat with h | h
 ·rw [h] at e; exact S.nt q e
 ·rw [h] at e; cases e; have := S.hi; omega
end
end
section
def onAt (L : Nat -> Bool) (i : Nat) : Nat -> Bool := fun j => if j = i then true else L j
theorem qz9e {P : Program} {l : List Oper} {Q : Exit -> Act -> World -> Prop} {id : Nat} {a0 : Act} {w0 : World} (k : Nat) (hm : P.follows .mixedOrders = true)
  (G : (Nat -> Bool) -> Nat -> Value -> World -> Prop) (hT : qzcq l.toArray k (l.length - k) = true) (hL : qzcs l.toArray = true) (hBk : qzdh l.toArray = true) (hg : (l.take k).all (fun o => o.guard.isNone) = true)
  (hdst0 : dstB l.toArray a0.tmps.size = true)
  (step : ∀ (i : Nat) (o : Oper), i < k -> l[i]? = some o -> ∀ (L : Nat -> Bool) (a : Act) (w : World), L i = false -> (∀ j, L j = true -> j < k) -> Below w0.heap.size w0 w -> (∀ t, qz9r l.toArray t = true -> a.eval (.tmp t) = a0.tmps.getD t undef) ->
   (∀ e ∈ o.after, Region.binds .any e = true -> ∀ d, qz3p l.toArray e.on = some d -> L e.on = true /\ G L e.on (a.eval (.tmp d)) w) ->
   ∀ K : Act -> World -> Prop, (∀ v w', G (onAt L i) i v w' -> Below w0.heap.size w0 w' -> (∀ j v', j ≠ i -> L j = true -> G L j v' w -> G (onAt L i) j v' w') -> K (a.put o.dst v) w') -> o.wp P a w K Q)
  (final : ∀ (L : Nat -> Bool) vs w', (∀ i, i < k -> L i = true) -> Below w0.heap.size w0 w' -> (∀ i, i < k -> G L i (vs i) w') ->
   wpList P l.toArray Q (l.drop k) (laid l.toArray vs (qz3q k 0 (Array.replicate l.toArray.size false)) (List.range l.toArray.size) a0) w') :
  (Code.region id l.toArray true).wp P Q a0 w0 := by
 have hdst := qzbw hdst0
 have L := qz97 hL
 have hBack : ∀ i, i < k -> ∀ o, l.toArray[i]? = some o -> ∀ e ∈ o.after, e.on < i := fun i _ o ho => qzc6 hBk i o ho
 simp only [qzcq, Bool.and_eq_true, beq_iff_eq] at hT
 obtain ⟨⟨hkm, hw⟩, hseq⟩ := hT
 have hsl : l.toArray.size = l.length := by simp
 have hkl : k <= l.length := by omega
 refine wp_region_any hm ?_
 have key : ∀ (c : Nat) (listed : Array Bool) (vs : Nat -> Value) (w : World), qz5i listed <= c + (l.length - k) -> listed.size = l.toArray.size -> qz4t .any l.toArray listed -> (∀ j, k <= j -> listed.getD j false = false) -> Below w0.heap.size w0 w ->
   (∀ i, i < l.toArray.size -> listed.getD i false = true -> G (fun j => listed.getD j false) i (vs i) w) ->
   wpAny P .any l.toArray Q (c + (l.length - k)) listed (laid l.toArray vs listed (List.range l.toArray.size) a0) w := by
  intro c
  induction c with
  | zero =>
   intro listed vs w hf hs hc htail hb hG
   by_cases hall : ∀ i, i < k -> listed.getD i false = true
   ·have he : listed = qz3q k 0 (Array.replicate l.toArray.size false) := by
     apply Array.ext
     ·rw [qz2r, hs]; simp
     ·intro i h1 h2
      have g := qz39 k 0 (Array.replicate l.toArray.size false) i (by simp; omega)
      have g1 : (qz3q k 0 (Array.replicate l.toArray.size false))[i] = (qz3q k 0 (Array.replicate l.toArray.size false)).getD i false := qz4d _ _ h2
      have g2 : listed[i] = listed.getD i false := by simp [h1]
      rw [g1, g2, g]
      by_cases c : i < k
      ·rw [if_pos (by omega), hall i c]
      ·have hio : i < l.length := by omega
       rw [if_neg (by omega), htail i (by omega)]
       simp [hio]
    have hfin := final (fun j => listed.getD j false) vs w hall hb (fun i hi => hG i (by omega) (hall i hi))
    rw [<- he] at hfin
    have := qz29 (P := P) (md := .any) (Q := Q) 0 (l.drop k) k listed _ w (fun j => by simp) (by rw [he]; simpa using hseq) hfin
    simpa using this
   ·exfalso
    simp only [Classical.not_forall] at hall
    obtain ⟨i, hi, hu⟩ := hall
    have := qz4p (m := l.length - k) (by omega) htail hi (by simpa using hu)
    omega
  | succ c ih =>
   intro listed vs w hf hs hc htail hb hG
   by_cases hall : ∀ i, i < k -> listed.getD i false = true
   ·have he : listed = qz3q k 0 (Array.replicate l.toArray.size false) := by
     apply Array.ext
     ·rw [qz2r, hs]; simp
     ·intro i h1 h2
      have g := qz39 k 0 (Array.replicate l.toArray.size false) i (by simp; omega)
      have g1 : (qz3q k 0 (Array.replicate l.toArray.size false))[i] = (qz3q k 0 (Array.replicate l.toArray.size false)).getD i false := qz4d _ _ h2
      have g2 : listed[i] = listed.getD i false := by simp [h1]
      rw [g1, g2, g]
      by_cases c : i < k
      ·rw [if_pos (by omega), hall i c]
      ·have hio : i < l.length := by omega
       rw [if_neg (by omega), htail i (by omega)]
       simp [hio]
    have hfin := final (fun j => listed.getD j false) vs w hall hb (fun i hi => hG i (by omega) (hall i hi))
    rw [<- he] at hfin
    have := qz29 (P := P) (md := .any) (Q := Q) (c + 1) (l.drop k) k listed _ w (fun j => by simp) (by rw [he]; simpa using hseq) hfin
    rw [show c + 1 + (l.length - k) = (l.drop k).length + (c + 1) by simp; omega]
    exact this
   simp only [Classical.not_forall] at hall
   obtain ⟨i1, hi1, hu1⟩ := hall
   have hu1' : listed.getD i1 false = false := by simpa using hu1
   have hu1'' : listed.getD i1 true = false := by
    have : i1 < listed.size := by omega
    simpa [this] using hu1'
   have hex : ∃ i, i < k /\ i ∈ Region.ready .any l.toArray listed := by
    apply Classical.byContradiction
    intro hno
    have : ∀ n i, i < n -> i < k -> listed.getD i false = true := by
     intro n
     induction n with
     | zero => intro i hi; omega
     | succ n ihn =>
      intro i hi hik
      rcases Nat.lt_or_ge i n with h | h
      ·exact ihn i h hik
      ·have hin : i = n := by omega
       subst hin
       cases hq : listed.getD i false with
       | true => rfl
       | false =>
        exfalso
        apply hno
        refine ⟨i, hik, mem_ready.2 ⟨?_, ?_⟩⟩
        ·have : i < listed.size := by omega
         simpa [this] using hq
        ·have hil : i < l.toArray.size := by omega
         refine ⟨l.toArray[i], by simp, fun e he hbd => ?_⟩
         exact ihn e.on (hBack i hik _ (by simp) e he) (Nat.lt_trans (hBack i hik _ (by simp) e he) hik)
    have h9 := this (i1 + 1) i1 (by omega) hi1
    rw [hu1'] at h9
    cases h9
   rw [show c + 1 + (l.length - k) = (c + (l.length - k)) + 1 by omega]
   obtain ⟨i0, hi0, hr0⟩ := hex
   refine ⟨fun h0 => (by rw [h0] at hr0; cases hr0), ?_⟩
   intro i hi
   have hik := qz3m hw hc hi1 hu1'' hi
   obtain ⟨h0, o, ho, hall⟩ := mem_ready.1 hi
   have hi' : i < l.toArray.size := (Array.getElem?_eq_some_iff.1 ho).1
   have hlt : i < listed.size := by omega
   have h1 : listed.getD i false = false := by simpa [hlt] using h0
   have ho' : l[i]? = some o := by simpa using ho
   have hguard : o.guard = none := by
    have := (List.all_eq_true.1 hg) o (List.mem_of_getElem? (i := i) (by rw [List.getElem?_take]; simp [hik, ho']))
    simpa using this
   have hnd : (List.range l.toArray.size).Nodup := List.nodup_range
   have hlt' : ∀ e ∈ o.after, Region.binds .any e = true -> ∀ d, qz3p l.toArray e.on = some d -> e.on < l.toArray.size /\ listed.getD e.on false = true /\ (laid l.toArray vs listed (List.range l.toArray.size) a0).eval (.tmp d) = vs e.on := by
    intro e he hbd d hd
    have hel := hall e he hbd
    have hes : e.on < l.toArray.size := by
     rcases Nat.lt_or_ge e.on l.toArray.size with h | h
     ·exact h
     ·simp only [qz3p, Array.getElem?_eq_none h] at hd
      cases hd
    exact ⟨hes, hel, qz5f L vs listed e.on d hd hel _ _ hnd (List.mem_range.2 hes) (hdst _ _ hd)⟩
   have hstep := step i o hik ho' (fun j => listed.getD j false) (laid l.toArray vs listed (List.range l.toArray.size) a0) w h1 (fun j hj => by
     rcases Nat.lt_or_ge j k with h | h
     ·exact h
     ·have := htail j h; rw [this] at hj; cases hj) hb
    (fun t ht => qz3f l.toArray vs listed t _ _ (fun k _ => qz73 ht k))
    (fun e he hbd d hd => by
     obtain ⟨h2, h3, h4⟩ := hlt' e he hbd d hd
     rw [h4]
     exact ⟨h3, hG e.on h2 h3⟩)
   have hwn : Region.wanted o (yielded l.toArray (laid l.toArray vs listed (List.range l.toArray.size) a0).tmps) = true := by simp [Region.wanted, hguard]
   unfold wpOp
   simp only [ho, hwn, if_true]
   refine Or.inl (hstep _ ?_)
   intro v w' hGi hb' hkp
   have hLn : (fun j => (listed.setIfInBounds i true).getD j false) = onAt (fun j => listed.getD j false) i := by
    funext j
    unfold onAt
    by_cases hji : j = i
    ·subst hji
     rw [if_pos rfl]
     simp [hlt]
    ·rw [if_neg hji]
     exact getD_set_ne false (Ne.symm hji)
   have hd' : o.dst = qz3p l.toArray i := by simp only [qz3p, ho, Option.bind_some]
   rw [hd', qz5g L vs listed i v hlt h1 _ _ hnd (List.mem_range.2 hi')]
   have hsz := hb.size
   refine ih _ _ _ (by have := qz4h hlt h1; omega) (by simpa using hs) (hc.set hi) (fun j hj => by rw [getD_set_ne false (by omega)]; exact htail j hj) hb' ?_
   intro j hj hjl
   rw [hLn]
   by_cases hji : j = i
   ·subst hji
    simp only [upd, if_true]
    exact hGi
   ·rw [getD_set_ne false (Ne.symm hji)] at hjl
    simp only [upd, hji, if_false]
    exact hkp j _ hji hjl (hG j hj hjl)
 have hgf : ∀ i, (Array.replicate l.toArray.size false).getD i false = false := by
  intro i
  rcases Nat.lt_or_ge i l.toArray.size with h | h
  ·simp at h; simp [h]
  ·simp at h; simp [h]
 have h0 : laid l.toArray (fun _ => undef) (Array.replicate l.toArray.size false) (List.range l.toArray.size) a0 = a0 := by
  have : ∀ (q : List Nat) (a : Act), laid l.toArray (fun _ => undef) (Array.replicate l.toArray.size false) q a = a := by
   intro q
   induction q with
   | nil => intro a; rfl
   | cons i q ih =>
    intro a
    simp only [laid]
    rw [hgf i]
    simpa using ih a
  exact this _ _
 have hk := key k (Array.replicate l.toArray.size false) (fun _ => undef) { w0 with drawn := w0.drawn + 1 } (by unfold qz5i; simp; omega) (by simp) (fun j o _ hj => by rw [hgf j] at hj; cases hj) (fun j _ => hgf j) ⟨rfl, rfl, rfl, Nat.le_refl _, fun _ _ => rfl⟩ (fun i hi h => by rw [hgf i] at h; cases h)
 rw [h0, show k + (l.length - k) = l.toArray.size by simp; omega] at hk
 exact hk
end
section
section
variable {P : Program}
def upTo (ops : Array Oper) (m : Nat) : Array Bool := qz3q m 0 (Array.replicate ops.size false)
theorem qz8u : ∀ (f k : Nat) (l : Array Bool), (qz3q f k l).setIfInBounds (k + f) true = qz3q (f + 1) k l
 | 0, k, l => by simp [qz3q]
 | f + 1, k, l => by
  rw [qz3q, show k + (f + 1) = (k + 1) + f by omega, qz8u f (k + 1)]
  rfl
theorem qz79 (ops : Array Oper) (m : Nat) : (upTo ops m).setIfInBounds m true = upTo ops (m + 1) := by
 have := qz8u m 0 (Array.replicate ops.size false)
 rw [Nat.zero_add] at this
 exact this
def qzd1 (ops : Array Oper) (k : Nat) : Bool :=
 decide (k + 4 <= ops.size) && Region.noSelect ops && qzd3 .any ops k 0 (Array.replicate ops.size false) && qz87 .any ops k &&
  (Region.ready .any ops (upTo ops k) == [k]) && (Region.ready .any ops (upTo ops (k + 1)) == [k + 1]) &&
  ((Region.ready .any ops (upTo ops (k + 2))).contains (k + 2) && Region.free .any ops (upTo ops (k + 2)) (k + 2)) &&
  ((Region.ready .any ops (upTo ops (k + 3))).contains (k + 3) && Region.free .any ops (upTo ops (k + 3)) (k + 3)) &&
  qz4g .any ops (ops.size - (k + 4)) (k + 4) (upTo ops (k + 4))
theorem qz68 (v : Value) (ix : Nat) (v1 v2 : Value) (hv : v = .tuple #[v1, v2]) (o : Oper) (ev : Operand -> Value) (x : Operand) (ho : o.op = .extract x ix) (hx : ev x = v) (hi : ix < 2) (w : World) : (execOp ev o).run P w = .ok (.value (if ix = 0 then v1 else v2)) w := by
 subst hv
 rcases (show ix = 0 ∨ ix = 1 by omega) with rfl | rfl <;> simp [execOp, ho, hx, go_sem]
theorem qzca (o : Oper) (ev : Operand -> Value) (x : Operand) (ho : o.op = .move x) (w : World) : (execOp ev o).run P w = .ok (.value (ev x)) w := by
 simp [execOp, ho, go_sem]
end
theorem qz4w {P : Program} {id : Nat} {Q : Exit -> Act -> World -> Prop} {a : Act} {w : World} {l : List Oper} (k : Nat) (hm : P.follows .mixedOrders = true) (hB : qzd1 l.toArray k = true)
  (o0 o1 o2 o3 : Oper) (h0 : l[k]? = some o0) (h1 : l[k + 1]? = some o1) (h2 : l[k + 2]? = some o2) (h3 : l[k + 3]? = some o3) (d0 d1 : Tmp) (d2 d3 : Option Tmp)
  (e0 : o0.dst = some d0) (e1 : o1.dst = some d1) (e2 : o2.dst = d2) (e3 : o3.dst = d3) (g0 : o0.guard = none) (g1 : o1.guard = none) (g2 : o2.guard = none) (g3 : o3.guard = none)
  (p1 : o1.op = .move (.tmp d0)) (p2 : o2.op = .extract (.tmp d1) 0) (p3 : o3.op = .extract (.tmp d1) 1) (hd2 : d2 ≠ some d1)
  (hQ2 : ∀ c (a : Act) v w, Q (.panic c) (a.put d2 v) w -> Q (.panic c) a w) (hQ3 : ∀ c (a : Act) v w, Q (.panic c) (a.put d3 v) w -> Q (.panic c) a w)
  (h : wpQuiet P l.toArray (fun w' => ∃ n, w' = w.drewN n) (fun a' => ∀ w', (∃ n, w' = w.drewN n) -> d0 < a'.tmps.size /\ d1 < a'.tmps.size /\ ∃ f args, (execOp a'.eval o0).run P w' = .ok (.enter f args) w' /\
   Calls P f args w' fun e w'' => ∃ v1 v2, e = .returned (.tuple #[v1, v2]) /\ wpList P l.toArray Q (l.drop (k + 4)) ((((a'.put (some d0) (.tuple #[v1, v2])).put (some d1) (.tuple #[v1, v2])).put d2 v1).put d3 v2) w'') (l.take k) a) : (Code.region id l.toArray true).wp P Q a w := by
 simp only [qzd1, Bool.and_eq_true, decide_eq_true_eq, beq_iff_eq] at hB
 obtain ⟨⟨⟨⟨⟨⟨⟨⟨hk4, hs⟩, hlex⟩, hw⟩, r0⟩, r1⟩, r2⟩, r3⟩, hseq⟩ := hB
 have hsz : l.toArray.size = l.length := by simp
 rw [hsz] at hk4
 refine wp_region_any hm ?_
 have hc0 : qz4t .any l.toArray (Array.replicate l.toArray.size false) := by
  intro j o ho hj
  exfalso
  rcases Nat.lt_or_ge j l.toArray.size with h' | h'
  ·simp at h'; simp [h'] at hj
  ·simp at h'; simp [h'] at hj
 have hT := qz55 (P := P) (md := .any) (C := fun w' => ∃ n, w' = w.drewN n) (Q := fun a' => ∀ w', (∃ n, w' = w.drewN n) -> d0 < a'.tmps.size /\ d1 < a'.tmps.size /\ ∃ f args, (execOp a'.eval o0).run P w' = .ok (.enter f args) w' /\
   Calls P f args w' fun e w'' => ∃ v1 v2, e = .returned (.tuple #[v1, v2]) /\ wpList P l.toArray Q (l.drop (k + 4)) ((((a'.put (some d0) (.tuple #[v1, v2])).put (some d1) (.tuple #[v1, v2])).put d2 v1).put d3 v2) w'') hw hs (l.take k) 0 (Array.replicate l.toArray.size false) a (by simp; omega) (fun j hj => by simp at hj; simp [hj]) hc0 (fun i hi => by omega) (by simp; omega) (by simpa [Nat.min_eq_left (show k <= l.length by omega)] using hlex) h
 have hfin := qz5a (P := P) (md := .any) (Q' := Q) (m := l.length - k) hw (by rw [hsz]; omega) (fun a' w' hC hq => by
  obtain ⟨s0, s1, f, args, hrun, hcall⟩ := hq w' hC
  rw [show l.length - k = ((((l.length - (k + 4)) + 1) + 1) + 1) + 1 by omega]
  have hwant : ∀ (o : Oper) (b : Act), o.guard = none -> Region.wanted o (yielded l.toArray b.tmps) = true := fun o b hg => by simp [Region.wanted, hg]
  refine wpAny_all (rs := [k]) r0 (by simp) (fun i hi => ?_)
  obtain rfl := List.mem_singleton.1 hi
  have h0' : l.toArray[i]? = some o0 := by simpa using h0
  unfold wpOp
  simp only [h0', hwant o0 a' g0, if_true]
  refine Or.inl ?_
  unfold Oper.wp
  rw [hrun]
  simp only [Oper.upon]
  refine hcall.mono ?_
  rintro e w2 ⟨v1, v2, rfl, hrest⟩
  show wpAny P .any l.toArray Q _ ((upTo l.toArray i).setIfInBounds i true) _ _
  rw [qz79, e0]
  refine wpAny_all (rs := [i + 1]) r1 (by simp) (fun j hj => ?_)
  obtain rfl := List.mem_singleton.1 hj
  have h1' : l.toArray[i + 1]? = some o1 := by simpa using h1
  unfold wpOp
  simp only [h1', hwant o1 _ g1, if_true]
  refine Or.inl ?_
  unfold Oper.wp
  rw [qzca o1 _ _ p1]
  simp only [Oper.upon]
  rw [qz79, e1]
  have ev0 : (a'.put (some d0) (.tuple #[v1, v2])).eval (.tmp d0) = .tuple #[v1, v2] := qzb4 _ _ _ s0
  rw [ev0]
  have ev1 : ((a'.put (some d0) (.tuple #[v1, v2])).put (some d1) (.tuple #[v1, v2])).eval (.tmp d1) = .tuple #[v1, v2] := qzb4 _ _ _ (by rw [qzat]; exact s1)
  have h2' : l.toArray[i + 2]? = some o2 := by simpa using h2
  have h3' : l.toArray[i + 3]? = some o3 := by simpa using h3
  refine wpAny_take (i := i + 2) (v := v1) h2' hs r2.2 r2.1 (fun c a w hh => hQ2 c a _ w (e2 ▸ hh)) (Or.inl ⟨hwant o2 _ g2, fun w => ?_⟩) ?_
  ·exact qz68 _ 0 v1 v2 rfl o2 _ _ p2 ev1 (by omega) w
  rw [qz79, e2]
  have ev2 : (((a'.put (some d0) (.tuple #[v1, v2])).put (some d1) (.tuple #[v1, v2])).put d2 v1).eval (.tmp d1) = .tuple #[v1, v2] := (qz82 _ _ _ _ hd2).trans ev1
  refine wpAny_take (i := i + 3) (v := v2) h3' hs r3.2 r3.1 (fun c a w hh => hQ3 c a _ w (e3 ▸ hh)) (Or.inl ⟨hwant o3 _ g3, fun w => ?_⟩) ?_
  ·exact qz68 _ 1 v1 v2 rfl o3 _ _ p3 ev2 (by omega) w
  rw [qz79, e3]
  have := qz5q (P := P) (md := .any) (Q := Q) (l.drop (i + 4)) (i + 4) (upTo l.toArray (i + 4)) _ w2 (fun j => by simp) (by simpa using hseq) hrest
  simpa using this) (l.take k).length (Array.replicate l.toArray.size false) a { w with drawn := w.drawn + 1 } ⟨1, rfl⟩ hc0 (by simp) (fun j _ => by
   rcases Nat.lt_or_ge j l.toArray.size with h' | h'
   ·simp at h'; simp [h']
   ·simp at h'; simp [h']) hT
 rw [show (l.take k).length + (l.length - k) = l.toArray.size by simp; omega] at hfin
 exact hfin
end
section
attribute [local go_sem ↓] Go.wp_at_zero Go.wp_at_succ
def qz20 (x y z u : Int) (A : Ar) (h : Hd) : Ar × Hd :=
 if h.at_ = 1 then (A, { h with round := min (h.round + 1) 20000, x_ := qz4c x y z u A h.key, then_ := 1, at_ := 2 })
 else ((qz1d z A h.pred h.predVer (vrOf A h.currVer).next false 0).1, if (qz1d z A h.pred h.predVer (vrOf A h.currVer).next false 0).2 = -2 then qzb h 5 0 0 else if (qz1d z A h.pred h.predVer (vrOf A h.currVer).next false 0).2 = -1 then { h with at_ := 1 } else { h with ver := (qz1d z A h.pred h.predVer (vrOf A h.currVer).next false 0).2, then_ := 3, at_ := 3 })
theorem qz6q (z : Int) (A : Ar) (node v next : Int) (gone : Bool) (kind : Int) : (qz1d z A node v next gone kind).2 = -2 ∨ (qz1d z A node v next gone kind).2 = -1 ∨ 0 <= (qz1d z A node v next gone kind).2 := by
 unfold qz1d
 split
 ·exact Or.inl rfl
 ·split
  ·exact Or.inr (Or.inl rfl)
  ·exact Or.inr (Or.inr (by show (0 : Int) <= (A.vers.length : Int); omega))
theorem qz34 (z : Int) (A : Ar) (node v next : Int) (gone : Bool) (kind : Int) : (qz1d z A node v next gone kind).1.camera = A.camera := by
 unfold qz1d
 split
 ·rfl
 ·split <;> rfl
theorem qz7z (base : Nat) (A : Ar) (h : Hd) (d : Dd) (tk : Bool) (s g n r : Value) (w : World) (hbase : base <= w.heap.size) (hA : A.size <= 1048576) (O : qz38 base w s g n r A) (x y z u : Int) (hOk : qz1o x y z u A = true) (hp0 : 0 <= h.pred) (hp1 : h.pred < (A.nodes.length : Int)) (hc0 : 0 <= h.currVer) (hc1 : h.currVer < (A.vers.length : Int)) (hr0 : 0 <= h.round) (hr1 : h.round <= 20000) :
  Calls Try.prog 111 #[.agg #[.int .i64 x, .int .i64 y, .int .i64 z, .int .i64 u], .agg (qze A.camera s g n r h d tk).toArray] w fun e w' => ∃ s' g' n' r', e = .returned (.agg (qze A.camera s' g' n' r' (qz20 x y z u A h).2 d tk).toArray) /\ qz2b base w w' s g n r s' g' n' r' (qz20 x y z u A h).1 := by
 have hA' := hA
 unfold Ar.size at hA
 obtain ⟨sa, sc, rfl⟩ := qzk O.rs
 obtain ⟨ga, gc, rfl⟩ := qzk O.rg
 obtain ⟨nb, nc, rfl⟩ := qz19 O.rn (by omega)
 obtain ⟨rb, rc, rfl⟩ := qz19 O.rr (by omega)
 obtain ⟨S0, P0⟩ := qz1i base w (.slice sa A.slots.length sc) (.slice ga A.guides.length gc) (.slice (some ⟨nb, 0, none⟩) A.nodes.length nc) (.slice (some ⟨rb, 0, none⟩) A.vers.length rc) A (qze A.camera (.slice sa A.slots.length sc) (.slice ga A.guides.length gc) (.slice (some ⟨nb, 0, none⟩) A.nodes.length nc) (.slice (some ⟨rb, 0, none⟩) A.vers.length rc) h d tk) [.int .i64 0, .slice none 0 0, .slice none 0 0, .slice none 0 0, .slice none 0 0, .int .i64 0, .int .i64 0, .int .i64 0, .int .i64 0, .int .i64 0, .int .i64 0, .int .i64 0, .int .i64 0, .int .i64 0, .int .i64 0, .int .i64 0, .int .i64 0, .int .i64 0, .int .i64 0, .int .i64 0, .int .i64 0, .int .i64 0, .int .i64 0, .int .i64 0, .int .i64 0, .int .i64 0, .int .i64 0, .int .i64 0, .int .i64 0, .int .i64 0, .int .i64 0, .int .i64 0, .bool false] 147 25 x y z u O rfl rfl
 obtain ⟨ck, hck⟩ : ∃ k : Nat, h.currVer = k := ⟨h.currVer.toNat, by omega⟩
 have hcl : ck < A.vers.length := by omega
 go_enter Try.func111, Try.ntmps111
 have tok : True := trivial
 go_wp2_with (clear tok; refine qz2e (((w.alloc (.cells #[.int .i64 x, .int .i64 y, .int .i64 z, .int .i64 u] 25)).alloc (.cells (qze A.camera (.slice sa A.slots.length sc) (.slice ga A.guides.length gc) (.slice (some ⟨nb, 0, none⟩) A.nodes.length nc) (.slice (some ⟨rb, 0, none⟩) A.vers.length rc) h d tk).toArray 147)).alloc (.cells #[.int .i64 0, .slice none 0 0, .slice none 0 0, .slice none 0 0, .slice none 0 0, .int .i64 0, .int .i64 0, .int .i64 0, .int .i64 0, .int .i64 0, .int .i64 0, .int .i64 0, .int .i64 0, .int .i64 0, .int .i64 0, .int .i64 0, .int .i64 0, .int .i64 0, .int .i64 0, .int .i64 0, .int .i64 0, .int .i64 0, .int .i64 0, .int .i64 0, .int .i64 0, .int .i64 0, .int .i64 0, .int .i64 0, .int .i64 0, .int .i64 0, .int .i64 0, .int .i64 0, .bool false] 147)) ?_)
 generalize hw0 : ((w.alloc (.cells #[.int .i64 x, .int .i64 y, .int .i64 z, .int .i64 u] 25)).alloc (.cells (qze A.camera (.slice sa A.slots.length sc) (.slice ga A.guides.length gc) (.slice (some ⟨nb, 0, none⟩) A.nodes.length nc) (.slice (some ⟨rb, 0, none⟩) A.vers.length rc) h d tk).toArray 147)).alloc (.cells #[.int .i64 0, .slice none 0 0, .slice none 0 0, .slice none 0 0, .slice none 0 0, .int .i64 0, .int .i64 0, .int .i64 0, .int .i64 0, .int .i64 0, .int .i64 0, .int .i64 0, .int .i64 0, .int .i64 0, .int .i64 0, .int .i64 0, .int .i64 0, .int .i64 0, .int .i64 0, .int .i64 0, .int .i64 0, .int .i64 0, .int .i64 0, .int .i64 0, .int .i64 0, .int .i64 0, .int .i64 0, .int .i64 0, .int .i64 0, .int .i64 0, .int .i64 0, .int .i64 0, .bool false] 147) = w0 at *
 clear hw0
 show wpList _ _ _ _ _ w0
 have hck0 : (0 : Int) <= (ck : Int) := by omega
 have hck1 : (ck : Int) < (A.vers.length : Int) := by omega
 have x0 := S0.cell 0 rfl
 have x1 := S0.cell 1 rfl
 have x2 := S0.cell 2 rfl
 have x3 := S0.cell 3 rfl
 have x4 := S0.cell 4 rfl
 have q0 := S0.cell 5 rfl
 have q1 := S0.cell 6 rfl
 have q3 := S0.cell 8 rfl
 have q10 := S0.cell 15 rfl
 have q14 := S0.cell 19 rfl
 have q15 := S0.cell 20 rfl
 have q17 := S0.cell 22 rfl
 have q21 := S0.cell 26 rfl
 have f21 := S0.free 26 (by decide)
 rw [hck] at q17
 have hw1 := S0.hi
 by_cases e1 : h.at_ = 1
 case pos =>
  have hd : Hid (qz20 x y z u A h = (A, { h with round := min (h.round + 1) 20000, x_ := qz4c x y z u A h.key, then_ := 1, at_ := 2 })) := by show _ = _; rw [qz20, if_pos e1]
  rw [e1] at q0
  have hr2 : -9223372036854775808 <= h.round + 1 := by omega
  have hr3 : h.round + 1 <= 9223372036854775807 := by omega
  have S1 := S0.put 26 (by rw [qz2n]; omega) (.int .i64 (min (h.round + 1) 20000))
  have P1 : qz3r (w0.setCell ⟨w.heap.size + 1, 26, none⟩ (.int .i64 (min (h.round + 1) 20000))) w.heap.size x y z u := P0.under (Below.setCell (Below.refl (w.heap.size + 1) w0) (p := ⟨w.heap.size + 1, 26, none⟩) (Nat.le_refl _) _) (by omega)
  go_upto_region 3 with (go_at_call 97; refine (qzr _ _ _).mono ?_; rintro e w' ⟨rfl, hw⟩; obtain rfl := hw.symm)
  generalize w0.setCell ⟨w.heap.size + 1, 26, none⟩ (.int .i64 (min (h.round + 1) 20000)) = w1 at *
  clear x0 x1 x2 x3 x4 q0 q1 q3 q10 q14 q15 q17 q21 f21
  have x0 := S1.cell 0 rfl
  have x1 := S1.cell 1 rfl
  have x2 := S1.cell 2 rfl
  have x3 := S1.cell 3 rfl
  have x4 := S1.cell 4 rfl
  have q3 := S1.cell 8 rfl
  obtain ⟨p0, p1, p2, p3⟩ := P1
  go_upto_region 6 with (go_at_call 117; refine (qz9c w1.heap.size A x y z u h.key _ _ _ _ _ _ _ _ _ (Nat.le_refl _) hA' S1.is hOk).mono ?_; rintro e w2 ⟨rfl, b2⟩; have S2 := S1.below b2; have y0 := S2.cell 5 rfl; have y1 := S2.cell 6 rfl; have y10 := S2.cell 15 rfl; have g0 := S2.free 5 (by decide); have g1 := S2.free 6 (by decide); have g10 := S2.free 15 (by decide))
  have S3 : Stp base w _ (w.heap.size + 1) (w.heap.size + 1 + 1) (.slice sa A.slots.length sc) (.slice ga A.guides.length gc) (.slice (some ⟨nb, 0, none⟩) A.nodes.length nc) (.slice (some ⟨rb, 0, none⟩) A.vers.length rc) (.slice sa A.slots.length sc) (.slice ga A.guides.length gc) (.slice (some ⟨nb, 0, none⟩) A.nodes.length nc) (.slice (some ⟨rb, 0, none⟩) A.vers.length rc) A (qze A.camera (.slice sa A.slots.length sc) (.slice ga A.guides.length gc) (.slice (some ⟨nb, 0, none⟩) A.nodes.length nc) (.slice (some ⟨rb, 0, none⟩) A.vers.length rc) { h with round := min (h.round + 1) 20000, x_ := qz4c x y z u A h.key, then_ := 1, at_ := 2 } d tk) := ((S2.put 15 (by simp [qze, hdC, ddC]) (.int .i64 (qz4c x y z u A h.key))).put 6 (by simp [qze, hdC, ddC]) (.int .i64 1)).put 5 (by simp [qze, hdC, ddC]) (.int .i64 2)
  go_wp2_with (first | (refine wpList_load_mid rfl 147 (.tmp 3) rfl (w.heap.size + 1) 0 ?cx1 (qze A.camera (.slice sa A.slots.length sc) (.slice ga A.guides.length gc) (.slice (some ⟨nb, 0, none⟩) A.nodes.length nc) (.slice (some ⟨rb, 0, none⟩) A.vers.length rc) { h with round := min (h.round + 1) 20000, x_ := qz4c x y z u A h.key, then_ := 1, at_ := 2 } d tk) _ ?cc1 Try.underlying147 rfl (qz9 _ _ _ _ _ _ _ _) ?_) | (refine wpList_store_mid rfl 147 (.tmp 4) _ rfl (w.heap.size + 1 + 1) 0 (qze A.camera (.slice sa A.slots.length sc) (.slice ga A.guides.length gc) (.slice (some ⟨nb, 0, none⟩) A.nodes.length nc) (.slice (some ⟨rb, 0, none⟩) A.vers.length rc) { h with round := min (h.round + 1) 20000, x_ := qz4c x y z u A h.key, then_ := 1, at_ := 2 } d tk).toArray ?dx1 ?dy1 ?dt1 (qzt _ _ _ _ _ _ _ _) (qz13 _ _ _ _ _ _ _ _ _ _ _ _ _ _ _ _) ?_))
  try (case cx1 => rfl)
  try (case cc1 => exact S3.row)
  try (case dx1 => rfl)
  try (case dy1 => rfl)
  try (case dt1 => exact S3.to)
  refine bodyPost_ret (v := .agg (qze A.camera (.slice sa A.slots.length sc) (.slice ga A.guides.length gc) (.slice (some ⟨nb, 0, none⟩) A.nodes.length nc) (.slice (some ⟨rb, 0, none⟩) A.vers.length rc) { h with round := min (h.round + 1) 20000, x_ := qz4c x y z u A h.key, then_ := 1, at_ := 2 } d tk).toArray) ?_ rfl ⟨_, _, _, _, by rw [hd.out], by rw [hd.out]; exact S3.fin⟩
  exact qz5 Try.results111 _ _ (w.heap.size + 1 + 1) 0 rfl (qze A.camera (.slice sa A.slots.length sc) (.slice ga A.guides.length gc) (.slice (some ⟨nb, 0, none⟩) A.nodes.length nc) (.slice (some ⟨rb, 0, none⟩) A.vers.length rc) { h with round := min (h.round + 1) 20000, x_ := qz4c x y z u A h.key, then_ := 1, at_ := 2 } d tk) _ (S3.out rfl) Try.underlying147 rfl (qz9 _ _ _ _ _ _ _ _)
 have hfo : Hid (qz20 x y z u A h = ((qz1d z A h.pred h.predVer A.vers[ck].next false 0).1, if (qz1d z A h.pred h.predVer A.vers[ck].next false 0).2 = -2 then qzb h 5 0 0 else if (qz1d z A h.pred h.predVer A.vers[ck].next false 0).2 = -1 then { h with at_ := 1 } else { h with ver := (qz1d z A h.pred h.predVer A.vers[ck].next false 0).2, then_ := 3, at_ := 3 })) := by show _ = _; rw [qz20, if_neg e1, hck, qz32 A ck hcl]
 have hcode := qz6q z A h.pred h.predVer A.vers[ck].next false 0
 have hcam := qz34 z A h.pred h.predVer A.vers[ck].next false 0
 have c0 := (qz33 S0.own.rr (ck * 5) (.int .i64 A.vers[ck].next) (by have := qz1q (f := vrC) (sz := 5) (fun _ => rfl) A.vers ck hcl 0 (by omega); rw [Nat.add_zero] at this; rw [this]; rfl)).1
 obtain ⟨p0, p1, p2, p3⟩ := id P0
 clear hck
 go_upto_region 8 with fail
 refine qz4w 18 (by kernel_rfl) (by kernel_rfl) _ _ _ _ rfl rfl rfl rfl 50 31 (some 51) (some 52) rfl rfl rfl rfl rfl rfl rfl rfl rfl rfl rfl (by decide) (fun _ _ _ _ h => h) (fun _ _ _ _ h => h) ?_
 simp only [List.take_succ_cons, List.take_zero, List.drop_succ_cons, List.drop_zero]
 repeat (quiet_step (fail))
 refine wpQuiet_nil ?_
 rintro _ ⟨nr, rfl⟩
 have S1 := S0.below (w' := w0.drewN nr) ⟨rfl, rfl, rfl, Nat.le_refl _, fun _ _ => rfl⟩
 have hz1 := S1.hi
 refine ⟨by simp, by simp, 118, #[.agg #[.int .i64 x, .int .i64 y, .int .i64 z, .int .i64 u], .agg #[.int .i64 A.camera, .slice sa A.slots.length sc, .slice ga A.guides.length gc, .slice (some ⟨nb, 0, none⟩) A.nodes.length nc, .slice (some ⟨rb, 0, none⟩) A.vers.length rc], .int .i64 h.pred, .int .i64 h.predVer, .int .i64 A.vers[ck].next, .bool false, .int .i64 0], by go_simp, ?_⟩
 refine (qz61 base A x y z u h.pred h.predVer A.vers[ck].next false 0 _ _ _ _ _ (Nat.le_trans hbase S1.but.size) hA' S1.own hp0 hp1).mono ?_
 rintro e w2 ⟨s2, g2, n2, r2, rfl, E⟩
 refine ⟨_, _, rfl, ?_⟩
 have S2 := S1.swap E
 clear x0 x1 x2 x3 x4 q0 q1 q3 q10 q14 q15 q17 q21 f21 c0 p0 p1 p2 p3 S0 P0 E
 generalize (qz1d z A h.pred h.predVer A.vers[ck].next false 0) = sw at *
 obtain ⟨A2, nv⟩ := sw
 obtain ⟨sa2, sc2, rfl⟩ := qzk S2.own.rs
 obtain ⟨ga2, gc2, rfl⟩ := qzk S2.own.rg
 obtain ⟨na2, nc2, rfl⟩ := qzk S2.own.rn
 obtain ⟨ra2, rc2, rfl⟩ := qzk S2.own.rr
 have x0 := S2.cell 0 rfl
 have x1 := S2.cell 1 rfl
 have x2 := S2.cell 2 rfl
 have x3 := S2.cell 3 rfl
 have x4 := S2.cell 4 rfl
 have k0 := S2.free 0 (by decide)
 have k1 := S2.free 1 (by decide)
 have k2 := S2.free 2 (by decide)
 have k3 := S2.free 3 (by decide)
 have k4 := S2.free 4 (by decide)
 dsimp only at hcode hfo
 go_upto_region 9 with fail
 have S3 : Stp base w (((((w2.setCell ⟨w.heap.size + 1, 0, none⟩ (.int .i64 A.camera)).setCell ⟨w.heap.size + 1, 1, none⟩ (.slice sa2 A2.slots.length sc2)).setCell ⟨w.heap.size + 1, 2, none⟩ (.slice ga2 A2.guides.length gc2)).setCell ⟨w.heap.size + 1, 3, none⟩ (.slice na2 A2.nodes.length nc2)).setCell ⟨w.heap.size + 1, 4, none⟩ (.slice ra2 A2.vers.length rc2)) (w.heap.size + 1) (w.heap.size + 1 + 1) (.slice sa A.slots.length sc) (.slice ga A.guides.length gc) (.slice (some ⟨nb, 0, none⟩) A.nodes.length nc) (.slice (some ⟨rb, 0, none⟩) A.vers.length rc) (.slice sa2 A2.slots.length sc2) (.slice ga2 A2.guides.length gc2) (.slice na2 A2.nodes.length nc2) (.slice ra2 A2.vers.length rc2) A2 (qze A.camera (.slice sa2 A2.slots.length sc2) (.slice ga2 A2.guides.length gc2) (.slice na2 A2.nodes.length nc2) (.slice ra2 A2.vers.length rc2) h d tk) := S2.arena (cam' := A.camera)
 generalize ((((w2.setCell ⟨w.heap.size + 1, 0, none⟩ (.int .i64 A.camera)).setCell ⟨w.heap.size + 1, 1, none⟩ (.slice sa2 A2.slots.length sc2)).setCell ⟨w.heap.size + 1, 2, none⟩ (.slice ga2 A2.guides.length gc2)).setCell ⟨w.heap.size + 1, 3, none⟩ (.slice na2 A2.nodes.length nc2)).setCell ⟨w.heap.size + 1, 4, none⟩ (.slice ra2 A2.vers.length rc2) = w3 at *
 clear S2 S1 hz1 x0 x1 x2 x3 x4 k0 k1 k2 k3 k4
 rcases hcode with rfl | rfl | hnv
 ·have hd : Hid (qz20 x y z u A h = (A2, qzb h 5 0 0)) := by show _ = _; rw [hfo.out, if_pos rfl]
  go_upto_region 17 with (first | (refine wpList_load_mid rfl 27 (.tmp 64) rfl (w.heap.size + 1) 5 ?ax81 (hdC h) _ ?ac81 Try.underlying27 rfl (qz1 h) ?_) | (go_at_call 119; refine (qzv h 5 0 0 _).mono ?_; rintro e w4 ⟨rfl, b4⟩; have S4 := S3.below b4) | (refine wpList_store_mid rfl 27 (.tmp 67) _ rfl (w.heap.size + 1) 5 (hdC (qzb h 5 0 0)).toArray ?bx82 ?by82 ?bt82 (qza _) (qzf _) ?_))
  try (case ax81 => rfl)
  try (case ac81 => exact (qzw S3.row).2.1)
  try (case bx82 => rfl)
  try (case by82 => rfl)
  try (case bt82 => have T := qz1c S4.th 5 22 (by omega); rw [Nat.zero_add] at T; exact T)
  have S5 := S4.hand (qzb h 5 0 0)
  go_wp2_with (first | (refine wpList_load_mid rfl 147 (.tmp 3) rfl (w.heap.size + 1) 0 ?cx83 (qze A.camera (.slice sa2 A2.slots.length sc2) (.slice ga2 A2.guides.length gc2) (.slice na2 A2.nodes.length nc2) (.slice ra2 A2.vers.length rc2) (qzb h 5 0 0) d tk) _ ?cc83 Try.underlying147 rfl (qz9 _ _ _ _ _ _ _ _) ?_) | (refine wpList_store_mid rfl 147 (.tmp 4) _ rfl (w.heap.size + 1 + 1) 0 (qze A.camera (.slice sa2 A2.slots.length sc2) (.slice ga2 A2.guides.length gc2) (.slice na2 A2.nodes.length nc2) (.slice ra2 A2.vers.length rc2) (qzb h 5 0 0) d tk).toArray ?dx83 ?dy83 ?dt83 (qzt _ _ _ _ _ _ _ _) (qz13 _ _ _ _ _ _ _ _ _ _ _ _ _ _ _ _) ?_))
  try (case cx83 => rfl)
  try (case cc83 => exact S5.row)
  try (case dx83 => rfl)
  try (case dy83 => rfl)
  try (case dt83 => exact S5.to)
  refine bodyPost_ret (v := .agg (qze A.camera (.slice sa2 A2.slots.length sc2) (.slice ga2 A2.guides.length gc2) (.slice na2 A2.nodes.length nc2) (.slice ra2 A2.vers.length rc2) (qzb h 5 0 0) d tk).toArray) ?_ rfl ⟨_, _, _, _, by rw [hd.out], by rw [hd.out]; exact S5.fin⟩
  exact qz5 Try.results111 _ _ (w.heap.size + 1 + 1) 0 rfl (qze A.camera (.slice sa2 A2.slots.length sc2) (.slice ga2 A2.guides.length gc2) (.slice na2 A2.nodes.length nc2) (.slice ra2 A2.vers.length rc2) (qzb h 5 0 0) d tk) _ (S5.out rfl) Try.underlying147 rfl (qz9 _ _ _ _ _ _ _ _)
 ·have hd : Hid (qz20 x y z u A h = (A2, { h with at_ := 1 })) := by show _ = _; rw [hfo.out, if_neg (by decide), if_pos rfl]
  have q0 := S3.cell 5 rfl
  have f0 := S3.free 5 (by decide)
  go_upto_region 17 with fail
  have S5 : Stp base w _ (w.heap.size + 1) (w.heap.size + 1 + 1) (.slice sa A.slots.length sc) (.slice ga A.guides.length gc) (.slice (some ⟨nb, 0, none⟩) A.nodes.length nc) (.slice (some ⟨rb, 0, none⟩) A.vers.length rc) (.slice sa2 A2.slots.length sc2) (.slice ga2 A2.guides.length gc2) (.slice na2 A2.nodes.length nc2) (.slice ra2 A2.vers.length rc2) A2 (qze A.camera (.slice sa2 A2.slots.length sc2) (.slice ga2 A2.guides.length gc2) (.slice na2 A2.nodes.length nc2) (.slice ra2 A2.vers.length rc2) { h with at_ := 1 } d tk) := S3.put 5 (by simp [qze, hdC, ddC]) (.int .i64 1)
  go_wp2_with (first | (refine wpList_load_mid rfl 147 (.tmp 3) rfl (w.heap.size + 1) 0 ?cx84 (qze A.camera (.slice sa2 A2.slots.length sc2) (.slice ga2 A2.guides.length gc2) (.slice na2 A2.nodes.length nc2) (.slice ra2 A2.vers.length rc2) { h with at_ := 1 } d tk) _ ?cc84 Try.underlying147 rfl (qz9 _ _ _ _ _ _ _ _) ?_) | (refine wpList_store_mid rfl 147 (.tmp 4) _ rfl (w.heap.size + 1 + 1) 0 (qze A.camera (.slice sa2 A2.slots.length sc2) (.slice ga2 A2.guides.length gc2) (.slice na2 A2.nodes.length nc2) (.slice ra2 A2.vers.length rc2) { h with at_ := 1 } d tk).toArray ?dx84 ?dy84 ?dt84 (qzt _ _ _ _ _ _ _ _) (qz13 _ _ _ _ _ _ _ _ _ _ _ _ _ _ _ _) ?_))
  try (case cx84 => rfl)
  try (case cc84 => exact S5.row)
  try (case dx84 => rfl)
  try (case dy84 => rfl)
  try (case dt84 => exact S5.to)
  refine bodyPost_ret (v := .agg (qze A.camera (.slice sa2 A2.slots.length sc2) (.slice ga2 A2.guides.length gc2) (.slice na2 A2.nodes.length nc2) (.slice ra2 A2.vers.length rc2) { h with at_ := 1 } d tk).toArray) ?_ rfl ⟨_, _, _, _, by rw [hd.out], by rw [hd.out]; exact S5.fin⟩
  exact qz5 Try.results111 _ _ (w.heap.size + 1 + 1) 0 rfl (qze A.camera (.slice sa2 A2.slots.length sc2) (.slice ga2 A2.guides.length gc2) (.slice na2 A2.nodes.length nc2) (.slice ra2 A2.vers.length rc2) { h with at_ := 1 } d tk) _ (S5.out rfl) Try.underlying147 rfl (qz9 _ _ _ _ _ _ _ _)
 ·have m2 : ¬ (nv = -2) := by omega
  have m1 : ¬ (nv = -1) := by omega
  have hd : Hid (qz20 x y z u A h = (A2, { h with ver := nv, then_ := 3, at_ := 3 })) := by show _ = _; rw [hfo.out, if_neg m2, if_neg m1]
  have q0 := S3.cell 5 rfl
  have q1 := S3.cell 6 rfl
  have q11 := S3.cell 16 rfl
  have f0 := S3.free 5 (by decide)
  have f1 := S3.free 6 (by decide)
  have f11 := S3.free 16 (by decide)
  go_upto_region 17 with fail
  have S5 : Stp base w _ (w.heap.size + 1) (w.heap.size + 1 + 1) (.slice sa A.slots.length sc) (.slice ga A.guides.length gc) (.slice (some ⟨nb, 0, none⟩) A.nodes.length nc) (.slice (some ⟨rb, 0, none⟩) A.vers.length rc) (.slice sa2 A2.slots.length sc2) (.slice ga2 A2.guides.length gc2) (.slice na2 A2.nodes.length nc2) (.slice ra2 A2.vers.length rc2) A2 (qze A.camera (.slice sa2 A2.slots.length sc2) (.slice ga2 A2.guides.length gc2) (.slice na2 A2.nodes.length nc2) (.slice ra2 A2.vers.length rc2) { h with ver := nv, then_ := 3, at_ := 3 } d tk) := ((S3.put 16 (by simp [qze, hdC, ddC]) (.int .i64 nv)).put 6 (by simp [qze, hdC, ddC]) (.int .i64 3)).put 5 (by simp [qze, hdC, ddC]) (.int .i64 3)
  go_wp2_with (first | (refine wpList_load_mid rfl 147 (.tmp 3) rfl (w.heap.size + 1) 0 ?cx85 (qze A.camera (.slice sa2 A2.slots.length sc2) (.slice ga2 A2.guides.length gc2) (.slice na2 A2.nodes.length nc2) (.slice ra2 A2.vers.length rc2) { h with ver := nv, then_ := 3, at_ := 3 } d tk) _ ?cc85 Try.underlying147 rfl (qz9 _ _ _ _ _ _ _ _) ?_) | (refine wpList_store_mid rfl 147 (.tmp 4) _ rfl (w.heap.size + 1 + 1) 0 (qze A.camera (.slice sa2 A2.slots.length sc2) (.slice ga2 A2.guides.length gc2) (.slice na2 A2.nodes.length nc2) (.slice ra2 A2.vers.length rc2) { h with ver := nv, then_ := 3, at_ := 3 } d tk).toArray ?dx85 ?dy85 ?dt85 (qzt _ _ _ _ _ _ _ _) (qz13 _ _ _ _ _ _ _ _ _ _ _ _ _ _ _ _) ?_))
  try (case cx85 => rfl)
  try (case cc85 => exact S5.row)
  try (case dx85 => rfl)
  try (case dy85 => rfl)
  try (case dt85 => exact S5.to)
  refine bodyPost_ret (v := .agg (qze A.camera (.slice sa2 A2.slots.length sc2) (.slice ga2 A2.guides.length gc2) (.slice na2 A2.nodes.length nc2) (.slice ra2 A2.vers.length rc2) { h with ver := nv, then_ := 3, at_ := 3 } d tk).toArray) ?_ rfl ⟨_, _, _, _, by rw [hd.out], by rw [hd.out]; exact S5.fin⟩
  exact qz5 Try.results111 _ _ (w.heap.size + 1 + 1) 0 rfl (qze A.camera (.slice sa2 A2.slots.length sc2) (.slice ga2 A2.guides.length gc2) (.slice na2 A2.nodes.length nc2) (.slice ra2 A2.vers.length rc2) { h with ver := nv, then_ := 3, at_ := 3 } d tk) _ (S5.out rfl) Try.underlying147 rfl (qz9 _ _ _ _ _ _ _ _)
end
section
attribute [local go_sem ↓] Go.wp_at_zero Go.wp_at_succ
def aimI (h : Hd) : Int := if h.curr = 0 then -1 else h.curr
def newI (h : Hd) : Int := if h.new_ <= 0 then -1 else h.new_
theorem qz7f (h : Hd) (w : World) :
  Calls Try.prog 124 #[.agg (hdC h).toArray] w fun e w' => e = .returned (.int .i64 (aimI h)) /\ Below w.heap.size w w' := by
 have X0 := qzd w (hdC h) 27
 have K0 := (Below.refl w.heap.size w).alloc (Nat.le_refl _) (.cells (hdC h).toArray 27)
 have q : (w.alloc (.cells (hdC h).toArray 27)).cell? ⟨w.heap.size, 16, none⟩ = some (.int .i64 h.curr) := by simpa using X0 16 _ rfl
 by_cases h0 : h.curr = 0
 ·have hv : Hid (aimI h = -1) := by show _ = _; rw [aimI, if_pos h0]
  rw [h0] at q
  clear h0
  go_enter Try.func124, Try.ntmps124
  go_wp2
  go_ret
  exact ⟨by rw [hv.out]; rfl, K0⟩
 ·have hv : Hid (aimI h = h.curr) := by show _ = _; rw [aimI, if_neg h0]
  go_enter Try.func124, Try.ntmps124
  go_wp2
  go_ret
  exact ⟨by rw [hv.out]; rfl, K0⟩
theorem qzai (h : Hd) (w : World) :
  Calls Try.prog 126 #[.agg (hdC h).toArray] w fun e w' => e = .returned (.int .i64 (newI h)) /\ Below w.heap.size w w' := by
 have X0 := qzd w (hdC h) 27
 have K0 := (Below.refl w.heap.size w).alloc (Nat.le_refl _) (.cells (hdC h).toArray 27)
 have q : (w.alloc (.cells (hdC h).toArray 27)).cell? ⟨w.heap.size, 18, none⟩ = some (.int .i64 h.new_) := by simpa using X0 18 _ rfl
 by_cases h0 : h.new_ <= 0
 ·have hv : Hid (newI h = -1) := by show _ = _; rw [newI, if_pos h0]
  go_enter Try.func126, Try.ntmps126
  go_wp2
  go_ret
  exact ⟨by rw [hv.out]; rfl, K0⟩
 ·have hv : Hid (newI h = h.new_) := by show _ = _; rw [newI, if_neg h0]
  go_enter Try.func126, Try.ntmps126
  go_wp2
  go_ret
  exact ⟨by rw [hv.out]; rfl, K0⟩
end
section
attribute [local go_sem ↓] Go.wp_at_zero Go.wp_at_succ
def qz37 (y z : Int) (A : Ar) (h : Hd) : Ar × Hd :=
 if y <= (A.nodes.length : Int) ∨ z <= (A.vers.length : Int) then (A, qzb h 5 0 0)
 else ({ A with vers := A.vers ++ [⟨aimI h, false, 0, -1, 0⟩], nodes := A.nodes ++ [⟨max h.key 0, h.value, (A.vers.length : Int)⟩] }, { h with new_ := (A.nodes.length : Int), at_ := 9 })
section
variable {base : Nat} {w0 w w' : World} {b bo : Nat} {s0 g0 n0 r0 s g n r : Value} {A : Ar} {D : List Value}
theorem Stp.grow_r {r' : Value} {ys : List Vr} (S : Stp base w0 w b bo s0 g0 n0 r0 s g n r A D) (hown : w'.ownsRow base 62 5 r' ys.length (qzq vrC ys)) (hB : But (fun q => r.ownBlock = some q) w w') (hat : r'.ownBlock = r.ownBlock ∨ ∃ q, r'.ownBlock = some q /\ w.heap.size <= q) : Stp base w0 w' b bo s0 g0 n0 r0 s g n r' { A with vers := ys } D := by
 have hb := Nat.lt_trans S.lt S.hi
 refine ⟨hB.range S.row hb (fun e => (S.ne b (Or.inr (Or.inr (Or.inr e)))).1 rfl), hB.there S.th hb (fun e => (S.ne b (Or.inr (Or.inr (Or.inr e)))).1 rfl), hB.there S.to S.hi (fun e => (S.ne bo (Or.inr (Or.inr (Or.inr e)))).2 rfl), S.lo, S.lt, Nat.lt_of_lt_of_le S.hi hB.size, ⟨qz1z S.own.rs hB (fun j e h => qz2w S.own.rs S.own.rr (by decide) j e h), qz1z S.own.rg hB (fun j e h => qz2w S.own.rg S.own.rr (by decide) j e h), qz1z S.own.rn hB (fun j e h => qz2w S.own.rn S.own.rr (by decide) j e h), hown, S.own.ne⟩, ?_, ?_, ?_⟩
 ·refine ⟨hB.os.trans S.but.os, hB.tape.trans S.but.tape, hB.output.trans S.but.output, Nat.le_trans S.but.size hB.size, fun q hq hn => (hB.block q (Nat.lt_of_lt_of_le hq S.but.size) (fun h => ?_)).trans (S.but.block q hq hn)⟩
  rcases S.blk q (Or.inr (Or.inr (Or.inr h))) with h1 | h1
  ·exact hn h1
  ·omega
 ·rintro q (h | h | h | h)
  ·exact S.blk q (Or.inl h)
  ·exact S.blk q (Or.inr (Or.inl h))
  ·exact S.blk q (Or.inr (Or.inr (Or.inl h)))
  ·rcases hat with h' | ⟨q', h', h2⟩
   ·rw [h'] at h; exact S.blk q (Or.inr (Or.inr (Or.inr h)))
   ·rw [h'] at h; cases h; exact Or.inr (Nat.le_trans S.but.size h2)
 ·have hi := S.hi
  have hlt := S.lt
  rintro q (h | h | h | h)
  ·exact S.ne q (Or.inl h)
  ·exact S.ne q (Or.inr (Or.inl h))
  ·exact S.ne q (Or.inr (Or.inr (Or.inl h)))
  ·rcases hat with h' | ⟨q', h', h2⟩
   ·rw [h'] at h; exact S.ne q (Or.inr (Or.inr (Or.inr h)))
   ·rw [h'] at h; cases h; omega
theorem Stp.grow_n {n' : Value} {ys : List Nd} (S : Stp base w0 w b bo s0 g0 n0 r0 s g n r A D) (hown : w'.ownsRow base 96 3 n' ys.length (qzq ndC ys)) (hB : But (fun q => n.ownBlock = some q) w w') (hat : n'.ownBlock = n.ownBlock ∨ ∃ q, n'.ownBlock = some q /\ w.heap.size <= q) : Stp base w0 w' b bo s0 g0 n0 r0 s g n' r { A with nodes := ys } D := by
 have hb := Nat.lt_trans S.lt S.hi
 refine ⟨hB.range S.row hb (fun e => (S.ne b (Or.inr (Or.inr (Or.inl e)))).1 rfl), hB.there S.th hb (fun e => (S.ne b (Or.inr (Or.inr (Or.inl e)))).1 rfl), hB.there S.to S.hi (fun e => (S.ne bo (Or.inr (Or.inr (Or.inl e)))).2 rfl), S.lo, S.lt, Nat.lt_of_lt_of_le S.hi hB.size, ⟨qz1z S.own.rs hB (fun j e h => qz2w S.own.rs S.own.rn (by decide) j e h), qz1z S.own.rg hB (fun j e h => qz2w S.own.rg S.own.rn (by decide) j e h), hown, qz1z S.own.rr hB (fun j e h => qz2w S.own.rr S.own.rn (by decide) j e h), S.own.ne⟩, ?_, ?_, ?_⟩
 ·refine ⟨hB.os.trans S.but.os, hB.tape.trans S.but.tape, hB.output.trans S.but.output, Nat.le_trans S.but.size hB.size, fun q hq hn => (hB.block q (Nat.lt_of_lt_of_le hq S.but.size) (fun h => ?_)).trans (S.but.block q hq hn)⟩
  rcases S.blk q (Or.inr (Or.inr (Or.inl h))) with h1 | h1
  ·exact hn h1
  ·omega
 ·rintro q (h | h | h | h)
  ·exact S.blk q (Or.inl h)
  ·exact S.blk q (Or.inr (Or.inl h))
  ·rcases hat with h' | ⟨q', h', h2⟩
   ·rw [h'] at h; exact S.blk q (Or.inr (Or.inr (Or.inl h)))
   ·rw [h'] at h; cases h; exact Or.inr (Nat.le_trans S.but.size h2)
  ·exact S.blk q (Or.inr (Or.inr (Or.inr h)))
 ·have hi := S.hi
  have hlt := S.lt
  rintro q (h | h | h | h)
  ·exact S.ne q (Or.inl h)
  ·exact S.ne q (Or.inr (Or.inl h))
  ·rcases hat with h' | ⟨q', h', h2⟩
   ·rw [h'] at h; exact S.ne q (Or.inr (Or.inr (Or.inl h)))
   ·rw [h'] at h; cases h; omega
  ·exact S.ne q (Or.inr (Or.inr (Or.inr h)))
end
def qzdi (b : Nat) (ra : Option Addr) (rl rc : Nat) (h : Hd) (lo : Nat) : Nat -> Value -> World -> Prop
 | 0, v, _ => v = .pointer (some ⟨b, 0, none⟩)
 | 1, v, _ => v = .pointer (some ⟨b, 4, none⟩)
 | 2, v, _ => v = .slice ra rl rc
 | 3, v, _ => v = .pointer (some ⟨b, 5, none⟩)
 | 4, v, _ => v = .agg (hdC h).toArray
 | 5, v, _ => v = .int .i64 (aimI h)
 | 6, v, _ => v = .agg (vrC ⟨aimI h, false, 0, -1, 0⟩).toArray
 | 7, v, w => ∃ q, v = .slice (some ⟨q, 0, none⟩) 1 1 /\ lo <= q /\ q < w.heap.size /\ w.rangeAt q 0 (vrC ⟨aimI h, false, 0, -1, 0⟩)
 | _, _, _ => True
theorem qzaf {b : Nat} {ra : Option Addr} {rl rc : Nat} {h : Hd} {lo : Nat} (i : Nat) (v : Value) (w w' : World) (H : qzdi b ra rl rc h lo i v w) (hb : Below w.heap.size w w') : qzdi b ra rl rc h lo i v w' := by
 match i, H with
 | 0, H => exact H
 | 1, H => exact H
 | 2, H => exact H
 | 3, H => exact H
 | 4, H => exact H
 | 5, H => exact H
 | 6, H => exact H
 | 7, H =>
  obtain ⟨q, e, h1, h2, h3⟩ := H
  exact ⟨q, e, h1, Nat.lt_of_lt_of_le h2 hb.size, qz0 h3 hb h2⟩
 | i + 8, H => exact trivial
def qzcp (b : Nat) (na : Option Addr) (nl nc : Nat) (h : Hd) (nd : Nd) (lo : Nat) : Nat -> Value -> World -> Prop
 | 0, v, _ => v = .pointer (some ⟨b, 0, none⟩)
 | 1, v, _ => v = .pointer (some ⟨b, 3, none⟩)
 | 2, v, _ => v = .slice na nl nc
 | 3, v, _ => v = .pointer (some ⟨b, 5, none⟩)
 | 4, v, _ => v = .pointer (some ⟨b, 8, none⟩)
 | 5, v, _ => v = .int .i64 h.key
 | 6, v, _ => v = .int .i64 nd.key
 | 7, v, _ => v = .pointer (some ⟨b, 5, none⟩)
 | 8, v, _ => v = .pointer (some ⟨b, 9, none⟩)
 | 9, v, _ => v = .int .i64 nd.value
 | 10, v, _ => v = .int .i64 nd.head
 | 11, v, _ => v = .agg (ndC nd).toArray
 | 12, v, w => ∃ q, v = .slice (some ⟨q, 0, none⟩) 1 1 /\ lo <= q /\ q < w.heap.size /\ w.rangeAt q 0 (ndC nd)
 | _, _, _ => True
theorem qz9m {b : Nat} {na : Option Addr} {nl nc : Nat} {h : Hd} {nd : Nd} {lo : Nat} (i : Nat) (v : Value) (w w' : World) (H : qzcp b na nl nc h nd lo i v w) (hb : Below w.heap.size w w') : qzcp b na nl nc h nd lo i v w' := by
 match i, H with
 | 0, H => exact H
 | 1, H => exact H
 | 2, H => exact H
 | 3, H => exact H
 | 4, H => exact H
 | 5, H => exact H
 | 6, H => exact H
 | 7, H => exact H
 | 8, H => exact H
 | 9, H => exact H
 | 10, H => exact H
 | 11, H => exact H
 | 12, H =>
  obtain ⟨q, e, h1, h2, h3⟩ := H
  exact ⟨q, e, h1, Nat.lt_of_lt_of_le h2 hb.size, qz0 h3 hb h2⟩
 | i + 13, H => exact trivial
theorem qz9n (base : Nat) (A : Ar) (h : Hd) (d : Dd) (tk : Bool) (s g n r : Value) (w : World) (hbase : base <= w.heap.size) (hA : A.size <= 1048576) (O : qz38 base w s g n r A) (x y z u : Int) :
  Calls Try.prog 123 #[.agg #[.int .i64 x, .int .i64 y, .int .i64 z, .int .i64 u], .agg (qze A.camera s g n r h d tk).toArray] w fun e w' => ∃ s' g' n' r', e = .returned (.agg (qze A.camera s' g' n' r' (qz37 y z A h).2 d tk).toArray) /\ qz2b base w w' s g n r s' g' n' r' (qz37 y z A h).1 := by
 have hA' := hA
 unfold Ar.size at hA
 obtain ⟨sa, sc, rfl⟩ := qzk O.rs
 obtain ⟨ga, gc, rfl⟩ := qzk O.rg
 obtain ⟨na, nc, rfl⟩ := qzk O.rn
 obtain ⟨ra, rc, rfl⟩ := qzk O.rr
 obtain ⟨S0, P0⟩ := qz1i base w (.slice sa A.slots.length sc) (.slice ga A.guides.length gc) (.slice na A.nodes.length nc) (.slice ra A.vers.length rc) A (qze A.camera (.slice sa A.slots.length sc) (.slice ga A.guides.length gc) (.slice na A.nodes.length nc) (.slice ra A.vers.length rc) h d tk) [.int .i64 0, .slice none 0 0, .slice none 0 0, .slice none 0 0, .slice none 0 0, .int .i64 0, .int .i64 0, .int .i64 0, .int .i64 0, .int .i64 0, .int .i64 0, .int .i64 0, .int .i64 0, .int .i64 0, .int .i64 0, .int .i64 0, .int .i64 0, .int .i64 0, .int .i64 0, .int .i64 0, .int .i64 0, .int .i64 0, .int .i64 0, .int .i64 0, .int .i64 0, .int .i64 0, .int .i64 0, .int .i64 0, .int .i64 0, .int .i64 0, .int .i64 0, .int .i64 0, .bool false] 147 25 x y z u O rfl rfl
 go_enter Try.func123, Try.ntmps123
 have tok : True := trivial
 go_wp2_with (clear tok; refine qz2e (((w.alloc (.cells #[.int .i64 x, .int .i64 y, .int .i64 z, .int .i64 u] 25)).alloc (.cells (qze A.camera (.slice sa A.slots.length sc) (.slice ga A.guides.length gc) (.slice na A.nodes.length nc) (.slice ra A.vers.length rc) h d tk).toArray 147)).alloc (.cells #[.int .i64 0, .slice none 0 0, .slice none 0 0, .slice none 0 0, .slice none 0 0, .int .i64 0, .int .i64 0, .int .i64 0, .int .i64 0, .int .i64 0, .int .i64 0, .int .i64 0, .int .i64 0, .int .i64 0, .int .i64 0, .int .i64 0, .int .i64 0, .int .i64 0, .int .i64 0, .int .i64 0, .int .i64 0, .int .i64 0, .int .i64 0, .int .i64 0, .int .i64 0, .int .i64 0, .int .i64 0, .int .i64 0, .int .i64 0, .int .i64 0, .int .i64 0, .int .i64 0, .bool false] 147)) ?_)
 generalize hw0 : ((w.alloc (.cells #[.int .i64 x, .int .i64 y, .int .i64 z, .int .i64 u] 25)).alloc (.cells (qze A.camera (.slice sa A.slots.length sc) (.slice ga A.guides.length gc) (.slice na A.nodes.length nc) (.slice ra A.vers.length rc) h d tk).toArray 147)).alloc (.cells #[.int .i64 0, .slice none 0 0, .slice none 0 0, .slice none 0 0, .slice none 0 0, .int .i64 0, .int .i64 0, .int .i64 0, .int .i64 0, .int .i64 0, .int .i64 0, .int .i64 0, .int .i64 0, .int .i64 0, .int .i64 0, .int .i64 0, .int .i64 0, .int .i64 0, .int .i64 0, .int .i64 0, .int .i64 0, .int .i64 0, .int .i64 0, .int .i64 0, .int .i64 0, .int .i64 0, .int .i64 0, .int .i64 0, .int .i64 0, .int .i64 0, .int .i64 0, .int .i64 0, .bool false] 147) = w0 at *
 clear hw0
 show wpList _ _ _ _ _ w0
 have x0 := S0.cell 0 rfl
 have x1 := S0.cell 1 rfl
 have x2 := S0.cell 2 rfl
 have x3 := S0.cell 3 rfl
 have x4 := S0.cell 4 rfl
 obtain ⟨p0, p1, p2, p3⟩ := id P0
 have hw1 := S0.hi
 by_cases hfull : y <= (A.nodes.length : Int) ∨ z <= (A.vers.length : Int)
 ·have hd : Hid (qz37 y z A h = (A, qzb h 5 0 0)) := by show _ = _; rw [qz37, if_pos hfull]
  by_cases hf1 : y <= (A.nodes.length : Int)
  ·clear hfull
   go_upto_region 5 with (first | (refine wpList_load_mid rfl 27 (.tmp 25) rfl (w.heap.size + 1) 5 ?ax11 (hdC h) _ ?ac11 Try.underlying27 rfl (qz1 h) ?_) | (go_at_call 119; refine (qzv h 5 0 0 _).mono ?_; rintro e w4 ⟨rfl, b4⟩; have S4 := S0.below b4) | (refine wpList_store_mid rfl 27 (.tmp 28) _ rfl (w.heap.size + 1) 5 (hdC (qzb h 5 0 0)).toArray ?bx12 ?by12 ?bt12 (qza _) (qzf _) ?_))
   try (case ax11 => rfl)
   try (case ac11 => exact (qzw S0.row).2.1)
   try (case bx12 => rfl)
   try (case by12 => rfl)
   try (case bt12 => have T := qz1c S4.th 5 22 (by omega); rw [Nat.zero_add] at T; exact T)
   have S5 := S4.hand (qzb h 5 0 0)
   go_wp2_with (first | (refine wpList_load_mid rfl 147 (.tmp 3) rfl (w.heap.size + 1) 0 ?cx13 (qze A.camera (.slice sa A.slots.length sc) (.slice ga A.guides.length gc) (.slice na A.nodes.length nc) (.slice ra A.vers.length rc) (qzb h 5 0 0) d tk) _ ?cc13 Try.underlying147 rfl (qz9 _ _ _ _ _ _ _ _) ?_) | (refine wpList_store_mid rfl 147 (.tmp 4) _ rfl (w.heap.size + 1 + 1) 0 (qze A.camera (.slice sa A.slots.length sc) (.slice ga A.guides.length gc) (.slice na A.nodes.length nc) (.slice ra A.vers.length rc) (qzb h 5 0 0) d tk).toArray ?dx13 ?dy13 ?dt13 (qzt _ _ _ _ _ _ _ _) (qz13 _ _ _ _ _ _ _ _ _ _ _ _ _ _ _ _) ?_))
   try (case cx13 => rfl)
   try (case cc13 => exact S5.row)
   try (case dx13 => rfl)
   try (case dy13 => rfl)
   try (case dt13 => exact S5.to)
   refine bodyPost_ret (v := .agg (qze A.camera (.slice sa A.slots.length sc) (.slice ga A.guides.length gc) (.slice na A.nodes.length nc) (.slice ra A.vers.length rc) (qzb h 5 0 0) d tk).toArray) ?_ rfl ⟨_, _, _, _, by rw [hd.out], by rw [hd.out]; exact S5.fin⟩
   exact qz5 Try.results123 _ _ (w.heap.size + 1 + 1) 0 rfl (qze A.camera (.slice sa A.slots.length sc) (.slice ga A.guides.length gc) (.slice na A.nodes.length nc) (.slice ra A.vers.length rc) (qzb h 5 0 0) d tk) _ (S5.out rfl) Try.underlying147 rfl (qz9 _ _ _ _ _ _ _ _)
  ·have hf2 : z <= (A.vers.length : Int) := hfull.resolve_left hf1
   clear hfull
   go_upto_region 5 with (first | (refine wpList_load_mid rfl 27 (.tmp 25) rfl (w.heap.size + 1) 5 ?ax14 (hdC h) _ ?ac14 Try.underlying27 rfl (qz1 h) ?_) | (go_at_call 119; refine (qzv h 5 0 0 _).mono ?_; rintro e w4 ⟨rfl, b4⟩; have S4 := S0.below b4) | (refine wpList_store_mid rfl 27 (.tmp 28) _ rfl (w.heap.size + 1) 5 (hdC (qzb h 5 0 0)).toArray ?bx15 ?by15 ?bt15 (qza _) (qzf _) ?_))
   try (case ax14 => rfl)
   try (case ac14 => exact (qzw S0.row).2.1)
   try (case bx15 => rfl)
   try (case by15 => rfl)
   try (case bt15 => have T := qz1c S4.th 5 22 (by omega); rw [Nat.zero_add] at T; exact T)
   have S5 := S4.hand (qzb h 5 0 0)
   go_wp2_with (first | (refine wpList_load_mid rfl 147 (.tmp 3) rfl (w.heap.size + 1) 0 ?cx16 (qze A.camera (.slice sa A.slots.length sc) (.slice ga A.guides.length gc) (.slice na A.nodes.length nc) (.slice ra A.vers.length rc) (qzb h 5 0 0) d tk) _ ?cc16 Try.underlying147 rfl (qz9 _ _ _ _ _ _ _ _) ?_) | (refine wpList_store_mid rfl 147 (.tmp 4) _ rfl (w.heap.size + 1 + 1) 0 (qze A.camera (.slice sa A.slots.length sc) (.slice ga A.guides.length gc) (.slice na A.nodes.length nc) (.slice ra A.vers.length rc) (qzb h 5 0 0) d tk).toArray ?dx16 ?dy16 ?dt16 (qzt _ _ _ _ _ _ _ _) (qz13 _ _ _ _ _ _ _ _ _ _ _ _ _ _ _ _) ?_))
   try (case cx16 => rfl)
   try (case cc16 => exact S5.row)
   try (case dx16 => rfl)
   try (case dy16 => rfl)
   try (case dt16 => exact S5.to)
   refine bodyPost_ret (v := .agg (qze A.camera (.slice sa A.slots.length sc) (.slice ga A.guides.length gc) (.slice na A.nodes.length nc) (.slice ra A.vers.length rc) (qzb h 5 0 0) d tk).toArray) ?_ rfl ⟨_, _, _, _, by rw [hd.out], by rw [hd.out]; exact S5.fin⟩
   exact qz5 Try.results123 _ _ (w.heap.size + 1 + 1) 0 rfl (qze A.camera (.slice sa A.slots.length sc) (.slice ga A.guides.length gc) (.slice na A.nodes.length nc) (.slice ra A.vers.length rc) (qzb h 5 0 0) d tk) _ (S5.out rfl) Try.underlying147 rfl (qz9 _ _ _ _ _ _ _ _)
 have hd : Hid (qz37 y z A h = ({ A with vers := A.vers ++ [⟨aimI h, false, 0, -1, 0⟩], nodes := A.nodes ++ [⟨max h.key 0, h.value, (A.vers.length : Int)⟩] }, { h with new_ := (A.nodes.length : Int), at_ := 9 })) := by show _ = _; rw [qz37, if_neg hfull]
 have hf1 : ¬ y <= (A.nodes.length : Int) := fun h => hfull (Or.inl h)
 have hf2 : ¬ z <= (A.vers.length : Int) := fun h => hfull (Or.inr h)
 clear hfull
 go_upto_region 6 with fail
 clear x0 x1 x2 x3 x4 p0 p1 p2 p3
 refine qz2k 8 (by kernel_rfl) (qzdi (w.heap.size + 1) ra A.vers.length rc h w0.heap.size) (fun _ => false) (by kernel_rfl) (by kernel_rfl) (by kernel_rfl) (by kernel_rfl) (by rfl) (fun i v w w' _ h hb => qzaf i v w w' h hb) (fun i v w q hf h hq => by cases hf) ?step ?final
 case step =>
  intro i o hik ho a W hb hnn hd K hK
  have SW := S0.below hb
  have x4 := SW.cell 4 rfl
  have hzW := hb.size
  match i, ho with
  | 0, ho =>
   obtain rfl := Option.some.inj ho
   have e0 : a.eval (.tmp 3) = .pointer (some ⟨w.heap.size + 1, 0, none⟩) := hnn 3 rfl
   refine qz2 (v := .pointer (some ⟨w.heap.size + 1, 0, none⟩)) (w' := W) ?_ (hK _ _ rfl (Below.refl _ _) (fun h => by cases h))
   generalize a.eval = ev at *
   go_simp
  | 1, ho =>
   obtain rfl := Option.some.inj ho
   have e0 : a.eval (.tmp 30) = .pointer (some ⟨w.heap.size + 1, 0, none⟩) := hd ⟨0, .data⟩ (by simp) rfl 30 rfl
   refine qz2 (v := .pointer (some ⟨w.heap.size + 1, 4, none⟩)) (w' := W) ?_ (hK _ _ rfl (Below.refl _ _) (fun h => by cases h))
   generalize a.eval = ev at *
   go_simp
  | 2, ho =>
   obtain rfl := Option.some.inj ho
   have e0 : a.eval (.tmp 31) = .pointer (some ⟨w.heap.size + 1, 4, none⟩) := hd ⟨1, .data⟩ (by simp) rfl 31 rfl
   refine qz2 (v := .slice ra A.vers.length rc) (w' := W) ?_ (hK _ _ rfl (Below.refl _ _) (fun h => by cases h))
   generalize a.eval = ev at *
   go_simp
  | 3, ho =>
   obtain rfl := Option.some.inj ho
   have e0 : a.eval (.tmp 3) = .pointer (some ⟨w.heap.size + 1, 0, none⟩) := hnn 3 rfl
   refine qz2 (v := .pointer (some ⟨w.heap.size + 1, 5, none⟩)) (w' := W) ?_ (hK _ _ rfl (Below.refl _ _) (fun h => by cases h))
   generalize a.eval = ev at *
   go_simp
  | 4, ho =>
   obtain rfl := Option.some.inj ho
   have e1 : a.eval (.tmp 33) = .pointer (some ⟨w.heap.size + 1, 5, none⟩) := hd ⟨3, .data⟩ (by simp) rfl 33 rfl
   exact qzz 27 (.tmp 33) rfl (w.heap.size + 1) 5 e1 (hdC h) _ (qzw SW.row).2.1 Try.underlying27 rfl (qz1 h) (hK _ _ rfl (Below.refl _ _) (fun h => by cases h))
  | 5, ho =>
   obtain rfl := Option.some.inj ho
   have e1 : a.eval (.tmp 34) = .agg (hdC h).toArray := hd ⟨4, .data⟩ (by simp) rfl 34 rfl
   have ef : a.eval (.func 124) = .func (.func 124) #[] #[] := rfl
   refine qz2i (f := 124) (args := #[.agg (hdC h).toArray]) (R := fun v w' => v = .int .i64 (aimI h) /\ Below W.heap.size W w') ?_ ((qz7f h W).mono (fun e w' h => ⟨_, h.1, rfl, h.2⟩)) (fun v w' h => hK v w' h.1 h.2 (fun h => by cases h))
   generalize a.eval = ev at *
   go_simp
  | 6, ho =>
   obtain rfl := Option.some.inj ho
   have e0 : a.eval (.tmp 35) = .int .i64 (aimI h) := hd ⟨5, .data⟩ (by simp) rfl 35 rfl
   have ec : a.eval (.const (.int .i64 (-1))) = .int .i64 (-1) := rfl
   refine qz2 (v := .agg #[.int .i64 (aimI h), .bool false, .int .i64 0, .int .i64 (-1), .int .i64 0]) (w' := W) ?_ (hK _ _ rfl (Below.refl _ _) (fun h => by cases h))
   generalize a.eval = ev at *
   go_simp
  | 7, ho =>
   obtain rfl := Option.some.inj ho
   have e1 : a.eval (.tmp 36) = .agg #[.int .i64 (aimI h), .bool false, .int .i64 0, .int .i64 (-1), .int .i64 0] := hd ⟨6, .data⟩ (by simp) rfl 36 rfl
   refine qz2 (v := .slice (some ⟨W.heap.size, 0, none⟩) 1 1) (w' := W.alloc (.cells #[.int .i64 (aimI h), .bool false, .int .i64 0, .int .i64 (-1), .int .i64 0] 62)) ?_ (hK _ _ ⟨_, rfl, hzW, by simp, qzd W (vrC ⟨aimI h, false, 0, -1, 0⟩) 62⟩ ((Below.refl _ _).alloc (Nat.le_refl _) _) (fun h => by cases h))
   generalize a.eval = ev at *
   go_simp
  | n + 8, ho => omega
 intro vs W hb hG _
 have SW := S0.below hb
 have g0 : vs 0 = .pointer (some ⟨w.heap.size + 1, 0, none⟩) := hG 0 (by decide)
 have g2 : vs 2 = .slice ra A.vers.length rc := hG 2 (by decide)
 obtain ⟨q, g7, hq0, hq1, news⟩ := hG 7 (by decide)
 have zW := hb.size
 generalize hl : laid _ vs _ _ _ = A'
 have hA2 : A' = { tmps := #[.agg #[.int .i64 x, .int .i64 y, .int .i64 z, .int .i64 u], .agg (qze A.camera (.slice sa A.slots.length sc) (.slice ga A.guides.length gc) (.slice na A.nodes.length nc) (.slice ra A.vers.length rc) h d tk).toArray, .pointer (some ⟨w.heap.size, 0, none⟩), .pointer (some ⟨w.heap.size + 1, 0, none⟩), .pointer (some ⟨w.heap.size + 1 + 1, 0, none⟩), .int .i64 (A.nodes.length : Int), .int .i64 (A.vers.length : Int), .pointer (some ⟨w.heap.size + 1, 0, none⟩), .pointer (some ⟨w.heap.size + 1, 3, none⟩), .slice na A.nodes.length nc, .int .i64 (A.nodes.length : Int), .pointer (some ⟨w.heap.size + 1, 0, none⟩), .pointer (some ⟨w.heap.size + 1, 4, none⟩), .slice ra A.vers.length rc, .int .i64 (A.vers.length : Int), .int .i64 (A.nodes.length : Int), .pointer (some ⟨w.heap.size, 1, none⟩), .int .i64 y, .bool false, .bool false, .int .i64 (A.vers.length : Int), .pointer (some ⟨w.heap.size, 2, none⟩), .int .i64 z, .bool false, .bool false, undef, undef, undef, undef, undef, vs 0, vs 1, vs 2, vs 3, vs 4, vs 5, vs 6, vs 7, undef, undef, undef, undef, undef, undef, undef, undef, undef, undef, undef, undef, undef, undef, undef, undef, undef, undef, undef, undef, undef, undef, undef, undef, undef], defers := [] } := by
  rw [<- hl]
  kernel_rfl
 subst hA2
 rw [g2, g7]
 clear hl hG g0 g2 g7
 have hnl : (A.vers.length : Int) = ((A.vers.length : Nat) : Int) := rfl
 obtain ⟨i0, hi, hzr, hsz, hby⟩ := info_parts qza8
 refine wpList_append_own_at _ rfl _ _ 36 rfl base 62 i0 _ 5 40 Try.underlying36 hi hzr hsz hby rfl (by decide) _ _ _ rfl SW.own.rr ⟨q, 0, none⟩ 1 1 (vrC ⟨aimI h, false, 0, -1, 0⟩) rfl rfl ?n1 ?n2 ?n3 ?n4 ?n5 ?_
 case n1 => exact fun j v hj => by have := news j v hj; rw [Nat.zero_add] at this; by_cases e0 : j = 0; (· subst e0; simpa [Addr.add] using this); (· simpa [Addr.add, e0] using this)
 case n2 => exact qzb5 _
 case n3 => unfold maxLen; omega
 case n4 => omega
 case n5 => exact Nat.le_trans hbase SW.but.size
 intro r2 w1 hown hgrow _ hat
 obtain ⟨ra2, rc2, rfl⟩ := qzk hown
 have B01 : But (fun q => Value.ownBlock (.slice ra A.vers.length rc) = some q) W w1 := ⟨hgrow.os, hgrow.tape, hgrow.output, hgrow.size, fun q hq hn => hgrow.block q hq (fun e => hn e.symm)⟩
 have S1 := SW.grow_r (ys := A.vers ++ [⟨aimI h, false, 0, -1, 0⟩]) (r' := .slice ra2 (A.vers.length + 1) rc2) (by simpa [qz2s] using hown) B01 (hat.imp_right (fun h => ⟨_, h, Nat.le_refl _⟩))
 have x4 := S1.cell 4 rfl
 have f4 := S1.free 4 (by decide)
 clear hown hgrow hat B01 SW S0 hb news hi hzr hsz hby P0
 go_upto_region 7 with fail
 have S2 : Stp base w _ (w.heap.size + 1) (w.heap.size + 1 + 1) (.slice sa A.slots.length sc) (.slice ga A.guides.length gc) (.slice na A.nodes.length nc) (.slice ra A.vers.length rc) (.slice sa A.slots.length sc) (.slice ga A.guides.length gc) (.slice na A.nodes.length nc) (.slice ra2 (A.vers.length + 1) rc2) { A with vers := A.vers ++ [⟨aimI h, false, 0, -1, 0⟩] } (qze A.camera (.slice sa A.slots.length sc) (.slice ga A.guides.length gc) (.slice na A.nodes.length nc) (.slice ra2 (A.vers.length + 1) rc2) h d tk) := S1.put 4 (by simp [qze, hdC, ddC]) (.slice ra2 (A.vers.length + 1) rc2)
 generalize w1.setCell ⟨w.heap.size + 1, 4, none⟩ (.slice ra2 (A.vers.length + 1) rc2) = w2 at *
 clear S1 x4 f4
 have hz2 := S2.hi
 refine qz2k 13 (by kernel_rfl) (qzcp (w.heap.size + 1) na A.nodes.length nc h ⟨max h.key 0, h.value, (A.vers.length : Int)⟩ w2.heap.size) (fun _ => false) (by kernel_rfl) (by kernel_rfl) (by kernel_rfl) (by kernel_rfl) (by rfl) (fun i v w w' _ h hb => qz9m i v w w' h hb) (fun i v w q hf h hq => by cases hf) ?step2 ?final2
 case step2 =>
  intro i o hik ho a W hb hnn hd K hK
  have SW := S2.below hb
  have x3 := SW.cell 3 rfl
  have x8 := SW.cell 8 rfl
  have x9 := SW.cell 9 rfl
  have hzW := hb.size
  match i, ho with
  | 0, ho =>
   obtain rfl := Option.some.inj ho
   have e0 : a.eval (.tmp 3) = .pointer (some ⟨w.heap.size + 1, 0, none⟩) := hnn 3 rfl
   refine qz2 (v := .pointer (some ⟨w.heap.size + 1, 0, none⟩)) (w' := W) ?_ (hK _ _ rfl (Below.refl _ _) (fun h => by cases h))
   generalize a.eval = ev at *
   go_simp
  | 1, ho =>
   obtain rfl := Option.some.inj ho
   have e0 : a.eval (.tmp 41) = .pointer (some ⟨w.heap.size + 1, 0, none⟩) := hd ⟨0, .data⟩ (by simp) rfl 41 rfl
   refine qz2 (v := .pointer (some ⟨w.heap.size + 1, 3, none⟩)) (w' := W) ?_ (hK _ _ rfl (Below.refl _ _) (fun h => by cases h))
   generalize a.eval = ev at *
   go_simp
  | 2, ho =>
   obtain rfl := Option.some.inj ho
   have e0 : a.eval (.tmp 42) = .pointer (some ⟨w.heap.size + 1, 3, none⟩) := hd ⟨1, .data⟩ (by simp) rfl 42 rfl
   refine qz2 (v := .slice na A.nodes.length nc) (w' := W) ?_ (hK _ _ rfl (Below.refl _ _) (fun h => by cases h))
   generalize a.eval = ev at *
   go_simp
  | 3, ho =>
   obtain rfl := Option.some.inj ho
   have e0 : a.eval (.tmp 3) = .pointer (some ⟨w.heap.size + 1, 0, none⟩) := hnn 3 rfl
   refine qz2 (v := .pointer (some ⟨w.heap.size + 1, 5, none⟩)) (w' := W) ?_ (hK _ _ rfl (Below.refl _ _) (fun h => by cases h))
   generalize a.eval = ev at *
   go_simp
  | 4, ho =>
   obtain rfl := Option.some.inj ho
   have e0 : a.eval (.tmp 44) = .pointer (some ⟨w.heap.size + 1, 5, none⟩) := hd ⟨3, .data⟩ (by simp) rfl 44 rfl
   refine qz2 (v := .pointer (some ⟨w.heap.size + 1, 8, none⟩)) (w' := W) ?_ (hK _ _ rfl (Below.refl _ _) (fun h => by cases h))
   generalize a.eval = ev at *
   go_simp
  | 5, ho =>
   obtain rfl := Option.some.inj ho
   have e0 : a.eval (.tmp 45) = .pointer (some ⟨w.heap.size + 1, 8, none⟩) := hd ⟨4, .data⟩ (by simp) rfl 45 rfl
   refine qz2 (v := .int .i64 h.key) (w' := W) ?_ (hK _ _ rfl (Below.refl _ _) (fun h => by cases h))
   generalize a.eval = ev at *
   go_simp
  | 6, ho =>
   obtain rfl := Option.some.inj ho
   have e1 : a.eval (.tmp 46) = .int .i64 h.key := hd ⟨5, .data⟩ (by simp) rfl 46 rfl
   have ef : a.eval (.func 110) = .func (.func 110) #[] #[] := rfl
   have e2 : a.eval (.const (.int .i64 0)) = .int .i64 0 := rfl
   refine qz2i (f := 110) (args := #[.int .i64 h.key, .int .i64 0]) (R := fun v w' => v = .int .i64 (max h.key 0) /\ Below W.heap.size W w') ?_ ((qz1a h.key 0 W).mono (fun e w' h => ⟨_, h.1, rfl, by rw [h.2]; exact Below.refl _ _⟩)) (fun v w' h => hK v w' h.1 h.2 (fun h => by cases h))
   generalize a.eval = ev at *
   go_simp
  | 7, ho =>
   obtain rfl := Option.some.inj ho
   have e0 : a.eval (.tmp 3) = .pointer (some ⟨w.heap.size + 1, 0, none⟩) := hnn 3 rfl
   refine qz2 (v := .pointer (some ⟨w.heap.size + 1, 5, none⟩)) (w' := W) ?_ (hK _ _ rfl (Below.refl _ _) (fun h => by cases h))
   generalize a.eval = ev at *
   go_simp
  | 8, ho =>
   obtain rfl := Option.some.inj ho
   have e0 : a.eval (.tmp 48) = .pointer (some ⟨w.heap.size + 1, 5, none⟩) := hd ⟨7, .data⟩ (by simp) rfl 48 rfl
   refine qz2 (v := .pointer (some ⟨w.heap.size + 1, 9, none⟩)) (w' := W) ?_ (hK _ _ rfl (Below.refl _ _) (fun h => by cases h))
   generalize a.eval = ev at *
   go_simp
  | 9, ho =>
   obtain rfl := Option.some.inj ho
   have e0 : a.eval (.tmp 49) = .pointer (some ⟨w.heap.size + 1, 9, none⟩) := hd ⟨8, .data⟩ (by simp) rfl 49 rfl
   refine qz2 (v := .int .i64 h.value) (w' := W) ?_ (hK _ _ rfl (Below.refl _ _) (fun h => by cases h))
   generalize a.eval = ev at *
   go_simp
  | 10, ho =>
   obtain rfl := Option.some.inj ho
   have e0 : a.eval (.tmp 6) = .int .i64 (A.vers.length : Int) := hnn 6 rfl
   refine qz2 (v := .int .i64 (A.vers.length : Int)) (w' := W) ?_ (hK _ _ rfl (Below.refl _ _) (fun h => by cases h))
   generalize a.eval = ev at *
   go_simp
  | 11, ho =>
   obtain rfl := Option.some.inj ho
   have e0 : a.eval (.tmp 47) = .int .i64 (max h.key 0) := hd ⟨6, .data⟩ (by simp) rfl 47 rfl
   have e1 : a.eval (.tmp 50) = .int .i64 h.value := hd ⟨9, .data⟩ (by simp) rfl 50 rfl
   have e2 : a.eval (.tmp 51) = .int .i64 (A.vers.length : Int) := hd ⟨10, .data⟩ (by simp) rfl 51 rfl
   refine qz2 (v := .agg #[.int .i64 (max h.key 0), .int .i64 h.value, .int .i64 (A.vers.length : Int)]) (w' := W) ?_ (hK _ _ rfl (Below.refl _ _) (fun h => by cases h))
   generalize a.eval = ev at *
   go_simp
  | 12, ho =>
   obtain rfl := Option.some.inj ho
   have e1 : a.eval (.tmp 52) = .agg #[.int .i64 (max h.key 0), .int .i64 h.value, .int .i64 (A.vers.length : Int)] := hd ⟨11, .data⟩ (by simp) rfl 52 rfl
   refine qz2 (v := .slice (some ⟨W.heap.size, 0, none⟩) 1 1) (w' := W.alloc (.cells #[.int .i64 (max h.key 0), .int .i64 h.value, .int .i64 (A.vers.length : Int)] 96)) ?_ (hK _ _ ⟨_, rfl, hzW, by simp, qzd W (ndC ⟨max h.key 0, h.value, (A.vers.length : Int)⟩) 96⟩ ((Below.refl _ _).alloc (Nat.le_refl _) _) (fun h => by cases h))
   generalize a.eval = ev at *
   go_simp
  | n + 13, ho => omega
 intro vs' W' hb hG _
 have SW := S2.below hb
 have g2 : vs' 2 = .slice na A.nodes.length nc := hG 2 (by decide)
 obtain ⟨q', g12, hq0', hq1', news⟩ := hG 12 (by decide)
 have zW' := hb.size
 generalize hl : laid _ vs' _ _ _ = A'
 have hA2 : A' = { tmps := #[.agg #[.int .i64 x, .int .i64 y, .int .i64 z, .int .i64 u], .agg (qze A.camera (.slice sa A.slots.length sc) (.slice ga A.guides.length gc) (.slice na A.nodes.length nc) (.slice ra A.vers.length rc) h d tk).toArray, .pointer (some ⟨w.heap.size, 0, none⟩), .pointer (some ⟨w.heap.size + 1, 0, none⟩), .pointer (some ⟨w.heap.size + 1 + 1, 0, none⟩), .int .i64 (A.nodes.length : Int), .int .i64 (A.vers.length : Int), .pointer (some ⟨w.heap.size + 1, 0, none⟩), .pointer (some ⟨w.heap.size + 1, 3, none⟩), .slice na A.nodes.length nc, .int .i64 (A.nodes.length : Int), .pointer (some ⟨w.heap.size + 1, 0, none⟩), .pointer (some ⟨w.heap.size + 1, 4, none⟩), .slice ra A.vers.length rc, .int .i64 (A.vers.length : Int), .int .i64 (A.nodes.length : Int), .pointer (some ⟨w.heap.size, 1, none⟩), .int .i64 y, .bool false, .bool false, .int .i64 (A.vers.length : Int), .pointer (some ⟨w.heap.size, 2, none⟩), .int .i64 z, .bool false, .bool false, undef, undef, undef, undef, undef, vs 0, vs 1, .slice ra A.vers.length rc, vs 3, vs 4, vs 5, vs 6, .slice (some ⟨q, 0, none⟩) 1 1, .slice ra2 (A.vers.length + 1) rc2, .pointer (some ⟨w.heap.size + 1, 0, none⟩), .pointer (some ⟨w.heap.size + 1, 4, none⟩), vs' 0, vs' 1, vs' 2, vs' 3, vs' 4, vs' 5, vs' 6, vs' 7, vs' 8, vs' 9, vs' 10, vs' 11, vs' 12, undef, undef, undef, undef, undef, undef, undef, undef, undef], defers := [] } := by
  rw [<- hl]
  kernel_rfl
 subst hA2
 rw [g2, g12]
 clear hl hG g2 g12
 obtain ⟨i0, hi, hzr, hsz, hby⟩ := info_parts qzb6
 refine wpList_append_own_at _ rfl _ _ 35 rfl base 96 i0 _ 3 24 Try.underlying35 hi hzr hsz hby rfl (by decide) _ _ _ rfl SW.own.rn ⟨q', 0, none⟩ 1 1 (ndC ⟨max h.key 0, h.value, (A.vers.length : Int)⟩) rfl rfl ?m1 ?m2 ?m3 ?m4 ?m5 ?_
 case m1 => exact fun j v hj => by have := news j v hj; rw [Nat.zero_add] at this; by_cases e0 : j = 0; (· subst e0; simpa [Addr.add] using this); (· simpa [Addr.add, e0] using this)
 case m2 => exact qzc4 _
 case m3 => unfold maxLen; simp only; omega
 case m4 => simp only; omega
 case m5 => exact Nat.le_trans hbase SW.but.size
 intro n2 w3 hown hgrow _ hat
 obtain ⟨na2, nc2, rfl⟩ := qzk hown
 have B23 : But (fun q => Value.ownBlock (.slice na A.nodes.length nc) = some q) W' w3 := ⟨hgrow.os, hgrow.tape, hgrow.output, hgrow.size, fun q hq hn => hgrow.block q hq (fun e => hn e.symm)⟩
 have S3 := SW.grow_n (ys := A.nodes ++ [⟨max h.key 0, h.value, (A.vers.length : Int)⟩]) (n' := .slice na2 (A.nodes.length + 1) nc2) (by simpa [qz2s] using hown) B23 (hat.imp_right (fun h => ⟨_, h, Nat.le_refl _⟩))
 have x3 := S3.cell 3 rfl
 have f3 := S3.free 3 (by decide)
 have x5 := S3.cell 5 rfl
 have f5 := S3.free 5 (by decide)
 have x23 := S3.cell 23 rfl
 have f23 := S3.free 23 (by decide)
 clear hown hgrow hat B23 SW S2 hb news hi hzr hsz hby
 go_upto_region 10 with fail
 have S4 : Stp base w _ (w.heap.size + 1) (w.heap.size + 1 + 1) (.slice sa A.slots.length sc) (.slice ga A.guides.length gc) (.slice na A.nodes.length nc) (.slice ra A.vers.length rc) (.slice sa A.slots.length sc) (.slice ga A.guides.length gc) (.slice na2 (A.nodes.length + 1) nc2) (.slice ra2 (A.vers.length + 1) rc2) { A with vers := A.vers ++ [⟨aimI h, false, 0, -1, 0⟩], nodes := A.nodes ++ [⟨max h.key 0, h.value, (A.vers.length : Int)⟩] } (qze A.camera (.slice sa A.slots.length sc) (.slice ga A.guides.length gc) (.slice na2 (A.nodes.length + 1) nc2) (.slice ra2 (A.vers.length + 1) rc2) { h with new_ := (A.nodes.length : Int), at_ := 9 } d tk) := ((S3.put 3 (by simp [qze, hdC, ddC]) (.slice na2 (A.nodes.length + 1) nc2)).put 23 (by simp [qze, hdC, ddC]) (.int .i64 (A.nodes.length : Int))).put 5 (by simp [qze, hdC, ddC]) (.int .i64 9)
 go_wp2_with (first | (refine wpList_load_mid rfl 147 (.tmp 3) rfl (w.heap.size + 1) 0 ?cx19 (qze A.camera (.slice sa A.slots.length sc) (.slice ga A.guides.length gc) (.slice na2 (A.nodes.length + 1) nc2) (.slice ra2 (A.vers.length + 1) rc2) { h with new_ := (A.nodes.length : Int), at_ := 9 } d tk) _ ?cc19 Try.underlying147 rfl (qz9 _ _ _ _ _ _ _ _) ?_) | (refine wpList_store_mid rfl 147 (.tmp 4) _ rfl (w.heap.size + 1 + 1) 0 (qze A.camera (.slice sa A.slots.length sc) (.slice ga A.guides.length gc) (.slice na2 (A.nodes.length + 1) nc2) (.slice ra2 (A.vers.length + 1) rc2) { h with new_ := (A.nodes.length : Int), at_ := 9 } d tk).toArray ?dx19 ?dy19 ?dt19 (qzt _ _ _ _ _ _ _ _) (qz13 _ _ _ _ _ _ _ _ _ _ _ _ _ _ _ _) ?_))
 try (case cx19 => rfl)
 try (case cc19 => exact S4.row)
 try (case dx19 => rfl)
 try (case dy19 => rfl)
 try (case dt19 => exact S4.to)
 refine bodyPost_ret (v := .agg (qze A.camera (.slice sa A.slots.length sc) (.slice ga A.guides.length gc) (.slice na2 (A.nodes.length + 1) nc2) (.slice ra2 (A.vers.length + 1) rc2) { h with new_ := (A.nodes.length : Int), at_ := 9 } d tk).toArray) ?_ rfl ⟨_, _, _, _, by rw [hd.out], by rw [hd.out]; exact S4.fin⟩
 exact qz5 Try.results123 _ _ (w.heap.size + 1 + 1) 0 rfl (qze A.camera (.slice sa A.slots.length sc) (.slice ga A.guides.length gc) (.slice na2 (A.nodes.length + 1) nc2) (.slice ra2 (A.vers.length + 1) rc2) { h with new_ := (A.nodes.length : Int), at_ := 9 } d tk) _ (S4.out rfl) Try.underlying147 rfl (qz9 _ _ _ _ _ _ _ _)
end
end Go.Proofs.Ytclkglkhhnapiaa
