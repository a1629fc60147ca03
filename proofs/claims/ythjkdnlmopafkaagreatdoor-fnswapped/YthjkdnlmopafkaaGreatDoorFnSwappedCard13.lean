/-
  What the law's proof goes by, part 14.
-/
import Derived.Test.YthjkdnlmopafkaaGreatDoorFnSwappedCard00
import Derived.Test.YthjkdnlmopafkaaGreatDoorFnSwappedCard03
import Derived.Test.YthjkdnlmopafkaaGreatDoorFnSwappedCard06
import Derived.Test.YthjkdnlmopafkaaGreatDoorFnSwappedCard11
import Derived.Test.YthjkdnlmopafkaaGreatDoorFnSwappedCard12
namespace Go.Proofs.YthjkdnlmopafkaaGreatDoor
open Go.ChangeShapes Go.WideShapes Go.ChangeAt Go.RowKit
set_option maxRecDepth 100000
set_option maxHeartbeats 16000000
set_option linter.unusedVariables false
set_option linter.unusedSimpArgs false
set_option linter.unnecessarySimpa false
set_option linter.unusedSectionVars false
section
theorem qz45.under {W w1 : World} {b C : Nat} {x y z u : Int} (h : qz45 W b x y z u) (hb : Below C W w1) (hlt : b < C) : qz45 w1 b x y z u :=
 ⟨(hb.cell (p := ⟨b, 0, none⟩) hlt).trans h.1, (hb.cell (p := ⟨b, 1, none⟩) hlt).trans h.2.1, (hb.cell (p := ⟨b, 2, none⟩) hlt).trans h.2.2.1, (hb.cell (p := ⟨b, 3, none⟩) hlt).trans h.2.2.2⟩
theorem But.far {S : Nat -> Prop} {b : Nat} {w0 w w' : World} (h : But S w0 w) (k : Only b w w') (hb : Q73 <= b) : But S w0 w' :=
 ⟨k.os.trans h.os, k.tape.trans h.tape, k.output.trans h.output, Q77 h.size k.size, fun q hq hn => (k.block q (Q72 hq h.size) (by omega)).trans (h.block q hq hn)⟩
structure Stp (base : Nat) (w0 w : World) (b bo : Nat) (s0 g0 n0 r0 s g n r : Value) (A : Ar) (D : List Value) : Prop where
 row : w.rangeAt b 0 D
 th : w.there b 0 33
 to : w.there bo 0 33
 lo : Q73 <= b
 lt : b < bo
 hi : bo < Q6o
 own : qz1t base w s g n r A
 but : But (OwnB s0 g0 n0 r0) w0 w
 blk : ∀ q, OwnB s g n r q -> OwnB s0 g0 n0 r0 q ∨ Q73 <= q
 ne : ∀ q, OwnB s g n r q -> q ≠ b /\ q ≠ bo
section
variable {base : Nat} {w0 w w' : World} {b bo : Nat} {s0 g0 n0 r0 s g n r : Value} {A : Ar} {D : List Value}
theorem Stp.below (S : Stp base w0 w b bo s0 g0 n0 r0 s g n r A D) (hb : Below Q6o w w') : Stp base w0 w' b bo s0 g0 n0 r0 s g n r A D :=
 ⟨qz0 S.row hb (Nat.lt_trans S.lt S.hi), qz5 S.th hb (Nat.lt_trans S.lt S.hi), qz5 S.to hb S.hi, S.lo, S.lt, Q72 S.hi hb.size, S.own.below hb, S.but.trans (But.of_below hb), S.blk, S.ne⟩
theorem Stp.at_b (S : Stp base w0 w b bo s0 g0 n0 r0 s g n r A D) (k : Only b w w') {D' : List Value} (row : w'.rangeAt b 0 D') (th : w'.there b 0 33) (to : w'.there bo 0 33) : Stp base w0 w' b bo s0 g0 n0 r0 s g n r A D' :=
 ⟨row, th, to, S.lo, S.lt, Q72 S.hi k.size, S.own.kept (But.of_only (S := fun q => q = b) k rfl) (fun q hq => (S.ne q hq).1), S.but.far k S.lo, S.blk, S.ne⟩
theorem Stp.put (S : Stp base w0 w b bo s0 g0 n0 r0 s g n r A D) (k : Nat) (hk : k < D.length) (v : Value) : Stp base w0 (w.setCell ⟨b, k, none⟩ v) b bo s0 g0 n0 r0 s g n r A (D.set k v) :=
 S.at_b ((Only.refl b w).setCell (p := ⟨b, k, none⟩) (Or.inl rfl) v) (qzb S.row k hk v) (qz2 S.th _ _) (qz2 S.to _ _)
theorem Stp.puts (S : Stp base w0 w b bo s0 g0 n0 r0 s g n r A D) (p q t vs : List Value) (hD : D = p ++ (q ++ t)) (hl : vs.length = q.length) (h33 : D.length = 33) : Stp base w0 (w.setCells b p.length vs) b bo s0 g0 n0 r0 s g n r A (p ++ (vs ++ t)) := by
 subst hD
 have hp : p.length + q.length <= 33 := by simp only [List.length_append] at h33; omega
 have T := qz1d S.th p.length q.length hp
 rw [Nat.zero_add, <- hl] at T
 refine S.at_b (qze b vs p.length w) ?_ (Q7f S.th _ _ _) (Q7f S.to _ _ _)
 obtain ⟨R1, R2⟩ := qz2f S.row
 obtain ⟨R3, R4⟩ := qz2f R2
 rw [Nat.zero_add] at R2 R3 R4
 refine qz3l (Q7d R1 _ _ _ (Or.inr (Or.inl (by simp)))) (qz3l ?_ ?_)
 ·rw [Nat.zero_add]; exact World.rangeAt_setCells_same w b p.length vs T
 ·rw [Nat.zero_add, hl]; exact World.rangeAt_setCells_apart R4 _ _ _ (Or.inr (Or.inr (by rw [hl]; exact Nat.le_refl _)))
theorem Stp.hand {cam : Int} {h : Hd} {d : Dd} {tk : Bool} (S : Stp base w0 w b bo s0 g0 n0 r0 s g n r A Q67) (h' : Hd) : Stp base w0 (w.setCells b 5 (hdC h')) b bo s0 g0 n0 r0 s g n r A (qza cam s g n r h' d tk) :=
 S.puts [.int .i64 cam, s, g, n, r] (hdC h) (ddC d ++ [.bool tk]) (hdC h') rfl rfl rfl
theorem Stp.deed {cam : Int} {h : Hd} {d : Dd} {tk : Bool} (S : Stp base w0 w b bo s0 g0 n0 r0 s g n r A Q67) (d' : Dd) : Stp base w0 (w.setCells b 27 (ddC d')) b bo s0 g0 n0 r0 s g n r A (qza cam s g n r h d' tk) :=
 S.puts ([.int .i64 cam, s, g, n, r] ++ hdC h) (ddC d) [.bool tk] (ddC d') rfl rfl rfl
theorem Stp.ver {rb rc : Nat} (S : Stp base w0 w b bo s0 g0 n0 r0 s g n Q05 A D) (hr : OwnB s0 g0 n0 r0 rb ∨ Q73 <= rb) (k : Nat) (hk : k < Q6r) (j : Nat) (hj : j < 5) (y : Vr) (v : Value) (hy : vrC y = (vrC A.vers[k]).set j v) : Stp base w0 (w.setCell ⟨rb, k * 5 + j, none⟩ v) b bo s0 g0 n0 r0 s g n Q05 { A with vers := A.vers.set k y } D := by
 have hO : Only rb w (w.setCell ⟨rb, k * 5 + j, none⟩ v) := (Only.refl rb w).setCell (p := ⟨rb, k * 5 + j, none⟩) (Or.inl rfl) v
 have hne := S.ne rb (Or.inr (Or.inr (Or.inr rfl)))
 have hB : But (fun q => q = rb) w (w.setCell ⟨rb, k * 5 + j, none⟩ v) := But.of_only hO rfl
 refine ⟨hB.range S.row (Nat.lt_trans S.lt S.hi) (fun e => hne.1 e.symm), hB.there S.th (Nat.lt_trans S.lt S.hi) (fun e => hne.1 e.symm), hB.there S.to S.hi (fun e => hne.2 e.symm), S.lo, S.lt, Q72 S.hi hO.size, ?_, ?_, S.blk, S.ne⟩
 ·have hv := qz58 S.own.rr (k * 5 + j) (by omega) v
  rw [<- qz2u (f := vrC) (sz := 5) (fun _ => rfl) A.vers k hk j hj y v hy] at hv
  refine ⟨qz1x S.own.rs hB (fun i e h => ?_), qz1x S.own.rg hB (fun i e h => ?_), qz1x S.own.rn hB (fun i e h => ?_), by simpa using hv, S.own.ne⟩
  ·subst h; exact qz2b S.own.rs S.own.rr (by decide) _ e rfl
  ·subst h; exact qz2b S.own.rg S.own.rr (by decide) _ e rfl
  ·subst h; exact qz2b S.own.rn S.own.rr (by decide) _ e rfl
 ·rcases hr with hr | hr
  ·exact S.but.trans (But.of_only hO hr)
  ·exact S.but.far hO hr
theorem Stp.slot {sb sc : Nat} (S : Stp base w0 w b bo s0 g0 n0 r0 Q0e g n r A D) (k : Nat) (hk : k < Q74) (v : Int) : Stp base w0 (w.setCell ⟨sb, k, none⟩ (.int .i64 v)) b bo s0 g0 n0 r0 Q0e g n r { A with slots := A.slots.set k v } D := by
 have hO : Only sb w (w.setCell ⟨sb, k, none⟩ (.int .i64 v)) := (Only.refl sb w).setCell (p := ⟨sb, k, none⟩) (Or.inl rfl) (.int .i64 v)
 have hne := S.ne sb (Or.inl rfl)
 have hB : But (fun q => q = sb) w (w.setCell ⟨sb, k, none⟩ (.int .i64 v)) := But.of_only hO rfl
 refine ⟨hB.range S.row (Nat.lt_trans S.lt S.hi) (fun e => hne.1 e.symm), hB.there S.th (Nat.lt_trans S.lt S.hi) (fun e => hne.1 e.symm), hB.there S.to S.hi (fun e => hne.2 e.symm), S.lo, S.lt, Q72 S.hi hO.size, ?_, ?_, S.blk, S.ne⟩
 ·have hv := qz58 S.own.rs k (by omega) (.int .i64 v)
  have hcs := qz2u (f := intC) (sz := 1) (fun _ => rfl) A.slots k hk 0 (by omega) v (.int .i64 v) rfl
  rw [Nat.mul_one, Nat.add_zero] at hcs
  rw [<- hcs] at hv
  refine ⟨by simpa using hv, qz1x S.own.rg hB (fun i e h => ?_), qz1x S.own.rn hB (fun i e h => ?_), qz1x S.own.rr hB (fun i e h => ?_), S.own.ne⟩
  ·subst h; exact S.own.ne _ rfl e
  ·subst h; exact qz2b S.own.rs S.own.rn (by decide) _ rfl e
  ·subst h; exact qz2b S.own.rs S.own.rr (by decide) _ rfl e
 ·rcases S.blk sb (Or.inl rfl) with hr | hr
  ·exact S.but.trans (But.of_only hO hr)
  ·exact S.but.far hO hr
theorem Stp.guide {gb gc : Nat} (S : Stp base w0 w b bo s0 g0 n0 r0 s Q0m n r A D) (k : Nat) (hk : k < Q75) (v : Int) : Stp base w0 (w.setCell ⟨gb, k, none⟩ (.int .i64 v)) b bo s0 g0 n0 r0 s Q0m n r { A with guides := A.guides.set k v } D := by
 have hO : Only gb w (w.setCell ⟨gb, k, none⟩ (.int .i64 v)) := (Only.refl gb w).setCell (p := ⟨gb, k, none⟩) (Or.inl rfl) (.int .i64 v)
 have hne := S.ne gb (Or.inr (Or.inl rfl))
 have hB : But (fun q => q = gb) w (w.setCell ⟨gb, k, none⟩ (.int .i64 v)) := But.of_only hO rfl
 refine ⟨hB.range S.row (Nat.lt_trans S.lt S.hi) (fun e => hne.1 e.symm), hB.there S.th (Nat.lt_trans S.lt S.hi) (fun e => hne.1 e.symm), hB.there S.to S.hi (fun e => hne.2 e.symm), S.lo, S.lt, Q72 S.hi hO.size, ?_, ?_, S.blk, S.ne⟩
 ·have hv := qz58 S.own.rg k (by omega) (.int .i64 v)
  have hcs := qz2u (f := intC) (sz := 1) (fun _ => rfl) A.guides k hk 0 (by omega) v (.int .i64 v) rfl
  rw [Nat.mul_one, Nat.add_zero] at hcs
  rw [<- hcs] at hv
  refine ⟨qz1x S.own.rs hB (fun i e h => ?_), by simpa using hv, qz1x S.own.rn hB (fun i e h => ?_), qz1x S.own.rr hB (fun i e h => ?_), S.own.ne⟩
  ·subst h; exact S.own.ne _ e rfl
  ·subst h; exact qz2b S.own.rg S.own.rn (by decide) _ rfl e
  ·subst h; exact qz2b S.own.rg S.own.rr (by decide) _ rfl e
 ·rcases S.blk gb (Or.inr (Or.inl rfl)) with hr | hr
  ·exact S.but.trans (But.of_only hO hr)
  ·exact S.but.far hO hr
theorem Stp.cam (S : Stp base w0 w b bo s0 g0 n0 r0 s g n r A D) (cam : Int) : Stp base w0 w b bo s0 g0 n0 r0 s g n r { A with camera := cam } D :=
 ⟨S.row, S.th, S.to, S.lo, S.lt, S.hi, ⟨S.own.rs, S.own.rg, S.own.rn, S.own.rr, S.own.ne⟩, S.but, S.blk, S.ne⟩
theorem Stp.swap {s' g' n' r' : Value} {A' : Ar} (S : Stp base w0 w b bo s0 g0 n0 r0 s g n r A D) (E : qz29 base w w' s g n r s' g' n' r' A') : Stp base w0 w' b bo s0 g0 n0 r0 s' g' n' r' A' D := by
 have hb := Nat.lt_trans S.lt S.hi
 have n1 : ¬ OwnB s g n r b := fun h => (S.ne b h).1 rfl
 have n2 : ¬ OwnB s g n r bo := fun h => (S.ne bo h).2 rfl
 refine ⟨E.but.range S.row hb n1, E.but.there S.th hb n1, E.but.there S.to S.hi n2, S.lo, S.lt, Q72 S.hi E.but.size, E.own, ?_, ?_, ?_⟩
 ·refine ⟨E.but.os.trans S.but.os, E.but.tape.trans S.but.tape, E.but.output.trans S.but.output, Q77 S.but.size E.but.size, fun q hq hn => (E.but.block q (Q72 hq S.but.size) (fun h => ?_)).trans (S.but.block q hq hn)⟩
  rcases S.blk q h with h1 | h1
  ·exact hn h1
  ·omega
 ·intro q h
  rcases E.blk q h with h1 | h1
  ·exact S.blk q h1
  ·exact Or.inr (Q77 S.but.size h1)
 ·intro q h
  have hi := S.hi
  have hlt := S.lt
  rcases E.blk q h with h1 | h1
  ·exact S.ne q h1
  ·omega
theorem Stp.arena {cam cam' : Int} {h : Hd} {d : Dd} {tk : Bool} {s1 g1 n1 r1 : Value} (S : Stp base w0 w b bo s0 g0 n0 r0 s g n r A (qza cam s1 g1 n1 r1 h d tk)) : Stp base w0 (w.setCells b 0 [.int .i64 cam', s, g, n, r]) b bo s0 g0 n0 r0 s g n r A (qza cam' s g n r h d tk) :=
 S.puts [] [.int .i64 cam, s1, g1, n1, r1] (hdC h ++ (ddC d ++ [.bool tk])) [.int .i64 cam', s, g, n, r] rfl rfl rfl
theorem Stp.fin (S : Stp base w0 w b bo s0 g0 n0 r0 s g n r A D) : qz29 base w0 (w.setCells bo 0 D) s0 g0 n0 r0 s g n r A :=
 ⟨S.own.kept (But.of_only (S := fun q => q = bo) (qze bo D 0 w) rfl) (fun q hq => (S.ne q hq).2), S.but.far (qze bo D 0 w) (Q77 S.lo (Nat.le_of_lt S.lt)), S.blk⟩
theorem Stp.out (S : Stp base w0 w b bo s0 g0 n0 r0 s g n r A D) (h33 : D.length = 33) : (w.setCells bo 0 D).rangeAt bo 0 D :=
 World.rangeAt_setCells_same _ _ _ _ (by rw [h33]; exact S.to)
theorem Stp.is (S : Stp base w0 w b bo s0 g0 n0 r0 s g n r A D) : qz1j Q6o w s g n r A := S.own.is
theorem Stp.cell (S : Stp base w0 w b bo s0 g0 n0 r0 s g n r A D) (k : Nat) {v : Value} (h : D[k]? = some v) : w.cell? ⟨b, k, none⟩ = some v := by simpa using S.row k v h
theorem Stp.free (S : Stp base w0 w b bo s0 g0 n0 r0 s g n r A D) (k : Nat) (h : k < 33) : w.frozen? ⟨b, k, none⟩ = false := by simpa using (S.th k h).2
end
theorem Stp.from {base : Nat} {w w1 w2 : World} {b bo : Nat} {s0 g0 n0 r0 s g n r : Value} {A : Ar} {D : List Value} (S : Stp base w1 w2 b bo s0 g0 n0 r0 s g n r A D) (hb : Below Q6o w w1) : Stp base w w2 b bo s0 g0 n0 r0 s g n r A D :=
 ⟨S.row, S.th, S.to, Q77 hb.size S.lo, S.lt, S.hi, S.own, ⟨S.but.os.trans hb.os, S.but.tape.trans hb.tape, S.but.output.trans hb.output, Q77 hb.size S.but.size, fun q hq hn => (S.but.block q (Q72 hq hb.size) hn).trans (hb.block q hq)⟩, fun q h => (S.blk q h).imp_right (Q77 hb.size), S.ne⟩
theorem qza3 (base : Nat) (w : World) (s g n r : Value) (A : Ar) (D Z : List Value) (T : TypeId) (O : qz1t base w s g n r A) (hD : D.length = 33) (hZ : Z.length = 33) : Stp base w ((w.alloc (.cells D.toArray T)).alloc (.cells Z.toArray T)) Q6o (Q6o + 1) s g n r s g n r A D := by
 have K0 := ((Q6s Q6o w).alloc (Q6v _) (.cells D.toArray T)).alloc (by simp) (.cells Z.toArray T)
 have F0 := qzg (w.alloc (.cells D.toArray T)) Z.toArray T 33 (by rw [List.size_toArray, hZ]; exact Q6v _)
 rw [World.size_alloc] at F0
 exact ⟨Q7b (qz6 w D T) _, Q7h (qzg w D.toArray T 33 (by rw [List.size_toArray, hD]; exact Q6v _)) _, F0, Q6v _, Nat.lt_succ_self _, by simp, O.below K0, But.of_below K0, fun q h => Or.inl h, fun q h => by have := O.lt q h; omega⟩
theorem qz1i (base : Nat) (w : World) (s g n r : Value) (A : Ar) (D Z : List Value) (T T0 : TypeId) (x y z u : Int) (O : qz1t base w s g n r A) (hD : D.length = 33) (hZ : Z.length = 33) : Stp base w (((w.alloc (.cells Q06 T0)).alloc (.cells D.toArray T)).alloc (.cells Z.toArray T)) (Q6o + 1) (Q6o + 1 + 1) s g n r s g n r A D /\ qz45 (((w.alloc (.cells Q06 T0)).alloc (.cells D.toArray T)).alloc (.cells Z.toArray T)) Q6o x y z u := by
 have K0 := (Q6s Q6o w).alloc (Q6v _) (.cells Q06 T0)
 have S := qza3 base (w.alloc (.cells Q06 T0)) s g n r A D Z T (O.below K0) hD hZ
 rw [World.size_alloc] at S
 refine ⟨S.from K0, ((qz1q w x y z u T0).below ((Q6s _ _).alloc (Q6v _) _) (by simp)).below ((Q6s _ _).alloc (Q6v _) _) (by simp; omega)⟩
end
section
theorem qzgp {p q : List Value} {m v : Value} : (p ++ m :: q).set p.length v = p ++ v :: q := by
 rw [List.set_append_right _ _ (Nat.le_refl _)]
 simp
theorem qzd3 {base : Nat} {e : TypeId} {sz g n cap : Nat} : ∀ (vs p m q : List Value) (w : World), m.length = vs.length -> w.ownsRow base e sz Q41 n (p ++ (m ++ q)) -> (w.setCells g p.length vs).ownsRow base e sz Q41 n (p ++ (vs ++ q))
 | [], p, [], q, w, _, h => h
 | v :: vs, p, k :: m, q, w, hl, h => by
  have hk : p.length < n * sz := by
   have := h.1
   simp only [List.length_append, List.length_cons] at this
   omega
  have h1 := qz58 h p.length hk v
  rw [show p ++ (k :: m ++ q) = p ++ k :: (m ++ q) from rfl, qzgp] at h1
  have := qzd3 vs (p ++ [v]) m q _ (by simpa using hl) (by simpa using h1)
  simpa [World.setCells] using this
theorem qz63 {α : Type} {f : α -> List Value} : ∀ (l : List α) (k : Nat) (hk : k < l.length), qz8 f l = qz8 f (l.take k) ++ (f l[k] ++ qz8 f (l.drop (k + 1)))
 | x :: l, 0, _ => by simp [qz8]
 | x :: l, k + 1, hk => by
  have := qz63 (f := f) l k (by simpa using hk)
  simp only [qz8, List.flatMap_cons, List.take_succ_cons, List.drop_succ_cons, List.getElem_cons_succ, List.append_assoc] at this ⊢
  rw [this]
theorem qz7q {α : Type} {f : α -> List Value} : ∀ (l : List α) (k : Nat) (y : α), k < l.length -> qz8 f (l.set k y) = qz8 f (l.take k) ++ (f y ++ qz8 f (l.drop (k + 1)))
 | x :: l, 0, y, _ => by simp [qz8]
 | x :: l, k + 1, y, hk => by
  have := qz7q (f := f) l k y (by simpa using hk)
  simp only [qz8, List.flatMap_cons, List.take_succ_cons, List.drop_succ_cons, List.set_cons_succ, List.append_assoc] at this ⊢
  rw [this]
theorem qzg9 {α : Type} {f : α -> List Value} {base : Nat} {e : TypeId} {sz g n cap : Nat} {l : List α} {w : World} (hf : ∀ x, (f x).length = sz) (h : w.ownsRow base e sz Q41 n (qz8 f l)) (k : Nat) (hk : k < l.length) (y : α) : (w.setCells g (k * sz) (f y)).ownsRow base e sz Q41 n (qz8 f (l.set k y)) := by
 rw [qz63 l k hk] at h
 rw [qz7q l k y hk]
 have hp : (qz8 f (l.take k)).length = k * sz := by
  rw [qzz hf, List.length_take, Nat.min_eq_left (Nat.le_of_lt hk)]
 rw [<- hp]
 exact qzd3 (f y) _ _ _ w (by rw [hf, hf]) h
theorem qzb7 {base : Nat} {e : TypeId} {sz g n cap : Nat} {xs : List Value} {w : World} (h : w.ownsRow base e sz Q41 n xs) (o m : Nat) (hm : o + m <= n * sz) : w.there g o m := by
 intro j hj
 have hl : o + j < xs.length := by rw [h.1]; omega
 have := qz23 h (o + j) xs[o + j] (List.getElem?_eq_getElem hl)
 exact ⟨by rw [this.1]; rfl, this.2⟩
structure Und (N : Nat) (w0 w : World) (b : Nat) (hs cs ds ts : Value) (H : List Hd) (C : List Cl) (E : List Dd) (T : List Int) (D : List Value) : Prop where
 row : w.rangeAt b 0 D
 th : w.there b 0 14
 lo : N <= b
 hi : b < Q6o
 h : w.ownsRow N 56 22 hs H.length (qz8 hdC H)
 c : w.ownsRow N 163 10 cs C.length (qz8 clC C)
 d : w.ownsRow N 58 5 ds E.length (qz8 ddC E)
 t : w.ownsRow N 2 1 ts T.length (qz8 intC T)
 nh : ∀ q, hs.ownBlock = some q -> q ≠ b
 nc : ∀ q, cs.ownBlock = some q -> q ≠ b
 nd : ∀ q, ds.ownBlock = some q -> q ≠ b
 nt : ∀ q, ts.ownBlock = some q -> q ≠ b
 bel : Below N w0 w
section
variable {N : Nat} {w0 w w' : World} {b : Nat} {hs cs ds ts : Value} {H : List Hd} {C : List Cl} {E : List Dd} {T : List Int} {D : List Value}
theorem Und.below (S : Und N w0 w b hs cs ds ts H C E T D) (hb : Below Q6o w w') (hN : N <= Q6o) : Und N w0 w' b hs cs ds ts H C E T D :=
 ⟨qz0 S.row hb S.hi, qz5 S.th hb S.hi, S.lo, Q72 S.hi hb.size, qz1o S.h hb, qz1o S.c hb, qz1o S.d hb, qz1o S.t hb, S.nh, S.nc, S.nd, S.nt, S.bel.trans (hb.mono hN)⟩
theorem Und.at_b (S : Und N w0 w b hs cs ds ts H C E T D) (k : Only b w w') {D' : List Value} (row : w'.rangeAt b 0 D') (th : w'.there b 0 14) : Und N w0 w' b hs cs ds ts H C E T D' :=
 ⟨row, th, S.lo, Q72 S.hi k.size, qzm S.h k S.nh, qzm S.c k S.nc, qzm S.d k S.nd, qzm S.t k S.nt, S.nh, S.nc, S.nd, S.nt, S.bel.trans (k.below S.lo (Q77 S.lo (Nat.le_of_lt S.hi)))⟩
theorem Und.put (S : Und N w0 w b hs cs ds ts H C E T D) (k : Nat) (hk : k < D.length) (v : Value) : Und N w0 (w.setCell ⟨b, k, none⟩ v) b hs cs ds ts H C E T (D.set k v) :=
 S.at_b ((Only.refl b w).setCell (p := ⟨b, k, none⟩) (Or.inl rfl) v) (qzb S.row k hk v) (qz2 S.th _ _)
theorem Und.puts (S : Und N w0 w b hs cs ds ts H C E T D) (p q t vs : List Value) (hD : D = p ++ (q ++ t)) (hl : vs.length = q.length) (h14 : D.length = 14) : Und N w0 (w.setCells b p.length vs) b hs cs ds ts H C E T (p ++ (vs ++ t)) := by
 subst hD
 have hp : p.length + q.length <= 14 := by simp only [List.length_append] at h14; omega
 have Th := qz1d S.th p.length q.length hp
 rw [Nat.zero_add, <- hl] at Th
 refine S.at_b (qze b vs p.length w) ?_ (Q7f S.th _ _ _)
 obtain ⟨R1, R2⟩ := qz2f S.row
 obtain ⟨R3, R4⟩ := qz2f R2
 rw [Nat.zero_add] at R2 R3 R4
 refine qz3l (Q7d R1 _ _ _ (Or.inr (Or.inl (by simp)))) (qz3l ?_ ?_)
 ·rw [Nat.zero_add]; exact World.rangeAt_setCells_same w b p.length vs Th
 ·rw [Nat.zero_add, hl]; exact World.rangeAt_setCells_apart R4 _ _ _ (Or.inr (Or.inr (by rw [hl]; exact Nat.le_refl _)))
theorem Und.cell (S : Und N w0 w b hs cs ds ts H C E T D) (k : Nat) {v : Value} (h : D[k]? = some v) : w.cell? ⟨b, k, none⟩ = some v := by
 have := S.row k v h
 rwa [Nat.zero_add] at this
theorem Und.free (S : Und N w0 w b hs cs ds ts H C E T D) (k : Nat) (hk : k < 14) : w.frozen? ⟨b, k, none⟩ = false := by
 have := (S.th k hk).2
 rwa [Nat.zero_add] at this
theorem qz51 : (56 : TypeId) ≠ 163 /\ (56 : TypeId) ≠ 58 /\ (56 : TypeId) ≠ 2 /\ (163 : TypeId) ≠ 58 /\ (163 : TypeId) ≠ 2 /\ (58 : TypeId) ≠ 2 := by decide
theorem Und.hand {g cap : Nat} (S : Und N w0 w b (.slice (some ⟨g, 0, none⟩) H.length cap) cs ds ts H C E T D) (k : Nat) (hk : k < H.length) (h' : Hd) : Und N w0 (w.setCells g (k * 22) (hdC h')) b (.slice (some ⟨g, 0, none⟩) H.length cap) cs ds ts (H.set k h') C E T D := by
 obtain ⟨t1, t2, t3, t4, t5, t6⟩ := qz51
 have hO : Only g w (w.setCells g (k * 22) (hdC h')) := qze g _ _ w
 have hg : N <= g := qz1g S.h rfl
 have hB : But (fun q => q = g) w (w.setCells g (k * 22) (hdC h')) := But.of_only hO rfl
 have hne : b ≠ g := fun e => S.nh g rfl e.symm
 refine ⟨hB.range S.row S.hi hne, hB.there S.th S.hi hne, S.lo, Q72 S.hi hO.size, ?_, qzm S.c hO (fun j e h => qz2b S.c S.h (Ne.symm t1) j e (by rw [h]; rfl)), qzm S.d hO (fun j e h => qz2b S.d S.h (Ne.symm t2) j e (by rw [h]; rfl)), qzm S.t hO (fun j e h => qz2b S.t S.h (Ne.symm t3) j e (by rw [h]; rfl)), S.nh, S.nc, S.nd, S.nt, S.bel.trans (hO.below hg (Q77 S.lo (Nat.le_of_lt S.hi)))⟩
 have := qzg9 (f := hdC) (sz := 22) (fun _ => rfl) S.h k hk h'
 simpa using this
theorem Und.grow_c {cs' : Value} {C' : List Cl} (S : Und N w0 w b hs cs ds ts H C E T D) (hown : w'.ownsRow N 163 10 cs' C'.length (qz8 clC C')) (hB : But (fun q => cs.ownBlock = some q) w w') (hat : cs'.ownBlock = cs.ownBlock ∨ cs'.ownBlock = some Q6o) : Und N w0 w' b hs cs' ds ts H C' E T D := by
 obtain ⟨t1, t2, t3, t4, t5, t6⟩ := qz51
 have hne : ¬ cs.ownBlock = some b := fun e => S.nc b e rfl
 refine ⟨hB.range S.row S.hi hne, hB.there S.th S.hi hne, S.lo, Q72 S.hi hB.size, qz1x S.h hB (fun j e h => qz2b S.h S.c t1 j e h), hown, qz1x S.d hB (fun j e h => qz2b S.d S.c (Ne.symm t4) j e h), qz1x S.t hB (fun j e h => qz2b S.t S.c (Ne.symm t5) j e h), S.nh, fun q e => ?_, S.nd, S.nt, S.bel.trans (hB.below (Q77 S.lo (Nat.le_of_lt S.hi)) (fun q e => qz1g S.c e))⟩
 rcases hat with h | h
 ·rw [h] at e; exact S.nc q e
 ·rw [h] at e; cases e; have := S.hi; omega
theorem Und.grow_d {ds' : Value} {E' : List Dd} (S : Und N w0 w b hs cs ds ts H C E T D) (hown : w'.ownsRow N 58 5 ds' E'.length (qz8 ddC E')) (hB : But (fun q => ds.ownBlock = some q) w w') (hat : ds'.ownBlock = ds.ownBlock ∨ ds'.ownBlock = some Q6o) : Und N w0 w' b hs cs ds' ts H C E' T D := by
 obtain ⟨t1, t2, t3, t4, t5, t6⟩ := qz51
 have hne : ¬ ds.ownBlock = some b := fun e => S.nd b e rfl
 refine ⟨hB.range S.row S.hi hne, hB.there S.th S.hi hne, S.lo, Q72 S.hi hB.size, qz1x S.h hB (fun j e h => qz2b S.h S.d t2 j e h), qz1x S.c hB (fun j e h => qz2b S.c S.d t4 j e h), hown, qz1x S.t hB (fun j e h => qz2b S.t S.d (Ne.symm t6) j e h), S.nh, S.nc, fun q e => ?_, S.nt, S.bel.trans (hB.below (Q77 S.lo (Nat.le_of_lt S.hi)) (fun q e => qz1g S.d e))⟩
 rcases hat with h | h
 ·rw [h] at e; exact S.nd q e
 ·rw [h] at e; cases e; have := S.hi; omega
theorem Und.grow_t {ts' : Value} {T' : List Int} (S : Und N w0 w b hs cs ds ts H C E T D) (hown : w'.ownsRow N 2 1 ts' T'.length (qz8 intC T')) (hB : But (fun q => ts.ownBlock = some q) w w') (hat : ts'.ownBlock = ts.ownBlock ∨ ts'.ownBlock = some Q6o) : Und N w0 w' b hs cs ds ts' H C E T' D := by
 obtain ⟨t1, t2, t3, t4, t5, t6⟩ := qz51
 have hne : ¬ ts.ownBlock = some b := fun e => S.nt b e rfl
 refine ⟨hB.range S.row S.hi hne, hB.there S.th S.hi hne, S.lo, Q72 S.hi hB.size, qz1x S.h hB (fun j e h => qz2b S.h S.t t3 j e h), qz1x S.c hB (fun j e h => qz2b S.c S.t t5 j e h), qz1x S.d hB (fun j e h => qz2b S.d S.t t6 j e h), hown, S.nh, S.nc, S.nd, fun q e => ?_, S.bel.trans (hB.below (Q77 S.lo (Nat.le_of_lt S.hi)) (fun q e => qz1g S.t e))⟩
 rcases hat with h | h
 ·rw [h] at e; exact S.nt q e
 ·rw [h] at e; cases e; have := S.hi; omega
end
end
section
def onAt (L : Nat -> Bool) (i : Nat) : Nat -> Bool := fun j => if j = i then true else L j
theorem qzcm {P : Program} {l : List Oper} {Q : Exit -> Act -> World -> Prop} {id : Nat} {a0 : Act} {w0 : World} (k : Nat) (hm : P.follows .mixedOrders = true)
  (G : (Nat -> Bool) -> Nat -> Value -> World -> Prop) (hT : qze2 l.toArray k (l.length - k) = true) (hL : qze1 l.toArray = true) (hBk : qzgq l.toArray = true) (hg : (l.take k).all (fun o => o.guard.isNone) = true)
  (hdst0 : dstB l.toArray a0.tmps.size = true)
  (step : ∀ (i : Nat) (o : Oper), i < k -> l[i]? = some o -> ∀ (L : Nat -> Bool) (a : Act) (w : World), L i = false -> (∀ j, L j = true -> j < k) -> Below Q73 w0 w -> (∀ t, qz7m l.toArray t = true -> a.eval (.tmp t) = a0.tmps.getD t undef) ->
   (∀ e ∈ o.after, Region.binds .any e = true -> ∀ d, qz2v l.toArray e.on = some d -> L e.on = true /\ G L e.on (a.eval (.tmp d)) w) ->
   ∀ K : Act -> World -> Prop, (∀ v w', G (onAt L i) i v w' -> Below Q73 w0 w' -> (∀ j v', j ≠ i -> L j = true -> G L j v' w -> G (onAt L i) j v' w') -> K (a.put o.dst v) w') -> o.wp P a w K Q)
  (final : ∀ (L : Nat -> Bool) vs w', (∀ i, i < k -> L i = true) -> Below Q73 w0 w' -> (∀ i, i < k -> G L i (vs i) w') ->
   wpList P l.toArray Q (l.drop k) (laid l.toArray vs Q15 (List.range Q70) a0) w') :
  (Code.region id l.toArray true).wp P Q a0 w0 := by
 have hdst := qz9b hdst0
 have L := qz67 hL
 have hBack : ∀ i, i < k -> ∀ o, l.toArray[i]? = some o -> ∀ e ∈ o.after, e.on < i := fun i _ o ho => qzbc hBk i o ho
 simp only [qze2, Bool.and_eq_true, beq_iff_eq] at hT
 obtain ⟨⟨hkm, hw⟩, hseq⟩ := hT
 have hsl : Q70 = l.length := by simp
 have hkl : k <= l.length := by omega
 refine wp_region_any hm ?_
 have key : ∀ (c : Nat) (listed : Array Bool) (vs : Nat -> Value) (w : World), qz4c listed <= c + (l.length - k) -> listed.size = Q70 -> qz4r .any l.toArray listed -> (∀ j, k <= j -> listed.getD j false = false) -> Below Q73 w0 w ->
   (∀ i, i < Q70 -> listed.getD i false = true -> G (fun j => listed.getD j false) i (vs i) w) ->
   wpAny P .any l.toArray Q (c + (l.length - k)) listed (laid l.toArray vs listed (List.range Q70) a0) w := by
  intro c
  induction c with
  | zero =>
   intro listed vs w hf hs hc htail hb hG
   by_cases hall : ∀ i, i < k -> listed.getD i false = true
   ·have he : listed = qz3c k 0 (Array.replicate Q70 false) := by
     apply Array.ext
     ·rw [qz28, hs]; simp
     ·intro i h1 h2
      have g := qz2p k 0 (Array.replicate Q70 false) i (by simp; omega)
      have g1 : Q15[i] = (Q15).getD i false := qz3o _ _ h2
      have g2 : listed[i] = listed.getD i false := by simp [h1]
      rw [g1, g2, g]
      by_cases c : i < k
      ·rw [if_pos (by omega), hall i c]
      ·have hio : i < l.length := by omega
       rw [if_neg (by omega), htail i (by omega)]
       simp [hio]
    have hfin := final (fun j => listed.getD j false) vs w hall hb (fun i hi => hG i (by omega) (hall i hi))
    rw [<- he] at hfin
    have := qz1m (P := P) (md := .any) (Q := Q) 0 (l.drop k) k listed _ w (fun j => by simp) (by rw [he]; simpa using hseq) hfin
    simpa using this
   ·exfalso
    simp only [Classical.not_forall] at hall
    obtain ⟨i, hi, hu⟩ := hall
    have := qz40 (m := l.length - k) (by omega) htail hi (by simpa using hu)
    omega
  | succ c ih =>
   intro listed vs w hf hs hc htail hb hG
   by_cases hall : ∀ i, i < k -> listed.getD i false = true
   ·have he : listed = qz3c k 0 (Array.replicate Q70 false) := by
     apply Array.ext
     ·rw [qz28, hs]; simp
     ·intro i h1 h2
      have g := qz2p k 0 (Array.replicate Q70 false) i (by simp; omega)
      have g1 : Q15[i] = (Q15).getD i false := qz3o _ _ h2
      have g2 : listed[i] = listed.getD i false := by simp [h1]
      rw [g1, g2, g]
      by_cases c : i < k
      ·rw [if_pos (by omega), hall i c]
      ·have hio : i < l.length := by omega
       rw [if_neg (by omega), htail i (by omega)]
       simp [hio]
    have hfin := final (fun j => listed.getD j false) vs w hall hb (fun i hi => hG i (by omega) (hall i hi))
    rw [<- he] at hfin
    have := qz1m (P := P) (md := .any) (Q := Q) (c + 1) (l.drop k) k listed _ w (fun j => by simp) (by rw [he]; simpa using hseq) hfin
    rw [show c + 1 + (l.length - k) = (l.drop k).length + (c + 1) by simp; omega]
    exact this
   simp only [Classical.not_forall] at hall
   obtain ⟨i1, hi1, hu1⟩ := hall
   have hu1' : listed.getD i1 false = false := by simpa using hu1
   have hu1'' : listed.getD i1 true = false := by
    have : i1 < listed.size := by omega
    simpa [this] using hu1'
   have hex : ∃ i, i < k /\ i ∈ Region.ready .any l.toArray listed := by
    apply Classical.byContradiction
    intro hno
    have : ∀ n i, i < n -> i < k -> listed.getD i false = true := by
     intro n
     induction n with
     | zero => intro i hi; omega
     | succ n ihn =>
      intro i hi hik
      rcases Nat.lt_or_ge i n with h | h
      ·exact ihn i h hik
      ·have hin : i = n := by omega
       subst hin
       cases hq : listed.getD i false with
       | true => rfl
       | false =>
        exfalso
        apply hno
        refine ⟨i, hik, mem_ready.2 ⟨?_, ?_⟩⟩
        ·have : i < listed.size := by omega
         simpa [this] using hq
        ·have hil : i < Q70 := by omega
         refine ⟨l.toArray[i], by simp, fun e he hbd => ?_⟩
         exact ihn e.on (hBack i hik _ (by simp) e he) (Nat.lt_trans (hBack i hik _ (by simp) e he) hik)
    have h9 := this (i1 + 1) i1 (by omega) hi1
    rw [hu1'] at h9
    cases h9
   rw [show c + 1 + (l.length - k) = (c + (l.length - k)) + 1 by omega]
   obtain ⟨i0, hi0, hr0⟩ := hex
   refine ⟨fun h0 => (by rw [h0] at hr0; cases hr0), ?_⟩
   intro i hi
   have hik := qz37 hw hc hi1 hu1'' hi
   obtain ⟨h0, o, ho, hall⟩ := mem_ready.1 hi
   have hi' : i < Q70 := (Array.getElem?_eq_some_iff.1 ho).1
   have hlt : i < listed.size := by omega
   have h1 : listed.getD i false = false := by simpa [hlt] using h0
   have ho' : l[i]? = some o := by simpa using ho
   have hguard : o.guard = none := by
    have := (List.all_eq_true.1 hg) o (List.mem_of_getElem? (i := i) (by rw [List.getElem?_take]; simp [hik, ho']))
    simpa using this
   have hnd : (List.range Q70).Nodup := List.nodup_range
   have hlt' : ∀ e ∈ o.after, Region.binds .any e = true -> ∀ d, qz2v l.toArray e.on = some d -> e.on < Q70 /\ listed.getD e.on false = true /\ (laid l.toArray vs listed (List.range Q70) a0).eval (.tmp d) = vs e.on := by
    intro e he hbd d hd
    have hel := hall e he hbd
    have hes : e.on < Q70 := by
     rcases Nat.lt_or_ge e.on Q70 with h | h
     ·exact h
     ·simp only [qz2v, Array.getElem?_eq_none h] at hd
      cases hd
    exact ⟨hes, hel, qz43 L vs listed e.on d hd hel _ _ hnd (List.mem_range.2 hes) (hdst _ _ hd)⟩
   have hstep := step i o hik ho' (fun j => listed.getD j false) (laid l.toArray vs listed (List.range Q70) a0) w h1 (fun j hj => by
     rcases Nat.lt_or_ge j k with h | h
     ·exact h
     ·have := htail j h; rw [this] at hj; cases hj) hb
    (fun t ht => qz21 l.toArray vs listed t _ _ (fun k _ => qz4s ht k))
    (fun e he hbd d hd => by
     obtain ⟨h2, h3, h4⟩ := hlt' e he hbd d hd
     rw [h4]
     exact ⟨h3, hG e.on h2 h3⟩)
   have hwn : Region.wanted o (yielded l.toArray (laid l.toArray vs listed (List.range Q70) a0).tmps) = true := by simp [Region.wanted, hguard]
   unfold wpOp
   simp only [ho, hwn, if_true]
   refine Or.inl (hstep _ ?_)
   intro v w' hGi hb' hkp
   have hLn : (fun j => (listed.setIfInBounds i true).getD j false) = onAt (fun j => listed.getD j false) i := by
    funext j
    unfold onAt
    by_cases hji : j = i
    ·subst hji
     rw [if_pos rfl]
     simp [hlt]
    ·rw [if_neg hji]
     exact getD_set_ne false (Ne.symm hji)
   have hd' : o.dst = qz2v l.toArray i := by simp only [qz2v, ho, Option.bind_some]
   rw [hd', qz4d L vs listed i v hlt h1 _ _ hnd (List.mem_range.2 hi')]
   have hsz := hb.size
   refine ih _ _ _ (by have := qz2w hlt h1; omega) (by simpa using hs) (hc.set hi) (fun j hj => by rw [getD_set_ne false (by omega)]; exact htail j hj) hb' ?_
   intro j hj hjl
   rw [hLn]
   by_cases hji : j = i
   ·subst hji
    simp only [upd, if_true]
    exact hGi
   ·rw [getD_set_ne false (Ne.symm hji)] at hjl
    simp only [upd, hji, if_false]
    exact hkp j _ hji hjl (hG j hj hjl)
 have hgf : ∀ i, (Array.replicate Q70 false).getD i false = false := by
  intro i
  rcases Nat.lt_or_ge i Q70 with h | h
  ·simp at h; simp [h]
  ·simp at h; simp [h]
 have h0 : laid l.toArray (fun _ => undef) (Array.replicate Q70 false) (List.range Q70) a0 = a0 := by
  have : ∀ (q : List Nat) (a : Act), laid l.toArray (fun _ => undef) (Array.replicate Q70 false) q a = a := by
   intro q
   induction q with
   | nil => intro a; rfl
   | cons i q ih =>
    intro a
    simp only [laid]
    rw [hgf i]
    simpa using ih a
  exact this _ _
 have hk := key k (Array.replicate Q70 false) (fun _ => undef) { w0 with drawn := w0.drawn + 1 } (by unfold qz4c; simp; omega) (by simp) (fun j o _ hj => by rw [hgf j] at hj; cases hj) (fun j _ => hgf j) ⟨rfl, rfl, rfl, Q6v _, fun _ _ => rfl⟩ (fun i hi h => by rw [hgf i] at h; cases h)
 rw [h0, show k + (l.length - k) = l.toArray.size by simp; omega] at hk
 exact hk
end
section
def qz22 (x y z u : Int) (A : Ar) (h : Hd) : Ar × Hd :=
 if h.at_ = 1 then (A, { h with round := min (h.round + 1) 20000, x_ := qz4o x y z u A h.key, then_ := 1, at_ := 2 })
 else (Q40.1, if Q40.2 = -2 then qz9 h 5 0 0 else if Q40.2 = -1 then { h with at_ := 1 } else { h with ver := Q40.2, then_ := 3, at_ := 3 })
theorem qz7r (z : Int) (A : Ar) (node v next : Int) (gone : Bool) (kind : Int) : Q3z.2 = -2 ∨ Q3z.2 = -1 ∨ 0 <= Q3z.2 := by
 unfold qz14
 split
 ·exact Or.inl rfl
 ·split
  ·exact Or.inr (Or.inl rfl)
  ·exact Or.inr (Or.inr (by show (0 : Int) <= (Q6r : Int); omega))
theorem qz2m (z : Int) (A : Ar) (node v next : Int) (gone : Bool) (kind : Int) : Q3z.1.camera = Q6w := by
 unfold qz14
 split
 ·rfl
 ·split <;> rfl
end
end Go.Proofs.YthjkdnlmopafkaaGreatDoor
