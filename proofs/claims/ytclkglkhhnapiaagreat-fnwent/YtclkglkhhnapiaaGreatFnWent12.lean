/-
  What the law's proof goes by, part 13.
-/
import Derived.Test.YtclkglkhhnapiaaGreatFnWent00
import Derived.Test.YtclkglkhhnapiaaGreatFnWent02
import Derived.Test.YtclkglkhhnapiaaGreatFnWent04
import Derived.Test.YtclkglkhhnapiaaGreatFnWent10
import Derived.Test.YtclkglkhhnapiaaGreatFnWent11
namespace Go.Proofs.YtclkglkhhnapiaaGreat
open Go.ChangeShapes Go.WideShapes Go.ChangeAt Go.RowKit
set_option maxRecDepth 100000
set_option maxHeartbeats 16000000
set_option linter.unusedVariables false
set_option linter.unusedSimpArgs false
set_option linter.unnecessarySimpa false
set_option linter.unusedSectionVars false
section
theorem qz43.under {W w1 : World} {b C : Nat} {x y z u : Int} (h : qz43 W b x y z u) (hb : Below C W w1) (hlt : b < C) : qz43 w1 b x y z u :=
 ⟨(hb.cell (p := ⟨b, 0, none⟩) hlt).trans h.1, (hb.cell (p := ⟨b, 1, none⟩) hlt).trans h.2.1, (hb.cell (p := ⟨b, 2, none⟩) hlt).trans h.2.2.1, (hb.cell (p := ⟨b, 3, none⟩) hlt).trans h.2.2.2⟩
theorem But.far {S : Nat -> Prop} {b : Nat} {w0 w w' : World} (h : But S w0 w) (k : Only b w w') (hb : w0.heap.size <= b) : But S w0 w' :=
 ⟨k.os.trans h.os, k.tape.trans h.tape, k.output.trans h.output, Nat.le_trans h.size k.size, fun q hq hn => (k.block q (Nat.lt_of_lt_of_le hq h.size) (by omega)).trans (h.block q hq hn)⟩
structure Stp (base : Nat) (w0 w : World) (b bo : Nat) (s0 g0 n0 r0 s g n r : Value) (A : Ar) (D : List Value) : Prop where
 row : w.rangeAt b 0 D
 th : w.there b 0 33
 to : w.there bo 0 33
 lo : w0.heap.size <= b
 lt : b < bo
 hi : bo < w.heap.size
 own : qz3i base w s g n r A
 but : But (OwnB s0 g0 n0 r0) w0 w
 blk : ∀ q, OwnB s g n r q -> OwnB s0 g0 n0 r0 q ∨ w0.heap.size <= q
 ne : ∀ q, OwnB s g n r q -> q ≠ b /\ q ≠ bo
section
variable {base : Nat} {w0 w w' : World} {b bo : Nat} {s0 g0 n0 r0 s g n r : Value} {A : Ar} {D : List Value}
theorem Stp.below (S : Stp base w0 w b bo s0 g0 n0 r0 s g n r A D) (hb : Below w.heap.size w w') : Stp base w0 w' b bo s0 g0 n0 r0 s g n r A D :=
 ⟨qz0 S.row hb (Nat.lt_trans S.lt S.hi), qz2 S.th hb (Nat.lt_trans S.lt S.hi), qz2 S.to hb S.hi, S.lo, S.lt, Nat.lt_of_lt_of_le S.hi hb.size, S.own.below hb, S.but.trans (But.of_below hb), S.blk, S.ne⟩
theorem Stp.at_b (S : Stp base w0 w b bo s0 g0 n0 r0 s g n r A D) (k : Only b w w') {D' : List Value} (row : w'.rangeAt b 0 D') (th : w'.there b 0 33) (to : w'.there bo 0 33) : Stp base w0 w' b bo s0 g0 n0 r0 s g n r A D' :=
 ⟨row, th, to, S.lo, S.lt, Nat.lt_of_lt_of_le S.hi k.size, S.own.kept (But.of_only (S := fun q => q = b) k rfl) (fun q hq => (S.ne q hq).1), S.but.far k S.lo, S.blk, S.ne⟩
theorem Stp.put (S : Stp base w0 w b bo s0 g0 n0 r0 s g n r A D) (k : Nat) (hk : k < D.length) (v : Value) : Stp base w0 (w.setCell ⟨b, k, none⟩ v) b bo s0 g0 n0 r0 s g n r A (D.set k v) :=
 S.at_b ((Only.refl b w).setCell (p := ⟨b, k, none⟩) (Or.inl rfl) v) (qzc S.row k hk v) (qz5 S.th _ _) (qz5 S.to _ _)
theorem Stp.puts (S : Stp base w0 w b bo s0 g0 n0 r0 s g n r A D) (p q t vs : List Value) (hD : D = p ++ (q ++ t)) (hl : vs.length = q.length) (h33 : D.length = 33) : Stp base w0 (w.setCells b p.length vs) b bo s0 g0 n0 r0 s g n r A (p ++ (vs ++ t)) := by
 subst hD
 have hp : p.length + q.length <= 33 := by simp only [List.length_append] at h33; omega
 have T := qz1b S.th p.length q.length hp
 rw [Nat.zero_add, <- hl] at T
 refine S.at_b (qzj b vs p.length w) ?_ (World.there_setCells S.th _ _ _) (World.there_setCells S.to _ _ _)
 obtain ⟨R1, R2⟩ := qz2m S.row
 obtain ⟨R3, R4⟩ := qz2m R2
 rw [Nat.zero_add] at R2 R3 R4
 refine qz3o (World.rangeAt_setCells_apart R1 _ _ _ (Or.inr (Or.inl (by simp)))) (qz3o ?_ ?_)
 ·rw [Nat.zero_add]; exact World.rangeAt_setCells_same w b p.length vs T
 ·rw [Nat.zero_add, hl]; exact World.rangeAt_setCells_apart R4 _ _ _ (Or.inr (Or.inr (by rw [hl]; exact Nat.le_refl _)))
theorem Stp.hand {cam : Int} {h : Hd} {d : Dd} {tk : Bool} (S : Stp base w0 w b bo s0 g0 n0 r0 s g n r A (qzd cam s g n r h d tk)) (h' : Hd) : Stp base w0 (w.setCells b 5 (hdC h')) b bo s0 g0 n0 r0 s g n r A (qzd cam s g n r h' d tk) :=
 S.puts [.int .i64 cam, s, g, n, r] (hdC h) (ddC d ++ [.bool tk]) (hdC h') rfl rfl rfl
theorem Stp.deed {cam : Int} {h : Hd} {d : Dd} {tk : Bool} (S : Stp base w0 w b bo s0 g0 n0 r0 s g n r A (qzd cam s g n r h d tk)) (d' : Dd) : Stp base w0 (w.setCells b 27 (ddC d')) b bo s0 g0 n0 r0 s g n r A (qzd cam s g n r h d' tk) :=
 S.puts ([.int .i64 cam, s, g, n, r] ++ hdC h) (ddC d) [.bool tk] (ddC d') rfl rfl rfl
theorem Stp.ver {rb rc : Nat} (S : Stp base w0 w b bo s0 g0 n0 r0 s g n Q06 A D) (hr : OwnB s0 g0 n0 r0 rb ∨ w0.heap.size <= rb) (k : Nat) (hk : k < A.vers.length) (j : Nat) (hj : j < 5) (y : Vr) (v : Value) (hy : vrC y = (vrC A.vers[k]).set j v) : Stp base w0 (w.setCell ⟨rb, k * 5 + j, none⟩ v) b bo s0 g0 n0 r0 s g n Q06 { A with vers := A.vers.set k y } D := by
 have hO : Only rb w (w.setCell ⟨rb, k * 5 + j, none⟩ v) := (Only.refl rb w).setCell (p := ⟨rb, k * 5 + j, none⟩) (Or.inl rfl) v
 have hne := S.ne rb (Or.inr (Or.inr (Or.inr rfl)))
 have hB : But (fun q => q = rb) w (w.setCell ⟨rb, k * 5 + j, none⟩ v) := But.of_only hO rfl
 refine ⟨hB.range S.row (Nat.lt_trans S.lt S.hi) (fun e => hne.1 e.symm), hB.there S.th (Nat.lt_trans S.lt S.hi) (fun e => hne.1 e.symm), hB.there S.to S.hi (fun e => hne.2 e.symm), S.lo, S.lt, Nat.lt_of_lt_of_le S.hi hO.size, ?_, ?_, S.blk, S.ne⟩
 ·have hv := qz95 S.own.rr (k * 5 + j) (by omega) v
  rw [<- qz4j (f := vrC) (sz := 5) (fun _ => rfl) A.vers k hk j hj y v hy] at hv
  refine ⟨qz21 S.own.rs hB (fun i e h => ?_), qz21 S.own.rg hB (fun i e h => ?_), qz21 S.own.rn hB (fun i e h => ?_), by simpa using hv, S.own.ne⟩
  ·subst h; exact qz32 S.own.rs S.own.rr (by decide) _ e rfl
  ·subst h; exact qz32 S.own.rg S.own.rr (by decide) _ e rfl
  ·subst h; exact qz32 S.own.rn S.own.rr (by decide) _ e rfl
 ·rcases hr with hr | hr
  ·exact S.but.trans (But.of_only hO hr)
  ·exact S.but.far hO hr
theorem Stp.slot {sb sc : Nat} (S : Stp base w0 w b bo s0 g0 n0 r0 Q0h g n r A D) (k : Nat) (hk : k < A.slots.length) (v : Int) : Stp base w0 (w.setCell ⟨sb, k, none⟩ (.int .i64 v)) b bo s0 g0 n0 r0 Q0h g n r { A with slots := A.slots.set k v } D := by
 have hO : Only sb w (w.setCell ⟨sb, k, none⟩ (.int .i64 v)) := (Only.refl sb w).setCell (p := ⟨sb, k, none⟩) (Or.inl rfl) (.int .i64 v)
 have hne := S.ne sb (Or.inl rfl)
 have hB : But (fun q => q = sb) w (w.setCell ⟨sb, k, none⟩ (.int .i64 v)) := But.of_only hO rfl
 refine ⟨hB.range S.row (Nat.lt_trans S.lt S.hi) (fun e => hne.1 e.symm), hB.there S.th (Nat.lt_trans S.lt S.hi) (fun e => hne.1 e.symm), hB.there S.to S.hi (fun e => hne.2 e.symm), S.lo, S.lt, Nat.lt_of_lt_of_le S.hi hO.size, ?_, ?_, S.blk, S.ne⟩
 ·have hv := qz95 S.own.rs k (by omega) (.int .i64 v)
  have hcs := qz4j (f := intC) (sz := 1) (fun _ => rfl) A.slots k hk 0 (by omega) v (.int .i64 v) rfl
  rw [Nat.mul_one, Nat.add_zero] at hcs
  rw [<- hcs] at hv
  refine ⟨by simpa using hv, qz21 S.own.rg hB (fun i e h => ?_), qz21 S.own.rn hB (fun i e h => ?_), qz21 S.own.rr hB (fun i e h => ?_), S.own.ne⟩
  ·subst h; exact S.own.ne _ rfl e
  ·subst h; exact qz32 S.own.rs S.own.rn (by decide) _ rfl e
  ·subst h; exact qz32 S.own.rs S.own.rr (by decide) _ rfl e
 ·rcases S.blk sb (Or.inl rfl) with hr | hr
  ·exact S.but.trans (But.of_only hO hr)
  ·exact S.but.far hO hr
theorem Stp.guide {gb gc : Nat} (S : Stp base w0 w b bo s0 g0 n0 r0 s Q0r n r A D) (k : Nat) (hk : k < A.guides.length) (v : Int) : Stp base w0 (w.setCell ⟨gb, k, none⟩ (.int .i64 v)) b bo s0 g0 n0 r0 s Q0r n r { A with guides := A.guides.set k v } D := by
 have hO : Only gb w (w.setCell ⟨gb, k, none⟩ (.int .i64 v)) := (Only.refl gb w).setCell (p := ⟨gb, k, none⟩) (Or.inl rfl) (.int .i64 v)
 have hne := S.ne gb (Or.inr (Or.inl rfl))
 have hB : But (fun q => q = gb) w (w.setCell ⟨gb, k, none⟩ (.int .i64 v)) := But.of_only hO rfl
 refine ⟨hB.range S.row (Nat.lt_trans S.lt S.hi) (fun e => hne.1 e.symm), hB.there S.th (Nat.lt_trans S.lt S.hi) (fun e => hne.1 e.symm), hB.there S.to S.hi (fun e => hne.2 e.symm), S.lo, S.lt, Nat.lt_of_lt_of_le S.hi hO.size, ?_, ?_, S.blk, S.ne⟩
 ·have hv := qz95 S.own.rg k (by omega) (.int .i64 v)
  have hcs := qz4j (f := intC) (sz := 1) (fun _ => rfl) A.guides k hk 0 (by omega) v (.int .i64 v) rfl
  rw [Nat.mul_one, Nat.add_zero] at hcs
  rw [<- hcs] at hv
  refine ⟨qz21 S.own.rs hB (fun i e h => ?_), by simpa using hv, qz21 S.own.rn hB (fun i e h => ?_), qz21 S.own.rr hB (fun i e h => ?_), S.own.ne⟩
  ·subst h; exact S.own.ne _ e rfl
  ·subst h; exact qz32 S.own.rg S.own.rn (by decide) _ rfl e
  ·subst h; exact qz32 S.own.rg S.own.rr (by decide) _ rfl e
 ·rcases S.blk gb (Or.inr (Or.inl rfl)) with hr | hr
  ·exact S.but.trans (But.of_only hO hr)
  ·exact S.but.far hO hr
theorem Stp.cam (S : Stp base w0 w b bo s0 g0 n0 r0 s g n r A D) (cam : Int) : Stp base w0 w b bo s0 g0 n0 r0 s g n r { A with camera := cam } D :=
 ⟨S.row, S.th, S.to, S.lo, S.lt, S.hi, ⟨S.own.rs, S.own.rg, S.own.rn, S.own.rr, S.own.ne⟩, S.but, S.blk, S.ne⟩
theorem Stp.swap {s' g' n' r' : Value} {A' : Ar} (S : Stp base w0 w b bo s0 g0 n0 r0 s g n r A D) (E : qz2h base w w' s g n r s' g' n' r' A') : Stp base w0 w' b bo s0 g0 n0 r0 s' g' n' r' A' D := by
 have hb := Nat.lt_trans S.lt S.hi
 have n1 : ¬ OwnB s g n r b := fun h => (S.ne b h).1 rfl
 have n2 : ¬ OwnB s g n r bo := fun h => (S.ne bo h).2 rfl
 refine ⟨E.but.range S.row hb n1, E.but.there S.th hb n1, E.but.there S.to S.hi n2, S.lo, S.lt, Nat.lt_of_lt_of_le S.hi E.but.size, E.own, ?_, ?_, ?_⟩
 ·refine ⟨E.but.os.trans S.but.os, E.but.tape.trans S.but.tape, E.but.output.trans S.but.output, Nat.le_trans S.but.size E.but.size, fun q hq hn => (E.but.block q (Nat.lt_of_lt_of_le hq S.but.size) (fun h => ?_)).trans (S.but.block q hq hn)⟩
  rcases S.blk q h with h1 | h1
  ·exact hn h1
  ·omega
 ·intro q h
  rcases E.blk q h with h1 | h1
  ·exact S.blk q h1
  ·exact Or.inr (Nat.le_trans S.but.size h1)
 ·intro q h
  have hi := S.hi
  have hlt := S.lt
  rcases E.blk q h with h1 | h1
  ·exact S.ne q h1
  ·omega
theorem Stp.arena {cam cam' : Int} {h : Hd} {d : Dd} {tk : Bool} {s1 g1 n1 r1 : Value} (S : Stp base w0 w b bo s0 g0 n0 r0 s g n r A (qzd cam s1 g1 n1 r1 h d tk)) : Stp base w0 (w.setCells b 0 [.int .i64 cam', s, g, n, r]) b bo s0 g0 n0 r0 s g n r A (qzd cam' s g n r h d tk) :=
 S.puts [] [.int .i64 cam, s1, g1, n1, r1] (hdC h ++ (ddC d ++ [.bool tk])) [.int .i64 cam', s, g, n, r] rfl rfl rfl
theorem Stp.fin (S : Stp base w0 w b bo s0 g0 n0 r0 s g n r A D) : qz2h base w0 (w.setCells bo 0 D) s0 g0 n0 r0 s g n r A :=
 ⟨S.own.kept (But.of_only (S := fun q => q = bo) (qzj bo D 0 w) rfl) (fun q hq => (S.ne q hq).2), S.but.far (qzj bo D 0 w) (Nat.le_trans S.lo (Nat.le_of_lt S.lt)), S.blk⟩
theorem Stp.out (S : Stp base w0 w b bo s0 g0 n0 r0 s g n r A D) (h33 : D.length = 33) : (w.setCells bo 0 D).rangeAt bo 0 D :=
 World.rangeAt_setCells_same _ _ _ _ (by rw [h33]; exact S.to)
theorem Stp.is (S : Stp base w0 w b bo s0 g0 n0 r0 s g n r A D) : qzr w.heap.size w s g n r A := S.own.is
theorem Stp.cell (S : Stp base w0 w b bo s0 g0 n0 r0 s g n r A D) (k : Nat) {v : Value} (h : D[k]? = some v) : w.cell? ⟨b, k, none⟩ = some v := by simpa using S.row k v h
theorem Stp.free (S : Stp base w0 w b bo s0 g0 n0 r0 s g n r A D) (k : Nat) (h : k < 33) : w.frozen? ⟨b, k, none⟩ = false := by simpa using (S.th k h).2
end
theorem Stp.from {base : Nat} {w w1 w2 : World} {b bo : Nat} {s0 g0 n0 r0 s g n r : Value} {A : Ar} {D : List Value} (S : Stp base w1 w2 b bo s0 g0 n0 r0 s g n r A D) (hb : Below w.heap.size w w1) : Stp base w w2 b bo s0 g0 n0 r0 s g n r A D :=
 ⟨S.row, S.th, S.to, Nat.le_trans hb.size S.lo, S.lt, S.hi, S.own, ⟨S.but.os.trans hb.os, S.but.tape.trans hb.tape, S.but.output.trans hb.output, Nat.le_trans hb.size S.but.size, fun q hq hn => (S.but.block q (Nat.lt_of_lt_of_le hq hb.size) hn).trans (hb.block q hq)⟩, fun q h => (S.blk q h).imp_right (Nat.le_trans hb.size), S.ne⟩
theorem qz8r (base : Nat) (w : World) (s g n r : Value) (A : Ar) (D Z : List Value) (T : TypeId) (O : qz3i base w s g n r A) (hD : D.length = 33) (hZ : Z.length = 33) : Stp base w ((w.alloc (.cells D.toArray T)).alloc (.cells Z.toArray T)) w.heap.size (w.heap.size + 1) s g n r s g n r A D := by
 have K0 := ((Below.refl w.heap.size w).alloc (Nat.le_refl _) (.cells D.toArray T)).alloc (by simp) (.cells Z.toArray T)
 have F0 := qz8 (w.alloc (.cells D.toArray T)) Z.toArray T 33 (by rw [List.size_toArray, hZ]; exact Nat.le_refl _)
 rw [World.size_alloc] at F0
 exact ⟨World.rangeAt_alloc (qz6 w D T) _, World.there_alloc (qz8 w D.toArray T 33 (by rw [List.size_toArray, hD]; exact Nat.le_refl _)) _, F0, Nat.le_refl _, Nat.lt_succ_self _, by simp, O.below K0, But.of_below K0, fun q h => Or.inl h, fun q h => by have := O.lt q h; omega⟩
theorem qz1i (base : Nat) (w : World) (s g n r : Value) (A : Ar) (D Z : List Value) (T T0 : TypeId) (x y z u : Int) (O : qz3i base w s g n r A) (hD : D.length = 33) (hZ : Z.length = 33) : Stp base w (((w.alloc (.cells Q05 T0)).alloc (.cells D.toArray T)).alloc (.cells Z.toArray T)) (w.heap.size + 1) (w.heap.size + 1 + 1) s g n r s g n r A D /\ qz43 (((w.alloc (.cells Q05 T0)).alloc (.cells D.toArray T)).alloc (.cells Z.toArray T)) w.heap.size x y z u := by
 have K0 := (Below.refl w.heap.size w).alloc (Nat.le_refl _) (.cells Q05 T0)
 have S := qz8r base (w.alloc (.cells Q05 T0)) s g n r A D Z T (O.below K0) hD hZ
 rw [World.size_alloc] at S
 refine ⟨S.from K0, ((qz1t w x y z u T0).below ((Below.refl _ _).alloc (Nat.le_refl _) _) (by simp)).below ((Below.refl _ _).alloc (Nat.le_refl _) _) (by simp; omega)⟩
end
section
theorem qzeo {p q : List Value} {m v : Value} : (p ++ m :: q).set p.length v = p ++ v :: q := by
 rw [List.set_append_right _ _ (Nat.le_refl _)]
 simp
theorem qzco {base : Nat} {e : TypeId} {sz g n cap : Nat} : ∀ (vs p m q : List Value) (w : World), m.length = vs.length -> w.ownsRow base e sz (.slice (some ⟨g, 0, none⟩) n cap) n (p ++ (m ++ q)) -> (w.setCells g p.length vs).ownsRow base e sz (.slice (some ⟨g, 0, none⟩) n cap) n (p ++ (vs ++ q))
 | [], p, [], q, w, _, h => h
 | v :: vs, p, k :: m, q, w, hl, h => by
  have hk : p.length < n * sz := by
   have := h.1
   simp only [List.length_append, List.length_cons] at this
   omega
  have h1 := qz95 h p.length hk v
  rw [show p ++ (k :: m ++ q) = p ++ k :: (m ++ q) from rfl, qzeo] at h1
  have := qzco vs (p ++ [v]) m q _ (by simpa using hl) (by simpa using h1)
  simpa [World.setCells] using this
theorem qz61 {α : Type} {f : α -> List Value} : ∀ (l : List α) (k : Nat) (hk : k < l.length), qzn f l = qzn f (l.take k) ++ (f l[k] ++ qzn f (l.drop (k + 1)))
 | x :: l, 0, _ => by simp [qzn]
 | x :: l, k + 1, hk => by
  have := qz61 (f := f) l k (by simpa using hk)
  simp only [qzn, List.flatMap_cons, List.take_succ_cons, List.drop_succ_cons, List.getElem_cons_succ, List.append_assoc] at this ⊢
  rw [this]
theorem qz7e {α : Type} {f : α -> List Value} : ∀ (l : List α) (k : Nat) (y : α), k < l.length -> qzn f (l.set k y) = qzn f (l.take k) ++ (f y ++ qzn f (l.drop (k + 1)))
 | x :: l, 0, y, _ => by simp [qzn]
 | x :: l, k + 1, y, hk => by
  have := qz7e (f := f) l k y (by simpa using hk)
  simp only [qzn, List.flatMap_cons, List.take_succ_cons, List.drop_succ_cons, List.set_cons_succ, List.append_assoc] at this ⊢
  rw [this]
theorem qze4 {α : Type} {f : α -> List Value} {base : Nat} {e : TypeId} {sz g n cap : Nat} {l : List α} {w : World} (hf : ∀ x, (f x).length = sz) (h : w.ownsRow base e sz (.slice (some ⟨g, 0, none⟩) n cap) n (qzn f l)) (k : Nat) (hk : k < l.length) (y : α) : (w.setCells g (k * sz) (f y)).ownsRow base e sz (.slice (some ⟨g, 0, none⟩) n cap) n (qzn f (l.set k y)) := by
 rw [qz61 l k hk] at h
 rw [qz7e l k y hk]
 have hp : (qzn f (l.take k)).length = k * sz := by
  rw [qz2o hf, List.length_take, Nat.min_eq_left (Nat.le_of_lt hk)]
 rw [<- hp]
 exact qzco (f y) _ _ _ w (by rw [hf, hf]) h
theorem qza4 {base : Nat} {e : TypeId} {sz g n cap : Nat} {xs : List Value} {w : World} (h : w.ownsRow base e sz (.slice (some ⟨g, 0, none⟩) n cap) n xs) (o m : Nat) (hm : o + m <= n * sz) : w.there g o m := by
 intro j hj
 have hl : o + j < xs.length := by rw [h.1]; omega
 have := qz3c h (o + j) xs[o + j] (List.getElem?_eq_getElem hl)
 exact ⟨by rw [this.1]; rfl, this.2⟩
structure Und (N : Nat) (w0 w : World) (b : Nat) (hs cs ds ts : Value) (H : List Hd) (C : List Cl) (E : List Dd) (T : List Int) (D : List Value) : Prop where
 row : w.rangeAt b 0 D
 th : w.there b 0 14
 lo : N <= b
 hi : b < w.heap.size
 h : w.ownsRow N 32 22 hs H.length (qzn hdC H)
 c : w.ownsRow N 182 10 cs C.length (qzn clC C)
 d : w.ownsRow N 43 5 ds E.length (qzn ddC E)
 t : w.ownsRow N 2 1 ts T.length (qzn intC T)
 nh : ∀ q, hs.ownBlock = some q -> q ≠ b
 nc : ∀ q, cs.ownBlock = some q -> q ≠ b
 nd : ∀ q, ds.ownBlock = some q -> q ≠ b
 nt : ∀ q, ts.ownBlock = some q -> q ≠ b
 bel : Below N w0 w
section
variable {N : Nat} {w0 w w' : World} {b : Nat} {hs cs ds ts : Value} {H : List Hd} {C : List Cl} {E : List Dd} {T : List Int} {D : List Value}
theorem Und.below (S : Und N w0 w b hs cs ds ts H C E T D) (hb : Below w.heap.size w w') (hN : N <= w.heap.size) : Und N w0 w' b hs cs ds ts H C E T D :=
 ⟨qz0 S.row hb S.hi, qz2 S.th hb S.hi, S.lo, Nat.lt_of_lt_of_le S.hi hb.size, qz1p S.h hb, qz1p S.c hb, qz1p S.d hb, qz1p S.t hb, S.nh, S.nc, S.nd, S.nt, S.bel.trans (hb.mono hN)⟩
theorem Und.at_b (S : Und N w0 w b hs cs ds ts H C E T D) (k : Only b w w') {D' : List Value} (row : w'.rangeAt b 0 D') (th : w'.there b 0 14) : Und N w0 w' b hs cs ds ts H C E T D' :=
 ⟨row, th, S.lo, Nat.lt_of_lt_of_le S.hi k.size, qzw S.h k S.nh, qzw S.c k S.nc, qzw S.d k S.nd, qzw S.t k S.nt, S.nh, S.nc, S.nd, S.nt, S.bel.trans (k.below S.lo (Nat.le_trans S.lo (Nat.le_of_lt S.hi)))⟩
theorem Und.put (S : Und N w0 w b hs cs ds ts H C E T D) (k : Nat) (hk : k < D.length) (v : Value) : Und N w0 (w.setCell ⟨b, k, none⟩ v) b hs cs ds ts H C E T (D.set k v) :=
 S.at_b ((Only.refl b w).setCell (p := ⟨b, k, none⟩) (Or.inl rfl) v) (qzc S.row k hk v) (qz5 S.th _ _)
theorem Und.puts (S : Und N w0 w b hs cs ds ts H C E T D) (p q t vs : List Value) (hD : D = p ++ (q ++ t)) (hl : vs.length = q.length) (h14 : D.length = 14) : Und N w0 (w.setCells b p.length vs) b hs cs ds ts H C E T (p ++ (vs ++ t)) := by
 subst hD
 have hp : p.length + q.length <= 14 := by simp only [List.length_append] at h14; omega
 have Th := qz1b S.th p.length q.length hp
 rw [Nat.zero_add, <- hl] at Th
 refine S.at_b (qzj b vs p.length w) ?_ (World.there_setCells S.th _ _ _)
 obtain ⟨R1, R2⟩ := qz2m S.row
 obtain ⟨R3, R4⟩ := qz2m R2
 rw [Nat.zero_add] at R2 R3 R4
 refine qz3o (World.rangeAt_setCells_apart R1 _ _ _ (Or.inr (Or.inl (by simp)))) (qz3o ?_ ?_)
 ·rw [Nat.zero_add]; exact World.rangeAt_setCells_same w b p.length vs Th
 ·rw [Nat.zero_add, hl]; exact World.rangeAt_setCells_apart R4 _ _ _ (Or.inr (Or.inr (by rw [hl]; exact Nat.le_refl _)))
theorem Und.cell (S : Und N w0 w b hs cs ds ts H C E T D) (k : Nat) {v : Value} (h : D[k]? = some v) : w.cell? ⟨b, k, none⟩ = some v := by
 have := S.row k v h
 rwa [Nat.zero_add] at this
theorem Und.free (S : Und N w0 w b hs cs ds ts H C E T D) (k : Nat) (hk : k < 14) : w.frozen? ⟨b, k, none⟩ = false := by
 have := (S.th k hk).2
 rwa [Nat.zero_add] at this
theorem qz4z : (32 : TypeId) ≠ 182 /\ (32 : TypeId) ≠ 43 /\ (32 : TypeId) ≠ 2 /\ (182 : TypeId) ≠ 43 /\ (182 : TypeId) ≠ 2 /\ (43 : TypeId) ≠ 2 := by decide
theorem Und.hand {g cap : Nat} (S : Und N w0 w b (.slice (some ⟨g, 0, none⟩) H.length cap) cs ds ts H C E T D) (k : Nat) (hk : k < H.length) (h' : Hd) : Und N w0 (w.setCells g (k * 22) (hdC h')) b (.slice (some ⟨g, 0, none⟩) H.length cap) cs ds ts (H.set k h') C E T D := by
 obtain ⟨t1, t2, t3, t4, t5, t6⟩ := qz4z
 have hO : Only g w (w.setCells g (k * 22) (hdC h')) := qzj g _ _ w
 have hg : N <= g := qz1l S.h rfl
 have hB : But (fun q => q = g) w (w.setCells g (k * 22) (hdC h')) := But.of_only hO rfl
 have hne : b ≠ g := fun e => S.nh g rfl e.symm
 refine ⟨hB.range S.row S.hi hne, hB.there S.th S.hi hne, S.lo, Nat.lt_of_lt_of_le S.hi hO.size, ?_, qzw S.c hO (fun j e h => qz32 S.c S.h (Ne.symm t1) j e (by rw [h]; rfl)), qzw S.d hO (fun j e h => qz32 S.d S.h (Ne.symm t2) j e (by rw [h]; rfl)), qzw S.t hO (fun j e h => qz32 S.t S.h (Ne.symm t3) j e (by rw [h]; rfl)), S.nh, S.nc, S.nd, S.nt, S.bel.trans (hO.below hg (Nat.le_trans S.lo (Nat.le_of_lt S.hi)))⟩
 have := qze4 (f := hdC) (sz := 22) (fun _ => rfl) S.h k hk h'
 simpa using this
theorem Und.grow_c {cs' : Value} {C' : List Cl} (S : Und N w0 w b hs cs ds ts H C E T D) (hown : w'.ownsRow N 182 10 cs' C'.length (qzn clC C')) (hB : But (fun q => cs.ownBlock = some q) w w') (hat : cs'.ownBlock = cs.ownBlock ∨ cs'.ownBlock = some w.heap.size) : Und N w0 w' b hs cs' ds ts H C' E T D := by
 obtain ⟨t1, t2, t3, t4, t5, t6⟩ := qz4z
 have hne : ¬ cs.ownBlock = some b := fun e => S.nc b e rfl
 refine ⟨hB.range S.row S.hi hne, hB.there S.th S.hi hne, S.lo, Nat.lt_of_lt_of_le S.hi hB.size, qz21 S.h hB (fun j e h => qz32 S.h S.c t1 j e h), hown, qz21 S.d hB (fun j e h => qz32 S.d S.c (Ne.symm t4) j e h), qz21 S.t hB (fun j e h => qz32 S.t S.c (Ne.symm t5) j e h), S.nh, fun q e => ?_, S.nd, S.nt, S.bel.trans (hB.below (Nat.le_trans S.lo (Nat.le_of_lt S.hi)) (fun q e => qz1l S.c e))⟩
 rcases hat with h | h
 ·rw [h] at e; exact S.nc q e
 ·rw [h] at e; cases e; have := S.hi; omega
theorem Und.grow_d {ds' : Value} {E' : List Dd} (S : Und N w0 w b hs cs ds ts H C E T D) (hown : w'.ownsRow N 43 5 ds' E'.length (qzn ddC E')) (hB : But (fun q => ds.ownBlock = some q) w w') (hat : ds'.ownBlock = ds.ownBlock ∨ ds'.ownBlock = some w.heap.size) : Und N w0 w' b hs cs ds' ts H C E' T D := by
 obtain ⟨t1, t2, t3, t4, t5, t6⟩ := qz4z
 have hne : ¬ ds.ownBlock = some b := fun e => S.nd b e rfl
 refine ⟨hB.range S.row S.hi hne, hB.there S.th S.hi hne, S.lo, Nat.lt_of_lt_of_le S.hi hB.size, qz21 S.h hB (fun j e h => qz32 S.h S.d t2 j e h), qz21 S.c hB (fun j e h => qz32 S.c S.d t4 j e h), hown, qz21 S.t hB (fun j e h => qz32 S.t S.d (Ne.symm t6) j e h), S.nh, S.nc, fun q e => ?_, S.nt, S.bel.trans (hB.below (Nat.le_trans S.lo (Nat.le_of_lt S.hi)) (fun q e => qz1l S.d e))⟩
 rcases hat with h | h
 ·rw [h] at e; exact S.nd q e
 ·rw [h] at e; cases e; have := S.hi; omega
theorem Und.grow_t {ts' : Value} {T' : List Int} (S : Und N w0 w b hs cs ds ts H C E T D) (hown : w'.ownsRow N 2 1 ts' T'.length (qzn intC T')) (hB : But (fun q => ts.ownBlock = some q) w w') (hat : ts'.ownBlock = ts.ownBlock ∨ ts'.ownBlock = some w.heap.size) : Und N w0 w' b hs cs ds ts' H C E T' D := by
 obtain ⟨t1, t2, t3, t4, t5, t6⟩ := qz4z
 have hne : ¬ ts.ownBlock = some b := fun e => S.nt b e rfl
 refine ⟨hB.range S.row S.hi hne, hB.there S.th S.hi hne, S.lo, Nat.lt_of_lt_of_le S.hi hB.size, qz21 S.h hB (fun j e h => qz32 S.h S.t t3 j e h), qz21 S.c hB (fun j e h => qz32 S.c S.t t5 j e h), qz21 S.d hB (fun j e h => qz32 S.d S.t t6 j e h), hown, S.nh, S.nc, S.nd, fun q e => ?_, S.bel.trans (hB.below (Nat.le_trans S.lo (Nat.le_of_lt S.hi)) (fun q e => qz1l S.t e))⟩
 rcases hat with h | h
 ·rw [h] at e; exact S.nt q e
 ·rw [h] at e; cases e; have := S.hi; omega
end
end
section
def onAt (L : Nat -> Bool) (i : Nat) : Nat -> Bool := fun j => if j = i then true else L j
theorem qzar {P : Program} {l : List Oper} {Q : Exit -> Act -> World -> Prop} {id : Nat} {a0 : Act} {w0 : World} (k : Nat) (hm : P.follows .mixedOrders = true)
  (G : (Nat -> Bool) -> Nat -> Value -> World -> Prop) (hT : qzdr l.toArray k (l.length - k) = true) (hL : qzei l.toArray = true) (hBk : qzfk l.toArray = true) (hg : (l.take k).all (fun o => o.guard.isNone) = true)
  (hdst0 : dstB l.toArray a0.tmps.size = true)
  (step : ∀ (i : Nat) (o : Oper), i < k -> l[i]? = some o -> ∀ (L : Nat -> Bool) (a : Act) (w : World), L i = false -> (∀ j, L j = true -> j < k) -> Below w0.heap.size w0 w -> (∀ t, qz9e l.toArray t = true -> a.eval (.tmp t) = a0.tmps.getD t undef) ->
   (∀ e ∈ o.after, Region.binds .any e = true -> ∀ d, qz3u l.toArray e.on = some d -> L e.on = true /\ G L e.on (a.eval (.tmp d)) w) ->
   ∀ K : Act -> World -> Prop, (∀ v w', G (onAt L i) i v w' -> Below w0.heap.size w0 w' -> (∀ j v', j ≠ i -> L j = true -> G L j v' w -> G (onAt L i) j v' w') -> K (a.put o.dst v) w') -> o.wp P a w K Q)
  (final : ∀ (L : Nat -> Bool) vs w', (∀ i, i < k -> L i = true) -> Below w0.heap.size w0 w' -> (∀ i, i < k -> G L i (vs i) w') ->
   wpList P l.toArray Q (l.drop k) (laid l.toArray vs Q1k (List.range l.toArray.size) a0) w') :
  (Code.region id l.toArray true).wp P Q a0 w0 := by
 have hdst := qzck hdst0
 have L := qz8o hL
 have hBack : ∀ i, i < k -> ∀ o, l.toArray[i]? = some o -> ∀ e ∈ o.after, e.on < i := fun i _ o ho => qze0 hBk i o ho
 simp only [qzdr, Bool.and_eq_true, beq_iff_eq] at hT
 obtain ⟨⟨hkm, hw⟩, hseq⟩ := hT
 have hsl : l.toArray.size = l.length := by simp
 have hkl : k <= l.length := by omega
 refine wp_region_any hm ?_
 have key : ∀ (c : Nat) (listed : Array Bool) (vs : Nat -> Value) (w : World), qz5g listed <= c + (l.length - k) -> listed.size = l.toArray.size -> qz4y .any l.toArray listed -> (∀ j, k <= j -> listed.getD j false = false) -> Below w0.heap.size w0 w ->
   (∀ i, i < l.toArray.size -> listed.getD i false = true -> G (fun j => listed.getD j false) i (vs i) w) ->
   wpAny P .any l.toArray Q (c + (l.length - k)) listed (laid l.toArray vs listed (List.range l.toArray.size) a0) w := by
  intro c
  induction c with
  | zero =>
   intro listed vs w hf hs hc htail hb hG
   by_cases hall : ∀ i, i < k -> listed.getD i false = true
   ·have he : listed = qz3s k 0 (Array.replicate l.toArray.size false) := by
     apply Array.ext
     ·rw [qz2l, hs]; simp
     ·intro i h1 h2
      have g := qz33 k 0 (Array.replicate l.toArray.size false) i (by simp; omega)
      have g1 : Q1k[i] = (Q1k).getD i false := qz41 _ _ h2
      have g2 : listed[i] = listed.getD i false := by simp [h1]
      rw [g1, g2, g]
      by_cases c : i < k
      ·rw [if_pos (by omega), hall i c]
      ·have hio : i < l.length := by omega
       rw [if_neg (by omega), htail i (by omega)]
       simp [hio]
    have hfin := final (fun j => listed.getD j false) vs w hall hb (fun i hi => hG i (by omega) (hall i hi))
    rw [<- he] at hfin
    have := qz1u (P := P) (md := .any) (Q := Q) 0 (l.drop k) k listed _ w (fun j => by simp) (by rw [he]; simpa using hseq) hfin
    simpa using this
   ·exfalso
    simp only [Classical.not_forall] at hall
    obtain ⟨i, hi, hu⟩ := hall
    have := qz4m (m := l.length - k) (by omega) htail hi (by simpa using hu)
    omega
  | succ c ih =>
   intro listed vs w hf hs hc htail hb hG
   by_cases hall : ∀ i, i < k -> listed.getD i false = true
   ·have he : listed = qz3s k 0 (Array.replicate l.toArray.size false) := by
     apply Array.ext
     ·rw [qz2l, hs]; simp
     ·intro i h1 h2
      have g := qz33 k 0 (Array.replicate l.toArray.size false) i (by simp; omega)
      have g1 : Q1k[i] = (Q1k).getD i false := qz41 _ _ h2
      have g2 : listed[i] = listed.getD i false := by simp [h1]
      rw [g1, g2, g]
      by_cases c : i < k
      ·rw [if_pos (by omega), hall i c]
      ·have hio : i < l.length := by omega
       rw [if_neg (by omega), htail i (by omega)]
       simp [hio]
    have hfin := final (fun j => listed.getD j false) vs w hall hb (fun i hi => hG i (by omega) (hall i hi))
    rw [<- he] at hfin
    have := qz1u (P := P) (md := .any) (Q := Q) (c + 1) (l.drop k) k listed _ w (fun j => by simp) (by rw [he]; simpa using hseq) hfin
    rw [show c + 1 + (l.length - k) = (l.drop k).length + (c + 1) by simp; omega]
    exact this
   simp only [Classical.not_forall] at hall
   obtain ⟨i1, hi1, hu1⟩ := hall
   have hu1' : listed.getD i1 false = false := by simpa using hu1
   have hu1'' : listed.getD i1 true = false := by
    have : i1 < listed.size := by omega
    simpa [this] using hu1'
   have hex : ∃ i, i < k /\ i ∈ Region.ready .any l.toArray listed := by
    apply Classical.byContradiction
    intro hno
    have : ∀ n i, i < n -> i < k -> listed.getD i false = true := by
     intro n
     induction n with
     | zero => intro i hi; omega
     | succ n ihn =>
      intro i hi hik
      rcases Nat.lt_or_ge i n with h | h
      ·exact ihn i h hik
      ·have hin : i = n := by omega
       subst hin
       cases hq : listed.getD i false with
       | true => rfl
       | false =>
        exfalso
        apply hno
        refine ⟨i, hik, mem_ready.2 ⟨?_, ?_⟩⟩
        ·have : i < listed.size := by omega
         simpa [this] using hq
        ·have hil : i < l.toArray.size := by omega
         refine ⟨l.toArray[i], by simp, fun e he hbd => ?_⟩
         exact ihn e.on (hBack i hik _ (by simp) e he) (Nat.lt_trans (hBack i hik _ (by simp) e he) hik)
    have h9 := this (i1 + 1) i1 (by omega) hi1
    rw [hu1'] at h9
    cases h9
   rw [show c + 1 + (l.length - k) = (c + (l.length - k)) + 1 by omega]
   obtain ⟨i0, hi0, hr0⟩ := hex
   refine ⟨fun h0 => (by rw [h0] at hr0; cases hr0), ?_⟩
   intro i hi
   have hik := qz3n hw hc hi1 hu1'' hi
   obtain ⟨h0, o, ho, hall⟩ := mem_ready.1 hi
   have hi' : i < l.toArray.size := (Array.getElem?_eq_some_iff.1 ho).1
   have hlt : i < listed.size := by omega
   have h1 : listed.getD i false = false := by simpa [hlt] using h0
   have ho' : l[i]? = some o := by simpa using ho
   have hguard : o.guard = none := by
    have := (List.all_eq_true.1 hg) o (List.mem_of_getElem? (i := i) (by rw [List.getElem?_take]; simp [hik, ho']))
    simpa using this
   have hnd : (List.range l.toArray.size).Nodup := List.nodup_range
   have hlt' : ∀ e ∈ o.after, Region.binds .any e = true -> ∀ d, qz3u l.toArray e.on = some d -> e.on < l.toArray.size /\ listed.getD e.on false = true /\ (laid l.toArray vs listed (List.range l.toArray.size) a0).eval (.tmp d) = vs e.on := by
    intro e he hbd d hd
    have hel := hall e he hbd
    have hes : e.on < l.toArray.size := by
     rcases Nat.lt_or_ge e.on l.toArray.size with h | h
     ·exact h
     ·simp only [qz3u, Array.getElem?_eq_none h] at hd
      cases hd
    exact ⟨hes, hel, qz5b L vs listed e.on d hd hel _ _ hnd (List.mem_range.2 hes) (hdst _ _ hd)⟩
   have hstep := step i o hik ho' (fun j => listed.getD j false) (laid l.toArray vs listed (List.range l.toArray.size) a0) w h1 (fun j hj => by
     rcases Nat.lt_or_ge j k with h | h
     ·exact h
     ·have := htail j h; rw [this] at hj; cases hj) hb
    (fun t ht => qz3a l.toArray vs listed t _ _ (fun k _ => qz6w ht k))
    (fun e he hbd d hd => by
     obtain ⟨h2, h3, h4⟩ := hlt' e he hbd d hd
     rw [h4]
     exact ⟨h3, hG e.on h2 h3⟩)
   have hwn : Region.wanted o (yielded l.toArray (laid l.toArray vs listed (List.range l.toArray.size) a0).tmps) = true := by simp [Region.wanted, hguard]
   unfold wpOp
   simp only [ho, hwn, if_true]
   refine Or.inl (hstep _ ?_)
   intro v w' hGi hb' hkp
   have hLn : (fun j => (listed.setIfInBounds i true).getD j false) = onAt (fun j => listed.getD j false) i := by
    funext j
    unfold onAt
    by_cases hji : j = i
    ·subst hji
     rw [if_pos rfl]
     simp [hlt]
    ·rw [if_neg hji]
     exact getD_set_ne false (Ne.symm hji)
   have hd' : o.dst = qz3u l.toArray i := by simp only [qz3u, ho, Option.bind_some]
   rw [hd', qz5e L vs listed i v hlt h1 _ _ hnd (List.mem_range.2 hi')]
   have hsz := hb.size
   refine ih _ _ _ (by have := qz4p hlt h1; omega) (by simpa using hs) (hc.set hi) (fun j hj => by rw [getD_set_ne false (by omega)]; exact htail j hj) hb' ?_
   intro j hj hjl
   rw [hLn]
   by_cases hji : j = i
   ·subst hji
    simp only [upd, if_true]
    exact hGi
   ·rw [getD_set_ne false (Ne.symm hji)] at hjl
    simp only [upd, hji, if_false]
    exact hkp j _ hji hjl (hG j hj hjl)
 have hgf : ∀ i, (Array.replicate l.toArray.size false).getD i false = false := by
  intro i
  rcases Nat.lt_or_ge i l.toArray.size with h | h
  ·simp at h; simp [h]
  ·simp at h; simp [h]
 have h0 : laid l.toArray (fun _ => undef) (Array.replicate l.toArray.size false) (List.range l.toArray.size) a0 = a0 := by
  have : ∀ (q : List Nat) (a : Act), laid l.toArray (fun _ => undef) (Array.replicate l.toArray.size false) q a = a := by
   intro q
   induction q with
   | nil => intro a; rfl
   | cons i q ih =>
    intro a
    simp only [laid]
    rw [hgf i]
    simpa using ih a
  exact this _ _
 have hk := key k (Array.replicate l.toArray.size false) (fun _ => undef) { w0 with drawn := w0.drawn + 1 } (by unfold qz5g; simp; omega) (by simp) (fun j o _ hj => by rw [hgf j] at hj; cases hj) (fun j _ => hgf j) ⟨rfl, rfl, rfl, Nat.le_refl _, fun _ _ => rfl⟩ (fun i hi h => by rw [hgf i] at h; cases h)
 rw [h0, show k + (l.length - k) = l.toArray.size by simp; omega] at hk
 exact hk
end
section
section
variable {P : Program}
def upTo (ops : Array Oper) (m : Nat) : Array Bool := qz3s m 0 (Array.replicate ops.size false)
theorem qza2 : ∀ (f k : Nat) (l : Array Bool), (qz3s f k l).setIfInBounds (k + f) true = qz3s (f + 1) k l
 | 0, k, l => by simp [qz3s]
 | f + 1, k, l => by
  rw [qz3s, show k + (f + 1) = (k + 1) + f by omega, qza2 f (k + 1)]
  rfl
theorem qz7y (ops : Array Oper) (m : Nat) : (upTo ops m).setIfInBounds m true = upTo ops (m + 1) := by
 have := qza2 m 0 (Array.replicate ops.size false)
 rw [Nat.zero_add] at this
 exact this
def qzf5 (ops : Array Oper) (k : Nat) : Bool :=
 decide (k + 4 <= ops.size) && Region.noSelect ops && qzez .any ops k 0 (Array.replicate ops.size false) && qz9o .any ops k &&
  (Region.ready .any ops (upTo ops k) == [k]) && (Region.ready .any ops (upTo ops (k + 1)) == [k + 1]) &&
  ((Region.ready .any ops (upTo ops (k + 2))).contains (k + 2) && Region.free .any ops (upTo ops (k + 2)) (k + 2)) &&
  ((Region.ready .any ops (upTo ops (k + 3))).contains (k + 3) && Region.free .any ops (upTo ops (k + 3)) (k + 3)) &&
  qz4w .any ops (ops.size - (k + 4)) (k + 4) (upTo ops (k + 4))
theorem qz6e (v : Value) (ix : Nat) (v1 v2 : Value) (hv : v = .tuple #[v1, v2]) (o : Oper) (ev : Operand -> Value) (x : Operand) (ho : o.op = .extract x ix) (hx : ev x = v) (hi : ix < 2) (w : World) : (execOp ev o).run P w = .ok (.value (if ix = 0 then v1 else v2)) w := by
 subst hv
 rcases (show ix = 0 ∨ ix = 1 by omega) with rfl | rfl <;> simp [execOp, ho, hx, go_sem]
theorem qzed (o : Oper) (ev : Operand -> Value) (x : Operand) (ho : o.op = .move x) (w : World) : (execOp ev o).run P w = .ok (.value (ev x)) w := by
 simp [execOp, ho, go_sem]
end
theorem qz55 {P : Program} {id : Nat} {Q : Exit -> Act -> World -> Prop} {a : Act} {w : World} {l : List Oper} (k : Nat) (hm : P.follows .mixedOrders = true) (hB : qzf5 l.toArray k = true)
  (o0 o1 o2 o3 : Oper) (h0 : l[k]? = some o0) (h1 : l[k + 1]? = some o1) (h2 : l[k + 2]? = some o2) (h3 : l[k + 3]? = some o3) (d0 d1 : Tmp) (d2 d3 : Option Tmp)
  (e0 : o0.dst = some d0) (e1 : o1.dst = some d1) (e2 : o2.dst = d2) (e3 : o3.dst = d3) (g0 : o0.guard = none) (g1 : o1.guard = none) (g2 : o2.guard = none) (g3 : o3.guard = none)
  (p1 : o1.op = .move (.tmp d0)) (p2 : o2.op = .extract (.tmp d1) 0) (p3 : o3.op = .extract (.tmp d1) 1) (hd2 : d2 ≠ some d1)
  (hQ2 : ∀ c (a : Act) v w, Q (.panic c) (a.put d2 v) w -> Q (.panic c) a w) (hQ3 : ∀ c (a : Act) v w, Q (.panic c) (a.put d3 v) w -> Q (.panic c) a w)
  (h : wpQuiet P l.toArray (fun w' => ∃ n, w' = w.drewN n) (fun a' => ∀ w', (∃ n, w' = w.drewN n) -> d0 < a'.tmps.size /\ d1 < a'.tmps.size /\ ∃ f args, (execOp a'.eval o0).run P w' = .ok (.enter f args) w' /\
   Calls P f args w' fun e w'' => ∃ v1 v2, e = .returned (.tuple #[v1, v2]) /\ wpList P l.toArray Q (l.drop (k + 4)) ((((a'.put (some d0) (.tuple #[v1, v2])).put (some d1) (.tuple #[v1, v2])).put d2 v1).put d3 v2) w'') (l.take k) a) : (Code.region id l.toArray true).wp P Q a w := by
 simp only [qzf5, Bool.and_eq_true, decide_eq_true_eq, beq_iff_eq] at hB
 obtain ⟨⟨⟨⟨⟨⟨⟨⟨hk4, hs⟩, hlex⟩, hw⟩, r0⟩, r1⟩, r2⟩, r3⟩, hseq⟩ := hB
 have hsz : l.toArray.size = l.length := by simp
 rw [hsz] at hk4
 refine wp_region_any hm ?_
 have hc0 : qz4y .any l.toArray (Array.replicate l.toArray.size false) := by
  intro j o ho hj
  exfalso
  rcases Nat.lt_or_ge j l.toArray.size with h' | h'
  ·simp at h'; simp [h'] at hj
  ·simp at h'; simp [h'] at hj
 have hT := qz5o (P := P) (md := .any) (C := fun w' => ∃ n, w' = w.drewN n) (Q := fun a' => ∀ w', (∃ n, w' = w.drewN n) -> d0 < a'.tmps.size /\ d1 < a'.tmps.size /\ ∃ f args, (execOp a'.eval o0).run P w' = .ok (.enter f args) w' /\
   Calls P f args w' fun e w'' => ∃ v1 v2, e = .returned (.tuple #[v1, v2]) /\ wpList P l.toArray Q (l.drop (k + 4)) ((((a'.put (some d0) (.tuple #[v1, v2])).put (some d1) (.tuple #[v1, v2])).put d2 v1).put d3 v2) w'') hw hs (l.take k) 0 (Array.replicate l.toArray.size false) a (by simp; omega) (fun j hj => by simp at hj; simp [hj]) hc0 (fun i hi => by omega) (by simp; omega) (by simpa [Nat.min_eq_left (show k <= l.length by omega)] using hlex) h
 have hfin := qz5n (P := P) (md := .any) (Q' := Q) (m := l.length - k) hw (by rw [hsz]; omega) (fun a' w' hC hq => by
  obtain ⟨s0, s1, f, args, hrun, hcall⟩ := hq w' hC
  rw [show l.length - k = ((((l.length - (k + 4)) + 1) + 1) + 1) + 1 by omega]
  have hwant : ∀ (o : Oper) (b : Act), o.guard = none -> Region.wanted o (yielded l.toArray b.tmps) = true := fun o b hg => by simp [Region.wanted, hg]
  refine wpAny_all (rs := [k]) r0 (by simp) (fun i hi => ?_)
  obtain rfl := List.mem_singleton.1 hi
  have h0' : l.toArray[i]? = some o0 := by simpa using h0
  unfold wpOp
  simp only [h0', hwant o0 a' g0, if_true]
  refine Or.inl ?_
  unfold Oper.wp
  rw [hrun]
  simp only [Oper.upon]
  refine hcall.mono ?_
  rintro e w2 ⟨v1, v2, rfl, hrest⟩
  show wpAny P .any l.toArray Q _ ((upTo l.toArray i).setIfInBounds i true) _ _
  rw [qz7y, e0]
  refine wpAny_all (rs := [i + 1]) r1 (by simp) (fun j hj => ?_)
  obtain rfl := List.mem_singleton.1 hj
  have h1' : l.toArray[i + 1]? = some o1 := by simpa using h1
  unfold wpOp
  simp only [h1', hwant o1 _ g1, if_true]
  refine Or.inl ?_
  unfold Oper.wp
  rw [qzed o1 _ _ p1]
  simp only [Oper.upon]
  rw [qz7y, e1]
  have ev0 : (a'.put (some d0) (.tuple #[v1, v2])).eval (.tmp d0) = .tuple #[v1, v2] := qzcc _ _ _ s0
  rw [ev0]
  have ev1 : ((a'.put (some d0) (.tuple #[v1, v2])).put (some d1) (.tuple #[v1, v2])).eval (.tmp d1) = .tuple #[v1, v2] := qzcc _ _ _ (by rw [qzcd]; exact s1)
  have h2' : l.toArray[i + 2]? = some o2 := by simpa using h2
  have h3' : l.toArray[i + 3]? = some o3 := by simpa using h3
  refine wpAny_take (i := i + 2) (v := v1) h2' hs r2.2 r2.1 (fun c a w hh => hQ2 c a _ w (e2 ▸ hh)) (Or.inl ⟨hwant o2 _ g2, fun w => ?_⟩) ?_
  ·exact qz6e _ 0 v1 v2 rfl o2 _ _ p2 ev1 (by omega) w
  rw [qz7y, e2]
  have ev2 : (((a'.put (some d0) (.tuple #[v1, v2])).put (some d1) (.tuple #[v1, v2])).put d2 v1).eval (.tmp d1) = .tuple #[v1, v2] := (qz8v _ _ _ _ hd2).trans ev1
  refine wpAny_take (i := i + 3) (v := v2) h3' hs r3.2 r3.1 (fun c a w hh => hQ3 c a _ w (e3 ▸ hh)) (Or.inl ⟨hwant o3 _ g3, fun w => ?_⟩) ?_
  ·exact qz6e _ 1 v1 v2 rfl o3 _ _ p3 ev2 (by omega) w
  rw [qz7y, e3]
  have := qz66 (P := P) (md := .any) (Q := Q) (l.drop (i + 4)) (i + 4) (upTo l.toArray (i + 4)) _ w2 (fun j => by simp) (by simpa using hseq) hrest
  simpa using this) (l.take k).length (Array.replicate l.toArray.size false) a { w with drawn := w.drawn + 1 } ⟨1, rfl⟩ hc0 (by simp) (fun j _ => by
   rcases Nat.lt_or_ge j l.toArray.size with h' | h'
   ·simp at h'; simp [h']
   ·simp at h'; simp [h']) hT
 rw [show (l.take k).length + (l.length - k) = l.toArray.size by simp; omega] at hfin
 exact hfin
end
end Go.Proofs.YtclkglkhhnapiaaGreat
