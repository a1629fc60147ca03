/-
  What the law's proof goes by, part 7.
-/
import Derived.Deep.AppendLies
import Derived.Deep.Cut
import Derived.Test.YthjkdnlmopafkaaGreatDoorFnSwappedCard00
import Derived.Test.YthjkdnlmopafkaaGreatDoorFnSwappedCard01
import Derived.Test.YthjkdnlmopafkaaGreatDoorFnSwappedCard04
import Derived.Test.YthjkdnlmopafkaaGreatDoorFnSwappedCard05
namespace Go.Proofs.YthjkdnlmopafkaaGreatDoor
open Go.ChangeShapes Go.WideShapes Go.ChangeAt Go.RowKit
set_option maxRecDepth 100000
set_option maxHeartbeats 16000000
set_option linter.unusedVariables false
set_option linter.unusedSimpArgs false
set_option linter.unnecessarySimpa false
set_option linter.unusedSectionVars false
section
attribute [local go_sem ↓] Go.wp_at_zero Go.wp_at_succ
theorem qz58 {w : World} {base : Nat} {e : TypeId} {sz : Nat} {g n cap : Nat} {xs : List Value} (h : w.ownsRow base e sz Q41 n xs) (k : Nat) (hk : k < n * sz) (u : Value) : (w.setCell ⟨g, k, none⟩ u).ownsRow base e sz Q41 n (xs.set k u) := by
 refine ⟨by rw [List.length_set]; exact h.1, ?_⟩
 rcases h.2 with ⟨h0, _⟩ | ⟨g', cap', cur, e1, hg, hh, hnc, hcm, hs, ht⟩
 ·cases h0
 ·cases e1
  obtain ⟨hlt, hk'⟩ := Array.getElem?_eq_some_iff.1 hh
  refine Or.inr ⟨g, cap, cur.setIfInBounds k u, rfl, hg, ?_, hnc, hcm, by simpa using hs, ?_⟩
  ·show (w.heap.modify g _)[g]? = _
   rw [Array.getElem?_eq_getElem (by rw [Array.size_modify]; exact hlt), Array.getElem_modify_self, hk']
   rfl
  ·rw [Array.toList_setIfInBounds, <- ht, List.take_set]
theorem qz23 {w : World} {base : Nat} {e : TypeId} {sz : Nat} {g n cap : Nat} {xs : List Value} (h : w.ownsRow base e sz Q41 n xs) (k : Nat) (u : Value) (hu : xs[k]? = some u) : w.cell? ⟨g, k, none⟩ = some u /\ w.frozen? ⟨g, k, none⟩ = false := by
 rcases h.2 with ⟨h0, _⟩ | ⟨g', cap', cur, e1, hg, hh, hnc, hcm, hs, ht⟩
 ·cases h0
 ·cases e1
  have hk : k < xs.length := by
   rcases Nat.lt_or_ge k xs.length with h' | h'
   ·exact h'
   ·rw [List.getElem?_eq_none h'] at hu; cases hu
  have h1 : cur.toList[k]? = some u := by
   rw [<- ht] at hu
   rw [List.getElem?_take] at hu
   split at hu
   ·exact hu
   ·cases hu
  constructor
  ·simp only [World.cell?, hh]
   simpa using h1
  ·simp [World.frozen?, hh]
theorem qz2u {α : Type} {f : α -> List Value} {sz : Nat} (hf : ∀ x, (f x).length = sz) : ∀ (l : List α) (i : Nat) (hi : i < l.length) (j : Nat) (hj : j < sz) (y : α) (u : Value), f y = (f l[i]).set j u -> qz8 f (l.set i y) = (qz8 f l).set (i * sz + j) u
 | x :: l, 0, _, j, hj, y, u, h => by
  simp only [List.set_cons_zero, qz8, List.flatMap_cons, Nat.zero_mul, Nat.zero_add]
  rw [List.set_append_left _ _ (by rw [hf]; exact hj)]
  simp only [List.getElem_cons_zero] at h
  rw [h]
 | x :: l, i + 1, hi, j, hj, y, u, h => by
  have ih := qz2u hf l i (by simpa using hi) j hj y u (by simpa using h)
  simp only [List.set_cons_succ, qz8, List.flatMap_cons] at ih ⊢
  rw [ih, List.set_append_right _ _ (by rw [hf, Nat.add_mul]; omega), hf]
  congr 2
  rw [Nat.add_mul]
  omega
def OwnB (s g n r : Value) (q : Nat) : Prop := s.ownBlock = some q ∨ g.ownBlock = some q ∨ n.ownBlock = some q ∨ r.ownBlock = some q
theorem qz2b {w : World} {base base' : Nat} {e e' : TypeId} {sz sz' : Nat} {v v' : Value} {n n' : Nat} {xs xs' : List Value} (h : w.ownsRow base e sz v n xs) (h' : w.ownsRow base' e' sz' v' n' xs') (hne : e ≠ e') (b : Nat) (hb : v.ownBlock = some b) : v'.ownBlock ≠ some b := by
 intro hb'
 rcases h.2 with ⟨rfl, _⟩ | ⟨g, cap, cur, rfl, _, hh, _⟩
 ·cases hb
 ·rcases h'.2 with ⟨rfl, _⟩ | ⟨g', cap', cur', rfl, _, hh', _⟩
  ·cases hb'
  ·simp [Value.ownBlock] at hb hb'
   subst hb
   subst hb'
   rw [hh] at hh'
   simp at hh'
   exact hne hh'.2
theorem qz1x {w w' : World} {S : Nat -> Prop} {base : Nat} {e : TypeId} {sz : Nat} {v : Value} {n : Nat} {xs : List Value} (h : w.ownsRow base e sz v n xs) (hb : But S w w') (hv : ∀ j, v.ownBlock = some j -> ¬ S j) : w'.ownsRow base e sz v n xs := by
 have hlt := fun j e => qz2d h (j := j) e
 refine ⟨h.1, ?_⟩
 rcases h.2 with h0 | ⟨g, cap, cur, rfl, hg, hh, rest⟩
 ·exact Or.inl h0
 ·exact Or.inr ⟨g, cap, cur, rfl, hg, (hb.block g (hlt g rfl) (hv g rfl)).trans hh, rest⟩
theorem qz1t.lt {base : Nat} {w : World} {s g n r : Value} {A : Ar} (O : qz1t base w s g n r A) (q : Nat) (h : OwnB s g n r q) : q < Q6o := by
 rcases h with h | h | h | h
 ·exact qz2d O.rs h
 ·exact qz2d O.rg h
 ·exact qz2d O.rn h
 ·exact qz2d O.rr h
theorem qz1t.kept {base : Nat} {w w' : World} {S : Nat -> Prop} {s g n r : Value} {A : Ar} (O : qz1t base w s g n r A) (hb : But S w w') (hv : ∀ q, OwnB s g n r q -> ¬ S q) : qz1t base w' s g n r A :=
 ⟨qz1x O.rs hb (fun j e => hv j (Or.inl e)), qz1x O.rg hb (fun j e => hv j (Or.inr (Or.inl e))), qz1x O.rn hb (fun j e => hv j (Or.inr (Or.inr (Or.inl e)))), qz1x O.rr hb (fun j e => hv j (Or.inr (Or.inr (Or.inr e)))), O.ne⟩
def qz14 (z : Int) (A : Ar) (node v next : Int) (gone : Bool) (kind : Int) : Ar × Int :=
 if z <= (Q6r : Int) then (A, -2)
 else if (ndOf A node).head ≠ v then (A, -1)
 else ({ A with vers := A.vers ++ [⟨next, gone, -1, v, kind⟩], nodes := A.nodes.set node.toNat { ndOf A node with head := (Q6r : Int) } }, (Q6r : Int))
structure qz29 (base : Nat) (w w' : World) (s g n r s' g' n' r' : Value) (A : Ar) : Prop where
 own : qz1t base w' s' g' n' r' A
 but : But (OwnB s g n r) w w'
 blk : ∀ q, OwnB s' g' n' r' q -> OwnB s g n r q ∨ Q6o <= q
theorem qz5r (base : Nat) (A : Ar) (x y z u : Int) (node v next : Int) (gone : Bool) (kind : Int) (s g n r : Value) (w : World) (hbase : base <= Q6o) (hA : A.size <= 1048576) (O : qz1t base w s g n r A) (hn0 : 0 <= node) (hn1 : node < (Q6q : Int)) :
  Calls Tryz.prog 38 #[.agg Q06, .agg Q1t, .int .i64 node, .int .i64 v, .int .i64 next, .bool gone, .int .i64 kind] w fun e w' => ∃ s' g' n' r', e = .returned (.tuple #[.agg #[.int .i64 Q6w, s', g', n', r'], .int .i64 Q3z.2]) /\ qz29 base w w' s g n r s' g' n' r' Q3z.1 := by
 unfold Ar.size at hA
 have P0 := ((qz1q w x y z u 25).below ((Q6s _ _).alloc (Q6v _) (.cells Q1t 30)) (by simp)).below ((Q6s _ _).alloc (Q6v _) (.cells Q09 30)) (by simp; omega)
 have X0 := Q7b (qz6 Q44 Q2t 30) (.cells Q09 30)
 have G0 := Q7h (qzg Q44 Q1t 30 5 (by simp)) (.cells Q09 30)
 have F0 := qzg ((Q44).alloc (.cells Q1t 30)) Q09 30 5 (by decide)
 have K0 := (((Q6s Q6o w).alloc (Q6v _) (.cells Q06 25)).alloc (by simp) (.cells Q1t 30)).alloc (by simp; omega) (.cells Q09 30)
 have hz0 : Q6o + 1 + 1 < (((Q44).alloc (.cells Q1t 30)).alloc (.cells Q09 30)).heap.size := by simp
 simp only [World.size_alloc] at X0 G0 F0
 obtain ⟨sa, sc, rfl⟩ := qzf O.rs
 obtain ⟨ga, gc, rfl⟩ := qzf O.rg
 have hnp : 0 < Q6q := by omega
 obtain ⟨nb, nc, rfl⟩ := qz12 O.rn hnp
 obtain ⟨ra, rc, rfl⟩ := qzf O.rr
 have O0 := O.below K0
 obtain ⟨k, rfl⟩ : ∃ k : Nat, node = k := ⟨node.toNat, by omega⟩
 have hk : k < Q6q := by omega
 have hk' : (k : Int) < (Q6q : Int) := by omega
 have hk0 : (0 : Int) <= (k : Int) := by omega
 have hnd : ndOf A (k : Int) = A.nodes[k] := qz1l A k hk
 have hnb := qz1g O.rn (j := nb) rfl
 have hnl := qz2d O.rn (j := nb) rfl
 have c2 := qz23 O0.rn (k * 3 + 2) (.int .i64 A.nodes[k].head) (by rw [qzy (sz := 3) (fun _ => rfl) A.nodes k hk 2 (by omega)]; rfl)
 go_enter Tryz.func38, Tryz.ntmps38
 have tok : True := trivial
 go_wp2_with (clear tok; refine qz2j (((Q44).alloc (.cells Q1r 30)).alloc (.cells Q09 30)) ?_)
 generalize hw0 : ((Q44).alloc (.cells Q1r 30)).alloc (.cells Q09 30) = w0 at *
 show wpList _ _ _ _ _ w0
 clear hw0
 obtain ⟨p0, p1, p2, p3⟩ := P0
 obtain ⟨x0, x1, x2, x3, x4⟩ := row5 X0
 obtain ⟨c2, c2f⟩ := c2
 by_cases hfull : z <= (Q6r : Int)
 case pos =>
  have hv : Hid (qz14 z A (k : Int) v next gone kind = (A, -2)) := by show _ = _; simp [qz14, hfull]
  have OF := O0.kept (S := fun q => q = Q6o + 1 + 1) (But.of_only (qze (Q6o + 1 + 1) Q2a 0 w0) rfl) (fun q hq => by have := O.lt q hq; omega)
  have KF := Below.setCells (B := Q6o) (b := Q6o + 1 + 1) (by omega) Q2a 0 _ K0
  go_wp2_with (refine wpList_store_mid rfl 30 (.tmp 14) _ rfl (w.heap.size + 1 + 1) 0 Q1r ?hx ?hy ?ht (by exact qz1n) (by simp [Value.oneCell']) ?_)
  case hx => rfl
  case hy => rfl
  case ht => exact F0
  refine bodyPost_ret (v := .tuple #[.agg Q1r, .int .i64 (-2)]) ?_ rfl ⟨_, _, _, _, by rw [hv.out], by rw [hv.out]; exact ⟨OF, But.of_below KF, fun q h => Or.inl h⟩⟩
  exact qzl Tryz.results38 _ _ (Q6o + 1 + 1) 0 rfl Q2a _ (Q6u _ _ _ _ F0) Q7g rfl qz1n
 by_cases hh : A.nodes[k].head = v
 case neg =>
  have bh : (A.nodes[k].head == v) = false := by simp [hh]
  have bh' : (A.nodes[k].head != v) = true := by simp [hh]
  have hv : Hid (qz14 z A (k : Int) v next gone kind = (A, -1)) := by show _ = _; simp [qz14, hfull, hnd, hh]
  have OF := O0.kept (S := fun q => q = Q6o + 1 + 1) (But.of_only (qze (Q6o + 1 + 1) Q2a 0 w0) rfl) (fun q hq => by have := O.lt q hq; omega)
  have KF := Below.setCells (B := Q6o) (b := Q6o + 1 + 1) (by omega) Q2a 0 _ K0
  go_wp2_with (refine wpList_store_mid rfl 30 (.tmp 14) _ rfl (w.heap.size + 1 + 1) 0 Q1r ?hx2 ?hy2 ?ht2 (by exact qz1n) (by simp [Value.oneCell']) ?_)
  try (case hx2 => rfl)
  try (case hy2 => rfl)
  try (case ht2 => exact F0)
  refine bodyPost_ret (v := .tuple #[.agg Q1r, .int .i64 (-1)]) ?_ rfl ⟨_, _, _, _, by rw [hv.out], by rw [hv.out]; exact ⟨OF, But.of_below KF, fun q h => Or.inl h⟩⟩
  exact qzl Tryz.results38 _ _ (Q6o + 1 + 1) 0 rfl Q2a _ (Q6u _ _ _ _ F0) Q7g rfl qz1n
 subst hh
 have hv : Hid (qz14 z A (k : Int) A.nodes[k].head next gone kind = ({ A with vers := A.vers ++ [⟨next, gone, -1, A.nodes[k].head, kind⟩], nodes := A.nodes.set k { A.nodes[k] with head := (Q6r : Int) } }, (Q6r : Int))) := by show _ = _; simp [qz14, hfull, hnd]
 obtain ⟨i0, hi, hzr, hsz, hby⟩ := info_parts qz9i
 have f4 : w0.frozen? ⟨Q6o + 1, 4, none⟩ = false := by simpa using (G0 4 (by decide)).2
 have hrb : ∀ j, Value.ownBlock Q0h = some j -> j < Q6o := fun j e => qz2d O.rr e
 have hnr : Value.ownBlock Q0h ≠ some nb := qz2b O.rn O.rr (by decide) nb rfl
 have OR := O0.rr.alloc Q6n
 have news := qz6 w0 (vrC ⟨next, gone, -1, A.nodes[k].head, kind⟩) 40
 go_upto_region 6 with fail
 go_wp2_with (at_builtin; refine wpList_append_own_at _ rfl _ _ 28 rfl base 40 i0 _ 5 40 Tryz.underlying28 hi hzr hsz hby rfl (by decide) _ _ _ rfl OR ⟨Q73, 0, none⟩ 1 1 (vrC ⟨next, gone, -1, A.nodes[k].head, kind⟩) rfl rfl ?n1 ?n2 ?n3 ?n4 ?n5 ?_)
 case n1 => exact fun j q hq => hq
 case n2 => exact qzde _
 case n3 => unfold maxLen; omega
 case n4 => omega
 case n5 => omega
 intro r2 w1 hown hgrow _ hat
 obtain ⟨ra2, rc2, rfl⟩ := qzf hown
 have hsA : (w0.alloc Q6n).heap.size = Q73 + 1 := by simp
 have B01 : But (fun q => Value.ownBlock Q0h = some q) w0 w1 := ⟨hgrow.os, hgrow.tape, hgrow.output, Q77 (by omega) hgrow.size, fun q hq hn => (hgrow.block q (by omega) (fun e => hn e.symm)).trans (Below.heap_alloc _ _ _ hq)⟩
 have far : ∀ b o, b < Q73 -> Value.ownBlock Q0h ≠ some b -> w1.cell? ⟨b, o, none⟩ = w0.cell? ⟨b, o, none⟩ := fun b o h1 h2 => B01.cell (p := ⟨b, o, none⟩) h1 h2
 have farf : ∀ b o, b < Q73 -> Value.ownBlock Q0h ≠ some b -> w1.frozen? ⟨b, o, none⟩ = w0.frozen? ⟨b, o, none⟩ := fun b o h1 h2 => B01.frozen (p := ⟨b, o, none⟩) h1 h2
 have hr1 : Value.ownBlock Q0h ≠ some (Q6o + 1) := fun e => by have := hrb _ e; omega
 have hr2 : Value.ownBlock Q0h ≠ some (Q6o + 1 + 1) := fun e => by have := hrb _ e; omega
 have y0 := (far (Q6o + 1) 0 (by omega) hr1).trans x0
 have y1 := (far (Q6o + 1) 1 (by omega) hr1).trans x1
 have y2 := (far (Q6o + 1) 2 (by omega) hr1).trans x2
 have y3 := (far (Q6o + 1) 3 (by omega) hr1).trans x3
 have y4 := (far (Q6o + 1) 4 (by omega) hr1).trans x4
 have z4 := (farf (Q6o + 1) 4 (by omega) hr1).trans f4
 have m2 := (far nb (k * 3 + 2) (by omega) hnr).trans c2
 have m2f := (farf nb (k * 3 + 2) (by omega) hnr).trans c2f
 have F1 : w1.there (Q6o + 1 + 1) 0 5 := B01.there F0 (by omega) hr2
 have e1 : ¬ (nb = Q6o + 1) := by omega
 have e2 : ¬ (Q6o + 1 = nb) := by omega
 have F3 : ((w1.setCell ⟨Q6o + 1, 4, none⟩ Q1w).setCell ⟨nb, k * 3 + 2, none⟩ (.int .i64 (Q6r : Int))).there (Q6o + 1 + 1) 0 5 := qz2 (qz2 F1 _ _) _ _
 have B13 : But (fun q => q = Q6o + 1 ∨ q = nb ∨ q = Q6o + 1 + 1) w1 (((w1.setCell ⟨Q6o + 1, 4, none⟩ Q1w).setCell ⟨nb, k * 3 + 2, none⟩ (.int .i64 (Q6r : Int))).setCells (Q6o + 1 + 1) 0 Q1n) :=
  (But.of_only ((Only.refl (Q6o + 1) w1).setCell (p := ⟨Q6o + 1, 4, none⟩) (Or.inl rfl) _) (Or.inl rfl)).trans ((But.of_only ((Only.refl nb _).setCell (p := ⟨nb, k * 3 + 2, none⟩) (Or.inl rfl) _) (Or.inr (Or.inl rfl))).trans (But.of_only (qze (Q6o + 1 + 1) _ 0 _) (Or.inr (Or.inr rfl))))
 have B03 : But (fun q => Value.ownBlock Q0h = some q ∨ q = Q6o + 1 ∨ q = nb ∨ q = Q6o + 1 + 1) w0 (((w1.setCell ⟨Q6o + 1, 4, none⟩ Q1w).setCell ⟨nb, k * 3 + 2, none⟩ (.int .i64 (Q6r : Int))).setCells (Q6o + 1 + 1) 0 Q1n) := (B01.mono (fun _ h => Or.inl h)).trans (B13.mono (fun _ h => Or.inr h))
 have hn1 := qz1x O0.rn B01 (fun j e => by simp [Value.ownBlock] at e; subst e; exact hnr)
 have hn2 := qz1x hn1 (But.of_only (S := fun q => q = Q6o + 1) ((Only.refl (Q6o + 1) w1).setCell (p := ⟨Q6o + 1, 4, none⟩) (Or.inl rfl) Q1w) rfl) (fun j e => by simp [Value.ownBlock] at e; subst e; exact e1)
 have hn3 := qz58 hn2 (k * 3 + 2) (by omega) (.int .i64 (Q6r : Int))
 rw [<- qz2u (f := ndC) (sz := 3) (fun _ => rfl) A.nodes k hk 2 (by omega) { A.nodes[k] with head := (A.vers.length : Int) } (.int .i64 (A.vers.length : Int)) rfl] at hn3
 have hn4 := qz1x hn3 (But.of_only (S := fun q => q = Q6o + 1 + 1) (qze (Q6o + 1 + 1) Q1n 0 _) rfl) (fun j e => by simp [Value.ownBlock] at e; omega)
 have hr4 := qz1x hown B13 (fun j e => by
  rcases hat with h | h
  ·rw [h] at e
   have := hrb j e
   rintro (h1 | h1 | h1)
   ·omega
   ·subst h1; exact hnr e
   ·omega
  ·rw [h] at e
   simp only [Option.some.injEq] at e
   rintro (h1 | h1 | h1) <;> omega)
 have OF : qz1t base (((w1.setCell ⟨Q6o + 1, 4, none⟩ Q1w).setCell ⟨nb, k * 3 + 2, none⟩ (.int .i64 (Q6r : Int))).setCells (Q6o + 1 + 1) 0 Q1n) Q0a Q07 Q0b Q1w { A with vers := A.vers ++ [⟨next, gone, -1, A.nodes[k].head, kind⟩], nodes := A.nodes.set k { A.nodes[k] with head := (Q6r : Int) } } := by
  refine ⟨qz1x O0.rs B03 ?_, qz1x O0.rg B03 ?_, by simpa using hn4, by simpa [qz1p] using hr4, O.ne⟩
  ·intro j e
   have h1 := qz2d O.rs e
   rintro (h2 | h2 | h2 | h2)
   ·exact qz2b O.rs O.rr (by decide) j e h2
   ·omega
   ·subst h2; exact qz2b O.rs O.rn (by decide) _ e rfl
   ·omega
  ·intro j e
   have h1 := qz2d O.rg e
   rintro (h2 | h2 | h2 | h2)
   ·exact qz2b O.rg O.rr (by decide) j e h2
   ·omega
   ·subst h2; exact qz2b O.rg O.rn (by decide) _ e rfl
   ·omega
 have BF : But (OwnB Q0a Q07 Q0b Q0h) w (((w1.setCell ⟨Q6o + 1, 4, none⟩ Q1w).setCell ⟨nb, k * 3 + 2, none⟩ (.int .i64 (Q6r : Int))).setCells (Q6o + 1 + 1) 0 Q1n) :=
  ⟨B03.os.trans K0.os, B03.tape.trans K0.tape, B03.output.trans K0.output, Q77 K0.size B03.size, fun q hq hn => (B03.block q (by omega) (by
   rintro (h2 | h2 | h2 | h2)
   ·exact hn (Or.inr (Or.inr (Or.inr h2)))
   ·omega
   ·subst h2; exact hn (Or.inr (Or.inr (Or.inl rfl)))
   ·omega)).trans (K0.block q hq)⟩
 have LF : ∀ q, OwnB Q0a Q07 Q0b Q1w q -> OwnB Q0a Q07 Q0b Q0h q ∨ Q6o <= q := by
  rintro q (h | h | h | h)
  ·exact Or.inl (Or.inl h)
  ·exact Or.inl (Or.inr (Or.inl h))
  ·exact Or.inl (Or.inr (Or.inr (Or.inl h)))
  ·rcases hat with h' | h'
   ·rw [h'] at h; exact Or.inl (Or.inr (Or.inr (Or.inr h)))
   ·rw [h'] at h
    simp only [Option.some.injEq] at h
    exact Or.inr (by omega)
 clear x0 x1 x2 x3 x4 f4 c2 c2f far farf hown hgrow hat OR news B01 B03 B13 hn1 hn2 hn3 hn4 hr4 p0 p1 p2 p3
 go_wp2_with (refine wpList_store_mid rfl 30 (.tmp 14) _ rfl (w.heap.size + 1 + 1) 0 Q52 ?hx3 ?hy3 ?ht3 (by exact qz1n) (by simp [Value.oneCell']) ?_)
 try (case hx3 => rfl)
 try (case hy3 => rfl)
 try (case ht3 => exact F3)
 refine bodyPost_ret (v := .tuple #[.agg Q52, .int .i64 (Q6r : Int)]) ?_ rfl ⟨_, _, _, _, by rw [hv.out], by rw [hv.out]; exact ⟨OF, BF, LF⟩⟩
 exact qzl Tryz.results38 _ _ (Q6o + 1 + 1) 0 rfl Q1n _ (Q6u _ _ _ _ F3) Q7g rfl qz1n
end
section
attribute [local go_sem ↓] Go.wp_at_zero Go.wp_at_succ
structure Hd where
 at_ : Int
 then_ : Int
 code : Int
 key : Int
 value : Int
 begin : Int
 reply : Int
 out : Int
 sum : Int
 held : Int
 x_ : Int
 ver : Int
 cam : Int
 camAt : Int
 pred : Int
 predVer : Int
 curr : Int
 currVer : Int
 new_ : Int
 least : Int
 index : Int
 round : Int
def hdC (h : Hd) : List Value := [.int .i64 h.at_, .int .i64 h.then_, .int .i64 h.code, .int .i64 h.key, .int .i64 h.value, .int .i64 h.begin, .int .i64 h.reply, .int .i64 h.out, .int .i64 h.sum, .int .i64 h.held, .int .i64 h.x_, .int .i64 h.ver, .int .i64 h.cam, .int .i64 h.camAt, .int .i64 h.pred, .int .i64 h.predVer, .int .i64 h.curr, .int .i64 h.currVer, .int .i64 h.new_, .int .i64 h.least, .int .i64 h.index, .int .i64 h.round]
theorem qz61 {P : Program} {ops : Array Oper} {rest : List Oper} {op : Oper} {a : Act} {w : World} {Q : Exit -> Act -> World -> Prop} (hw : Region.wanted op (yielded ops a.tmps) = true) (ty : TypeId) (x : Operand) (ho : op.op = .load ty x)
  (b o : Nat) (hx : a.eval x = .pointer (some ⟨b, o, none⟩)) (cs : List Value) (d : TypeDesc) (hc : w.rangeAt b o cs)
  (hu : P.underlying ty = some d) (hd : d.isRow = true) (hi : (P.info? ty).map (·.size) = some cs.length)
  (h : wpList P ops Q rest (a.put op.dst (.agg cs.toArray)) w) : wpList P ops Q (op :: rest) a w :=
 wpList_step fun K hK => by rw [if_pos hw]; exact wp_load_mid ty x ho b o hx cs d hc hu hd hi (hK _ _ h)
theorem qzc (h : Hd) : (Tryz.prog.info? 56).map (fun i => i.size) = some (hdC h).toArray.size := by
 show _ = some 22
 kernel_rfl
theorem qz4 (h : Hd) : (Tryz.prog.info? 56).map (fun i => i.size) = some (hdC h).length := by
 show _ = some 22
 kernel_rfl
theorem qzk (h : Hd) : (hdC h).toArray.all (·.oneCell') = true := by simp [hdC, Value.oneCell']
def qz4m (y z : Int) (h : Hd) : Bool := inB h.x_ 0 (y - 1) && inB h.pred 0 (y - 1) && inB h.curr (-1) (y - 1) && inB h.new_ (-1) (y - 1) && inB h.ver 0 (z - 1) && inB h.predVer 0 (z - 1) && inB h.currVer 0 (z - 1)
def qz4p (h : Hd) : Bool := inB h.at_ 0 23 && inB h.then_ 0 7 && inB h.code 0 8 && inB h.reply 0 7 && inB h.key (-1) 63 && inB h.value 0 9999 && inB h.begin 0 20000 && inB h.camAt 0 20000 && inB h.round 0 20000 && inB h.out 0 1000000 && inB h.sum 0 1000000 && inB h.held (-1) 100 && inB h.cam 0 100 && inB h.least 0 100 && inB h.index 0 60
def qz4a (x y z u : Int) (h : Hd) : Bool := qz3w x y z u && qz4m y z h && qz4p h
theorem qz1h (n : Int) (w : World) : Calls Tryz.prog 99 #[.int .i64 n] w fun e w' => e = .returned (.bool (inB n 0 20000)) /\ w' = w := by
 go_enter Tryz.func99, Tryz.ntmps99
 go_wp2_with (go_at_call 44; refine (qzd _ _ _ _).mono ?_; rintro e w' ⟨rfl, hw⟩; obtain rfl := hw.symm)
 go_ret
 exact ⟨rfl, rfl⟩
theorem qzcl (x y z u : Int) (h : Hd) (w : World) (hy : 1 <= y /\ y <= 60) (hz : 1 <= z /\ z <= 400) :
  Calls Tryz.prog 133 #[.agg Q06, .agg (hdC h).toArray] w fun e w' => e = .returned (.bool (qz4m y z h)) /\ Below Q6o w w' := by
 show Calls Tryz.prog 133 #[.agg Q06, .agg Q08] w fun e w' => e = .returned (.bool (qz4m y z h)) /\ Below Q6o w w'
 have KK := ((Q6s Q6o w).alloc (Q6v _) (.cells Q06 25)).alloc (by simp) (.cells Q08 56)
 cases e0 : inB h.x_ 0 (y - 1)
 ·have hv : qz4m y z h = false := by simp only [qz4m, e0, Bool.false_and]
  go_enter Tryz.func133, Tryz.ntmps133
  go_wp2_with (go_at_call 44; refine (qzd _ _ _ _).mono ?_; rintro e w' ⟨rfl, hw⟩; obtain rfl := hw.symm)
  go_ret
  exact ⟨by rw [hv]; rfl, KK⟩
 cases e1 : inB h.pred 0 (y - 1)
 ·have hv : qz4m y z h = false := by simp only [qz4m, e1, Bool.false_and, Bool.and_false]
  go_enter Tryz.func133, Tryz.ntmps133
  go_wp2_with (go_at_call 44; refine (qzd _ _ _ _).mono ?_; rintro e w' ⟨rfl, hw⟩; obtain rfl := hw.symm)
  go_ret
  exact ⟨by rw [hv]; rfl, KK⟩
 cases e2 : inB h.curr (-1) (y - 1)
 ·have hv : qz4m y z h = false := by simp only [qz4m, e2, Bool.false_and, Bool.and_false]
  go_enter Tryz.func133, Tryz.ntmps133
  go_wp2_with (go_at_call 44; refine (qzd _ _ _ _).mono ?_; rintro e w' ⟨rfl, hw⟩; obtain rfl := hw.symm)
  go_ret
  exact ⟨by rw [hv]; rfl, KK⟩
 cases e3 : inB h.new_ (-1) (y - 1)
 ·have hv : qz4m y z h = false := by simp only [qz4m, e3, Bool.false_and, Bool.and_false]
  go_enter Tryz.func133, Tryz.ntmps133
  go_wp2_with (go_at_call 44; refine (qzd _ _ _ _).mono ?_; rintro e w' ⟨rfl, hw⟩; obtain rfl := hw.symm)
  go_ret
  exact ⟨by rw [hv]; rfl, KK⟩
 cases e4 : inB h.ver 0 (z - 1)
 ·have hv : qz4m y z h = false := by simp only [qz4m, e4, Bool.false_and, Bool.and_false]
  go_enter Tryz.func133, Tryz.ntmps133
  go_wp2_with (go_at_call 44; refine (qzd _ _ _ _).mono ?_; rintro e w' ⟨rfl, hw⟩; obtain rfl := hw.symm)
  go_ret
  exact ⟨by rw [hv]; rfl, KK⟩
 cases e5 : inB h.predVer 0 (z - 1)
 ·have hv : qz4m y z h = false := by simp only [qz4m, e5, Bool.false_and, Bool.and_false]
  go_enter Tryz.func133, Tryz.ntmps133
  go_wp2_with (go_at_call 44; refine (qzd _ _ _ _).mono ?_; rintro e w' ⟨rfl, hw⟩; obtain rfl := hw.symm)
  go_ret
  exact ⟨by rw [hv]; rfl, KK⟩
 have hv : qz4m y z h = inB h.currVer 0 (z - 1) := by simp only [qz4m, e0, e1, e2, e3, e4, e5, Bool.true_and]
 go_enter Tryz.func133, Tryz.ntmps133
 go_wp2_with (go_at_call 44; refine (qzd _ _ _ _).mono ?_; rintro e w' ⟨rfl, hw⟩; obtain rfl := hw.symm)
 go_ret
 exact ⟨by rw [hv]; rfl, KK⟩
theorem qzgt {w : World} {b : Nat} {h : Hd} (R : w.rangeAt b 0 (hdC h)) : w.cell? ⟨b, 0, none⟩ = some (.int .i64 h.at_) /\ w.cell? ⟨b, 1, none⟩ = some (.int .i64 h.then_) /\ w.cell? ⟨b, 2, none⟩ = some (.int .i64 h.code) /\ w.cell? ⟨b, 3, none⟩ = some (.int .i64 h.key) /\ w.cell? ⟨b, 4, none⟩ = some (.int .i64 h.value) /\ w.cell? ⟨b, 5, none⟩ = some (.int .i64 h.begin) /\ w.cell? ⟨b, 6, none⟩ = some (.int .i64 h.reply) /\ w.cell? ⟨b, 7, none⟩ = some (.int .i64 h.out) /\ w.cell? ⟨b, 8, none⟩ = some (.int .i64 h.sum) /\ w.cell? ⟨b, 9, none⟩ = some (.int .i64 h.held) /\ w.cell? ⟨b, 10, none⟩ = some (.int .i64 h.x_) /\ w.cell? ⟨b, 11, none⟩ = some (.int .i64 h.ver) /\ w.cell? ⟨b, 12, none⟩ = some (.int .i64 h.cam) /\ w.cell? ⟨b, 13, none⟩ = some (.int .i64 h.camAt) /\ w.cell? ⟨b, 14, none⟩ = some (.int .i64 h.pred) /\ w.cell? ⟨b, 15, none⟩ = some (.int .i64 h.predVer) /\ w.cell? ⟨b, 16, none⟩ = some (.int .i64 h.curr) /\ w.cell? ⟨b, 17, none⟩ = some (.int .i64 h.currVer) /\ w.cell? ⟨b, 18, none⟩ = some (.int .i64 h.new_) /\ w.cell? ⟨b, 19, none⟩ = some (.int .i64 h.least) /\ w.cell? ⟨b, 20, none⟩ = some (.int .i64 h.index) /\ w.cell? ⟨b, 21, none⟩ = some (.int .i64 h.round) := by
 refine ⟨?_, ?_, ?_, ?_, ?_, ?_, ?_, ?_, ?_, ?_, ?_, ?_, ?_, ?_, ?_, ?_, ?_, ?_, ?_, ?_, ?_, ?_⟩
 ·simpa using R 0 (.int .i64 h.at_) rfl
 ·simpa using R 1 (.int .i64 h.then_) rfl
 ·simpa using R 2 (.int .i64 h.code) rfl
 ·simpa using R 3 (.int .i64 h.key) rfl
 ·simpa using R 4 (.int .i64 h.value) rfl
 ·simpa using R 5 (.int .i64 h.begin) rfl
 ·simpa using R 6 (.int .i64 h.reply) rfl
 ·simpa using R 7 (.int .i64 h.out) rfl
 ·simpa using R 8 (.int .i64 h.sum) rfl
 ·simpa using R 9 (.int .i64 h.held) rfl
 ·simpa using R 10 (.int .i64 h.x_) rfl
 ·simpa using R 11 (.int .i64 h.ver) rfl
 ·simpa using R 12 (.int .i64 h.cam) rfl
 ·simpa using R 13 (.int .i64 h.camAt) rfl
 ·simpa using R 14 (.int .i64 h.pred) rfl
 ·simpa using R 15 (.int .i64 h.predVer) rfl
 ·simpa using R 16 (.int .i64 h.curr) rfl
 ·simpa using R 17 (.int .i64 h.currVer) rfl
 ·simpa using R 18 (.int .i64 h.new_) rfl
 ·simpa using R 19 (.int .i64 h.least) rfl
 ·simpa using R 20 (.int .i64 h.index) rfl
 ·simpa using R 21 (.int .i64 h.round) rfl
theorem qz5q (x y z u : Int) (h : Hd) (w : World) :
  Calls Tryz.prog 98 #[.agg Q06, .agg (hdC h).toArray] w fun e w' => e = .returned (.bool (qz4a x y z u h)) /\ Below Q6o w w' := by
 show Calls Tryz.prog 98 #[.agg Q06, .agg Q08] w fun e w' => e = .returned (.bool (qz4a x y z u h)) /\ Below Q6o w w'
 have P0 := (qz1q w x y z u 25).below ((Q6s _ _).alloc (Q6v _) Q0p) (by simp)
 have X0 := qz6 Q44 (hdC h) 56
 have K0 := ((Q6s Q6o w).alloc (Q6v _) (.cells Q06 25)).alloc (by simp) Q0p
 have hz0 : Q6o + 1 < ((Q44).alloc Q0p).heap.size := by simp
 simp only [World.size_alloc] at X0
 go_enter Tryz.func98, Tryz.ntmps98
 go_wp2_with fail
 change Calls Tryz.prog _ _ ((Q44).alloc Q0p) _
 generalize hw0 : (Q44).alloc Q0p = w0 at *
 clear hw0
 refine (qz1y _ _ _ _ _).mono ?_
 rintro e w1 ⟨rfl, b1⟩
 have P1 := P0.below b1 (by omega)
 have X1 := qz0 X0 b1 hz0
 have K1 := K0.trans (b1.mono (by omega))
 have hz1 := Q72 hz0 b1.size
 clear P0 X0 K0 b1 hz0
 cases h1 : qz3w x y z u
 ·have hv : qz4a x y z u h = false := by simp only [qz4a, h1, Bool.false_and]
  go_wp2_with fail
  go_ret
  exact ⟨by rw [hv]; rfl, K1⟩
 have hpl := (qz2n x y z u).1 h1
 obtain ⟨p0, p1, p2, p3⟩ := id P1
 go_wp2_with (refine qz61 ?hw 56 (.tmp 3) rfl (Q6o + 1) 0 rfl (hdC h) _ ?hc Q6x rfl (qz4 h) ?_)
 try (case hw => rfl)
 case hc => exact X1
 refine (qzcl x y z u h _ hpl.2.1 hpl.2.2.1).mono ?_
 rintro e w2 ⟨rfl, b2⟩
 have X2 := qz0 X1 b2 hz1
 have K2 := K1.trans (b2.mono (by omega))
 clear P1 X1 K1 b2 p0 p1 p2 p3
 obtain ⟨x0, x1, x2, x3, x4, x5, x6, x7, x8, x9, x10, x11, x12, x13, x14, x15, x16, x17, x18, x19, x20, x21⟩ := qzgt X2
 clear X2 hpl
 cases h2 : qz4m y z h
 ·have hv : qz4a x y z u h = false := by simp only [qz4a, h2, Bool.false_and, Bool.and_false]
  go_wp2_with fail
  go_ret
  exact ⟨by rw [hv]; rfl, K2⟩
 cases e0 : inB h.at_ 0 23
 ·have hv : qz4a x y z u h = false := by simp only [qz4a, qz4p, e0, Bool.false_and, Bool.and_false]
  go_wp2_with (first | (go_at_call 44; refine (qzd _ _ _ _).mono ?_; rintro e w' ⟨rfl, hw⟩; obtain rfl := hw.symm) | (go_at_call 43; refine (qz1a _ _).mono ?_; rintro e w' ⟨rfl, hw⟩; obtain rfl := hw.symm) | (go_at_call 99; refine (qz1h _ _).mono ?_; rintro e w' ⟨rfl, hw⟩; obtain rfl := hw.symm))
  go_ret
  exact ⟨by rw [hv]; rfl, K2⟩
 cases e1 : inB h.then_ 0 7
 ·have hv : qz4a x y z u h = false := by simp only [qz4a, qz4p, e1, Bool.false_and, Bool.and_false]
  go_wp2_with (first | (go_at_call 44; refine (qzd _ _ _ _).mono ?_; rintro e w' ⟨rfl, hw⟩; obtain rfl := hw.symm) | (go_at_call 43; refine (qz1a _ _).mono ?_; rintro e w' ⟨rfl, hw⟩; obtain rfl := hw.symm) | (go_at_call 99; refine (qz1h _ _).mono ?_; rintro e w' ⟨rfl, hw⟩; obtain rfl := hw.symm))
  go_ret
  exact ⟨by rw [hv]; rfl, K2⟩
 cases e2 : inB h.code 0 8
 ·have hv : qz4a x y z u h = false := by simp only [qz4a, qz4p, e2, Bool.false_and, Bool.and_false]
  go_wp2_with (first | (go_at_call 44; refine (qzd _ _ _ _).mono ?_; rintro e w' ⟨rfl, hw⟩; obtain rfl := hw.symm) | (go_at_call 43; refine (qz1a _ _).mono ?_; rintro e w' ⟨rfl, hw⟩; obtain rfl := hw.symm) | (go_at_call 99; refine (qz1h _ _).mono ?_; rintro e w' ⟨rfl, hw⟩; obtain rfl := hw.symm))
  go_ret
  exact ⟨by rw [hv]; rfl, K2⟩
 cases e3 : inB h.reply 0 7
 ·have hv : qz4a x y z u h = false := by simp only [qz4a, qz4p, e3, Bool.false_and, Bool.and_false]
  go_wp2_with (first | (go_at_call 44; refine (qzd _ _ _ _).mono ?_; rintro e w' ⟨rfl, hw⟩; obtain rfl := hw.symm) | (go_at_call 43; refine (qz1a _ _).mono ?_; rintro e w' ⟨rfl, hw⟩; obtain rfl := hw.symm) | (go_at_call 99; refine (qz1h _ _).mono ?_; rintro e w' ⟨rfl, hw⟩; obtain rfl := hw.symm))
  go_ret
  exact ⟨by rw [hv]; rfl, K2⟩
 cases e4 : inB h.key (-1) 63
 ·have hv : qz4a x y z u h = false := by simp only [qz4a, qz4p, e4, Bool.false_and, Bool.and_false]
  go_wp2_with (first | (go_at_call 44; refine (qzd _ _ _ _).mono ?_; rintro e w' ⟨rfl, hw⟩; obtain rfl := hw.symm) | (go_at_call 43; refine (qz1a _ _).mono ?_; rintro e w' ⟨rfl, hw⟩; obtain rfl := hw.symm) | (go_at_call 99; refine (qz1h _ _).mono ?_; rintro e w' ⟨rfl, hw⟩; obtain rfl := hw.symm))
  go_ret
  exact ⟨by rw [hv]; rfl, K2⟩
 cases e5 : inB h.value 0 9999
 ·have hv : qz4a x y z u h = false := by simp only [qz4a, qz4p, e5, Bool.false_and, Bool.and_false]
  go_wp2_with (first | (go_at_call 44; refine (qzd _ _ _ _).mono ?_; rintro e w' ⟨rfl, hw⟩; obtain rfl := hw.symm) | (go_at_call 43; refine (qz1a _ _).mono ?_; rintro e w' ⟨rfl, hw⟩; obtain rfl := hw.symm) | (go_at_call 99; refine (qz1h _ _).mono ?_; rintro e w' ⟨rfl, hw⟩; obtain rfl := hw.symm))
  go_ret
  exact ⟨by rw [hv]; rfl, K2⟩
 cases e6 : inB h.begin 0 20000
 ·have hv : qz4a x y z u h = false := by simp only [qz4a, qz4p, e6, Bool.false_and, Bool.and_false]
  go_wp2_with (first | (go_at_call 44; refine (qzd _ _ _ _).mono ?_; rintro e w' ⟨rfl, hw⟩; obtain rfl := hw.symm) | (go_at_call 43; refine (qz1a _ _).mono ?_; rintro e w' ⟨rfl, hw⟩; obtain rfl := hw.symm) | (go_at_call 99; refine (qz1h _ _).mono ?_; rintro e w' ⟨rfl, hw⟩; obtain rfl := hw.symm))
  go_ret
  exact ⟨by rw [hv]; rfl, K2⟩
 cases e7 : inB h.camAt 0 20000
 ·have hv : qz4a x y z u h = false := by simp only [qz4a, qz4p, e7, Bool.false_and, Bool.and_false]
  go_wp2_with (first | (go_at_call 44; refine (qzd _ _ _ _).mono ?_; rintro e w' ⟨rfl, hw⟩; obtain rfl := hw.symm) | (go_at_call 43; refine (qz1a _ _).mono ?_; rintro e w' ⟨rfl, hw⟩; obtain rfl := hw.symm) | (go_at_call 99; refine (qz1h _ _).mono ?_; rintro e w' ⟨rfl, hw⟩; obtain rfl := hw.symm))
  go_ret
  exact ⟨by rw [hv]; rfl, K2⟩
 cases e8 : inB h.round 0 20000
 ·have hv : qz4a x y z u h = false := by simp only [qz4a, qz4p, e8, Bool.false_and, Bool.and_false]
  go_wp2_with (first | (go_at_call 44; refine (qzd _ _ _ _).mono ?_; rintro e w' ⟨rfl, hw⟩; obtain rfl := hw.symm) | (go_at_call 43; refine (qz1a _ _).mono ?_; rintro e w' ⟨rfl, hw⟩; obtain rfl := hw.symm) | (go_at_call 99; refine (qz1h _ _).mono ?_; rintro e w' ⟨rfl, hw⟩; obtain rfl := hw.symm))
  go_ret
  exact ⟨by rw [hv]; rfl, K2⟩
 cases e9 : inB h.out 0 1000000
 ·have hv : qz4a x y z u h = false := by simp only [qz4a, qz4p, e9, Bool.false_and, Bool.and_false]
  go_wp2_with (first | (go_at_call 44; refine (qzd _ _ _ _).mono ?_; rintro e w' ⟨rfl, hw⟩; obtain rfl := hw.symm) | (go_at_call 43; refine (qz1a _ _).mono ?_; rintro e w' ⟨rfl, hw⟩; obtain rfl := hw.symm) | (go_at_call 99; refine (qz1h _ _).mono ?_; rintro e w' ⟨rfl, hw⟩; obtain rfl := hw.symm))
  go_ret
  exact ⟨by rw [hv]; rfl, K2⟩
 cases e10 : inB h.sum 0 1000000
 ·have hv : qz4a x y z u h = false := by simp only [qz4a, qz4p, e10, Bool.false_and, Bool.and_false]
  go_wp2_with (first | (go_at_call 44; refine (qzd _ _ _ _).mono ?_; rintro e w' ⟨rfl, hw⟩; obtain rfl := hw.symm) | (go_at_call 43; refine (qz1a _ _).mono ?_; rintro e w' ⟨rfl, hw⟩; obtain rfl := hw.symm) | (go_at_call 99; refine (qz1h _ _).mono ?_; rintro e w' ⟨rfl, hw⟩; obtain rfl := hw.symm))
  go_ret
  exact ⟨by rw [hv]; rfl, K2⟩
 cases e11 : inB h.held (-1) 100
 ·have hv : qz4a x y z u h = false := by simp only [qz4a, qz4p, e11, Bool.false_and, Bool.and_false]
  go_wp2_with (first | (go_at_call 44; refine (qzd _ _ _ _).mono ?_; rintro e w' ⟨rfl, hw⟩; obtain rfl := hw.symm) | (go_at_call 43; refine (qz1a _ _).mono ?_; rintro e w' ⟨rfl, hw⟩; obtain rfl := hw.symm) | (go_at_call 99; refine (qz1h _ _).mono ?_; rintro e w' ⟨rfl, hw⟩; obtain rfl := hw.symm))
  go_ret
  exact ⟨by rw [hv]; rfl, K2⟩
 cases e12 : inB h.cam 0 100
 ·have hv : qz4a x y z u h = false := by simp only [qz4a, qz4p, e12, Bool.false_and, Bool.and_false]
  go_wp2_with (first | (go_at_call 44; refine (qzd _ _ _ _).mono ?_; rintro e w' ⟨rfl, hw⟩; obtain rfl := hw.symm) | (go_at_call 43; refine (qz1a _ _).mono ?_; rintro e w' ⟨rfl, hw⟩; obtain rfl := hw.symm) | (go_at_call 99; refine (qz1h _ _).mono ?_; rintro e w' ⟨rfl, hw⟩; obtain rfl := hw.symm))
  go_ret
  exact ⟨by rw [hv]; rfl, K2⟩
 cases e13 : inB h.least 0 100
 ·have hv : qz4a x y z u h = false := by simp only [qz4a, qz4p, e13, Bool.false_and, Bool.and_false]
  go_wp2_with (first | (go_at_call 44; refine (qzd _ _ _ _).mono ?_; rintro e w' ⟨rfl, hw⟩; obtain rfl := hw.symm) | (go_at_call 43; refine (qz1a _ _).mono ?_; rintro e w' ⟨rfl, hw⟩; obtain rfl := hw.symm) | (go_at_call 99; refine (qz1h _ _).mono ?_; rintro e w' ⟨rfl, hw⟩; obtain rfl := hw.symm))
  go_ret
  exact ⟨by rw [hv]; rfl, K2⟩
 have hv : qz4a x y z u h = inB h.index 0 60 := by simp only [qz4a, qz4p, h1, h2, e0, e1, e2, e3, e4, e5, e6, e7, e8, e9, e10, e11, e12, e13, Bool.true_and]
 go_wp2_with (first | (go_at_call 44; refine (qzd _ _ _ _).mono ?_; rintro e w' ⟨rfl, hw⟩; obtain rfl := hw.symm) | (go_at_call 43; refine (qz1a _ _).mono ?_; rintro e w' ⟨rfl, hw⟩; obtain rfl := hw.symm) | (go_at_call 99; refine (qz1h _ _).mono ?_; rintro e w' ⟨rfl, hw⟩; obtain rfl := hw.symm))
 go_ret
 exact ⟨by rw [hv]; rfl, K2⟩
end
end Go.Proofs.YthjkdnlmopafkaaGreatDoor
