/-
  What the law's proof goes by, part 12.
-/
import Derived.Deep.Cut
import Derived.Deep.AppendLies
import Derived.Test.YtlfjhcdjgoeafaaDoorSwapped00
import Derived.Test.YtlfjhcdjgoeafaaDoorSwapped03
import Derived.Test.YtlfjhcdjgoeafaaDoorSwapped04
import Derived.Test.YtlfjhcdjgoeafaaDoorSwapped05
import Derived.Test.YtlfjhcdjgoeafaaDoorSwapped07
import Derived.Test.YtlfjhcdjgoeafaaDoorSwapped08
import Derived.Test.YtlfjhcdjgoeafaaDoorSwapped09
import Derived.Test.YtlfjhcdjgoeafaaDoorSwapped10
namespace Go.Proofs.YtlfjhcdjgoeafaaDoor
open Go.ChangeShapes Go.WideShapes Go.ChangeAt Go.RowKit
set_option maxRecDepth 100000
set_option maxHeartbeats 16000000
set_option linter.unusedVariables false
set_option linter.unusedSimpArgs false
set_option linter.unnecessarySimpa false
set_option linter.unusedSectionVars false
section
attribute [local go_sem ↓] Go.wp_at_zero Go.wp_at_succ
theorem qz9p {w : World} {base : Nat} {e : TypeId} {sz : Nat} {g n cap : Nat} {xs : List Value} (h : w.ownsRow base e sz (.slice (some ⟨g, 0, none⟩) n cap) n xs) (k : Nat) (hk : k < n * sz) (u : Value) : (w.setCell ⟨g, k, none⟩ u).ownsRow base e sz (.slice (some ⟨g, 0, none⟩) n cap) n (xs.set k u) := by
 refine ⟨by rw [List.length_set]; exact h.1, ?_⟩
 rcases h.2 with ⟨h0, _⟩ | ⟨g', cap', cur, e1, hg, hh, hnc, hcm, hs, ht⟩
 ·cases h0
 ·cases e1
  obtain ⟨hlt, hk'⟩ := Array.getElem?_eq_some_iff.1 hh
  refine Or.inr ⟨g, cap, cur.setIfInBounds k u, rfl, hg, ?_, hnc, hcm, by simpa using hs, ?_⟩
  ·show (w.heap.modify g _)[g]? = _
   rw [Array.getElem?_eq_getElem (by rw [Array.size_modify]; exact hlt), Array.getElem_modify_self, hk']
   rfl
  ·rw [Array.toList_setIfInBounds, <- ht, List.take_set]
theorem qz8x {w : World} {base : Nat} {e : TypeId} {sz : Nat} {g n cap : Nat} {xs : List Value} (h : w.ownsRow base e sz (.slice (some ⟨g, 0, none⟩) n cap) n xs) (k : Nat) (u : Value) (hu : xs[k]? = some u) : w.cell? ⟨g, k, none⟩ = some u /\ w.frozen? ⟨g, k, none⟩ = false := by
 rcases h.2 with ⟨h0, _⟩ | ⟨g', cap', cur, e1, hg, hh, hnc, hcm, hs, ht⟩
 ·cases h0
 ·cases e1
  have hk : k < xs.length := by
   rcases Nat.lt_or_ge k xs.length with h' | h'
   ·exact h'
   ·rw [List.getElem?_eq_none h'] at hu; cases hu
  have h1 : cur.toList[k]? = some u := by
   rw [<- ht] at hu
   rw [List.getElem?_take] at hu
   split at hu
   ·exact hu
   ·cases hu
  constructor
  ·simp only [World.cell?, hh]
   simpa using h1
  ·simp [World.frozen?, hh]
theorem qz4c {α : Type} {f : α -> List Value} {sz : Nat} (hf : ∀ x, (f x).length = sz) : ∀ (l : List α) (i : Nat) (hi : i < l.length) (j : Nat) (hj : j < sz) (y : α) (u : Value), f y = (f l[i]).set j u -> qz1 f (l.set i y) = (qz1 f l).set (i * sz + j) u
 | x :: l, 0, _, j, hj, y, u, h => by
  simp only [List.set_cons_zero, qz1, List.flatMap_cons, Nat.zero_mul, Nat.zero_add]
  rw [List.set_append_left _ _ (by rw [hf]; exact hj)]
  simp only [List.getElem_cons_zero] at h
  rw [h]
 | x :: l, i + 1, hi, j, hj, y, u, h => by
  have ih := qz4c hf l i (by simpa using hi) j hj y u (by simpa using h)
  simp only [List.set_cons_succ, qz1, List.flatMap_cons] at ih ⊢
  rw [ih, List.set_append_right _ _ (by rw [hf, Nat.add_mul]; omega), hf]
  congr 2
  rw [Nat.add_mul]
  omega
def OwnB (s g n r : Value) (q : Nat) : Prop := s.ownBlock = some q ∨ g.ownBlock = some q ∨ n.ownBlock = some q ∨ r.ownBlock = some q
theorem qz7a {w : World} {base base' : Nat} {e e' : TypeId} {sz sz' : Nat} {v v' : Value} {n n' : Nat} {xs xs' : List Value} (h : w.ownsRow base e sz v n xs) (h' : w.ownsRow base' e' sz' v' n' xs') (hne : e ≠ e') (b : Nat) (hb : v.ownBlock = some b) : v'.ownBlock ≠ some b := by
 intro hb'
 rcases h.2 with ⟨rfl, _⟩ | ⟨g, cap, cur, rfl, _, hh, _⟩
 ·cases hb
 ·rcases h'.2 with ⟨rfl, _⟩ | ⟨g', cap', cur', rfl, _, hh', _⟩
  ·cases hb'
  ·simp [Value.ownBlock] at hb hb'
   subst hb
   subst hb'
   rw [hh] at hh'
   simp at hh'
   exact hne hh'.2
theorem qz2e {w w' : World} {S : Nat -> Prop} {base : Nat} {e : TypeId} {sz : Nat} {v : Value} {n : Nat} {xs : List Value} (h : w.ownsRow base e sz v n xs) (hb : But S w w') (hv : ∀ j, v.ownBlock = some j -> ¬ S j) : w'.ownsRow base e sz v n xs := by
 have hlt := fun j e => qz2s h (j := j) e
 refine ⟨h.1, ?_⟩
 rcases h.2 with h0 | ⟨g, cap, cur, rfl, hg, hh, rest⟩
 ·exact Or.inl h0
 ·exact Or.inr ⟨g, cap, cur, rfl, hg, (hb.block g (hlt g rfl) (hv g rfl)).trans hh, rest⟩
theorem qz19.lt {base : Nat} {w : World} {s g n r : Value} {A : Ar} (O : qz19 base w s g n r A) (q : Nat) (h : OwnB s g n r q) : q < w.heap.size := by
 rcases h with h | h | h | h
 ·exact qz2s O.rs h
 ·exact qz2s O.rg h
 ·exact qz2s O.rn h
 ·exact qz2s O.rr h
theorem qz19.kept {base : Nat} {w w' : World} {S : Nat -> Prop} {s g n r : Value} {A : Ar} (O : qz19 base w s g n r A) (hb : But S w w') (hv : ∀ q, OwnB s g n r q -> ¬ S q) : qz19 base w' s g n r A :=
 ⟨qz2e O.rs hb (fun j e => hv j (Or.inl e)), qz2e O.rg hb (fun j e => hv j (Or.inr (Or.inl e))), qz2e O.rn hb (fun j e => hv j (Or.inr (Or.inr (Or.inl e)))), qz2e O.rr hb (fun j e => hv j (Or.inr (Or.inr (Or.inr e)))), O.ne⟩
def qz1k (z : Int) (A : Ar) (node v next : Int) (gone : Bool) (kind : Int) : Ar × Int :=
 if z <= (A.vers.length : Int) then (A, -2)
 else if (ndOf A node).head ≠ v then (A, -1)
 else ({ A with vers := A.vers ++ [⟨next, gone, -1, v, kind⟩], nodes := A.nodes.set node.toNat { ndOf A node with head := (A.vers.length : Int) } }, (A.vers.length : Int))
structure qz6i (base : Nat) (w w' : World) (s g n r s' g' n' r' : Value) (A : Ar) : Prop where
 own : qz19 base w' s' g' n' r' A
 but : But (OwnB s g n r) w w'
 blk : ∀ q, OwnB s' g' n' r' q -> OwnB s g n r q ∨ w.heap.size <= q
theorem qz7e (base : Nat) (A : Ar) (x y z u : Int) (node v next : Int) (gone : Bool) (kind : Int) (s g n r : Value) (w : World) (hbase : base <= w.heap.size) (hA : A.size <= 1048576) (O : qz19 base w s g n r A) (hn0 : 0 <= node) (hn1 : node < (A.nodes.length : Int)) :
  Calls Tryd.prog 19 #[.agg #[.int .i64 x, .int .i64 y, .int .i64 z, .int .i64 u], .agg #[.int .i64 A.camera, s, g, n, r], .int .i64 node, .int .i64 v, .int .i64 next, .bool gone, .int .i64 kind] w fun e w' => ∃ s' g' n' r', e = .returned (.tuple #[.agg #[.int .i64 A.camera, s', g', n', r'], .int .i64 (qz1k z A node v next gone kind).2]) /\ qz6i base w w' s g n r s' g' n' r' (qz1k z A node v next gone kind).1 := by
 unfold Ar.size at hA
 have P0 := ((qz1h w x y z u 36).below ((Below.refl _ _).alloc (Nat.le_refl _) (.cells #[.int .i64 A.camera, s, g, n, r] 33)) (by simp)).below ((Below.refl _ _).alloc (Nat.le_refl _) (.cells #[.int .i64 0, .slice none 0 0, .slice none 0 0, .slice none 0 0, .slice none 0 0] 33)) (by simp; omega)
 have X0 := World.rangeAt_alloc (qz6 (w.alloc (.cells #[.int .i64 x, .int .i64 y, .int .i64 z, .int .i64 u] 36)) [.int .i64 A.camera, s, g, n, r] 33) (.cells #[.int .i64 0, .slice none 0 0, .slice none 0 0, .slice none 0 0, .slice none 0 0] 33)
 have G0 := World.there_alloc (qzv (w.alloc (.cells #[.int .i64 x, .int .i64 y, .int .i64 z, .int .i64 u] 36)) #[.int .i64 A.camera, s, g, n, r] 33 5 (by simp)) (.cells #[.int .i64 0, .slice none 0 0, .slice none 0 0, .slice none 0 0, .slice none 0 0] 33)
 have F0 := qzv ((w.alloc (.cells #[.int .i64 x, .int .i64 y, .int .i64 z, .int .i64 u] 36)).alloc (.cells #[.int .i64 A.camera, s, g, n, r] 33)) #[.int .i64 0, .slice none 0 0, .slice none 0 0, .slice none 0 0, .slice none 0 0] 33 5 (by decide)
 have K0 := (((Below.refl w.heap.size w).alloc (Nat.le_refl _) (.cells #[.int .i64 x, .int .i64 y, .int .i64 z, .int .i64 u] 36)).alloc (by simp) (.cells #[.int .i64 A.camera, s, g, n, r] 33)).alloc (by simp; omega) (.cells #[.int .i64 0, .slice none 0 0, .slice none 0 0, .slice none 0 0, .slice none 0 0] 33)
 have hz0 : w.heap.size + 1 + 1 < (((w.alloc (.cells #[.int .i64 x, .int .i64 y, .int .i64 z, .int .i64 u] 36)).alloc (.cells #[.int .i64 A.camera, s, g, n, r] 33)).alloc (.cells #[.int .i64 0, .slice none 0 0, .slice none 0 0, .slice none 0 0, .slice none 0 0] 33)).heap.size := by simp
 simp only [World.size_alloc] at X0 G0 F0
 obtain ⟨sa, sc, rfl⟩ := qz15 O.rs
 obtain ⟨ga, gc, rfl⟩ := qz15 O.rg
 have hnp : 0 < A.nodes.length := by omega
 obtain ⟨nb, nc, rfl⟩ := qz8k O.rn hnp
 obtain ⟨ra, rc, rfl⟩ := qz15 O.rr
 have O0 := O.below K0
 obtain ⟨k, rfl⟩ : ∃ k : Nat, node = k := ⟨node.toNat, by omega⟩
 have hk : k < A.nodes.length := by omega
 have hk' : (k : Int) < (A.nodes.length : Int) := by omega
 have hk0 : (0 : Int) <= (k : Int) := by omega
 have hnd : ndOf A (k : Int) = A.nodes[k] := qz2f A k hk
 have hnb := qz61 O.rn (j := nb) rfl
 have hnl := qz2s O.rn (j := nb) rfl
 have c2 := qz8x O0.rn (k * 3 + 2) (.int .i64 A.nodes[k].head) (by rw [qzu (sz := 3) (fun _ => rfl) A.nodes k hk 2 (by omega)]; rfl)
 go_enter Tryd.func19, Tryd.ntmps19
 have tok : True := trivial
 go_wp2_with (clear tok; refine qza4 (((w.alloc (.cells #[.int .i64 x, .int .i64 y, .int .i64 z, .int .i64 u] 36)).alloc (.cells #[.int .i64 A.camera, .slice sa A.slots.length sc, .slice ga A.guides.length gc, .slice (some ⟨nb, 0, none⟩) A.nodes.length nc, .slice ra A.vers.length rc] 33)).alloc (.cells #[.int .i64 0, .slice none 0 0, .slice none 0 0, .slice none 0 0, .slice none 0 0] 33)) ?_)
 generalize hw0 : ((w.alloc (.cells #[.int .i64 x, .int .i64 y, .int .i64 z, .int .i64 u] 36)).alloc (.cells #[.int .i64 A.camera, .slice sa A.slots.length sc, .slice ga A.guides.length gc, .slice (some ⟨nb, 0, none⟩) A.nodes.length nc, .slice ra A.vers.length rc] 33)).alloc (.cells #[.int .i64 0, .slice none 0 0, .slice none 0 0, .slice none 0 0, .slice none 0 0] 33) = w0 at *
 show wpList _ _ _ _ _ w0
 clear hw0
 obtain ⟨p0, p1, p2, p3⟩ := P0
 obtain ⟨x0, x1, x2, x3, x4⟩ := row5 X0
 obtain ⟨c2, c2f⟩ := c2
 by_cases hfull : z <= (A.vers.length : Int)
 case pos =>
  have hv : Hid (qz1k z A (k : Int) v next gone kind = (A, -2)) := by show _ = _; simp [qz1k, hfull]
  have OF := O0.kept (S := fun q => q = w.heap.size + 1 + 1) (But.of_only (qz4 (w.heap.size + 1 + 1) [.int .i64 A.camera, .slice sa A.slots.length sc, .slice ga A.guides.length gc, .slice (some ⟨nb, 0, none⟩) A.nodes.length nc, .slice ra A.vers.length rc] 0 w0) rfl) (fun q hq => by have := O.lt q hq; omega)
  have KF := Below.setCells (B := w.heap.size) (b := w.heap.size + 1 + 1) (by omega) [.int .i64 A.camera, .slice sa A.slots.length sc, .slice ga A.guides.length gc, .slice (some ⟨nb, 0, none⟩) A.nodes.length nc, .slice ra A.vers.length rc] 0 _ K0
  go_wp2_with (refine wpList_store_mid rfl 33 (.tmp 14) _ rfl (w.heap.size + 1 + 1) 0 #[.int .i64 A.camera, .slice sa A.slots.length sc, .slice ga A.guides.length gc, .slice (some ⟨nb, 0, none⟩) A.nodes.length nc, .slice ra A.vers.length rc] ?hx ?hy ?ht (by exact qzf) (by simp [Value.oneCell']) ?_)
  case hx => rfl
  case hy => rfl
  case ht => exact F0
  refine bodyPost_ret (v := .tuple #[.agg #[.int .i64 A.camera, .slice sa A.slots.length sc, .slice ga A.guides.length gc, .slice (some ⟨nb, 0, none⟩) A.nodes.length nc, .slice ra A.vers.length rc], .int .i64 (-2)]) ?_ rfl ⟨_, _, _, _, by rw [hv.out], by rw [hv.out]; exact ⟨OF, But.of_below KF, fun q h => Or.inl h⟩⟩
  exact qzh Tryd.results19 _ _ (w.heap.size + 1 + 1) 0 rfl [.int .i64 A.camera, .slice sa A.slots.length sc, .slice ga A.guides.length gc, .slice (some ⟨nb, 0, none⟩) A.nodes.length nc, .slice ra A.vers.length rc] _ (World.rangeAt_setCells_same _ _ _ _ F0) Tryd.underlying33 rfl qzf
 by_cases hh : A.nodes[k].head = v
 case neg =>
  have bh : (A.nodes[k].head == v) = false := by simp [hh]
  have bh' : (A.nodes[k].head != v) = true := by simp [hh]
  have hv : Hid (qz1k z A (k : Int) v next gone kind = (A, -1)) := by show _ = _; simp [qz1k, hfull, hnd, hh]
  have OF := O0.kept (S := fun q => q = w.heap.size + 1 + 1) (But.of_only (qz4 (w.heap.size + 1 + 1) [.int .i64 A.camera, .slice sa A.slots.length sc, .slice ga A.guides.length gc, .slice (some ⟨nb, 0, none⟩) A.nodes.length nc, .slice ra A.vers.length rc] 0 w0) rfl) (fun q hq => by have := O.lt q hq; omega)
  have KF := Below.setCells (B := w.heap.size) (b := w.heap.size + 1 + 1) (by omega) [.int .i64 A.camera, .slice sa A.slots.length sc, .slice ga A.guides.length gc, .slice (some ⟨nb, 0, none⟩) A.nodes.length nc, .slice ra A.vers.length rc] 0 _ K0
  go_wp2_with (refine wpList_store_mid rfl 33 (.tmp 14) _ rfl (w.heap.size + 1 + 1) 0 #[.int .i64 A.camera, .slice sa A.slots.length sc, .slice ga A.guides.length gc, .slice (some ⟨nb, 0, none⟩) A.nodes.length nc, .slice ra A.vers.length rc] ?hx2 ?hy2 ?ht2 (by exact qzf) (by simp [Value.oneCell']) ?_)
  try (case hx2 => rfl)
  try (case hy2 => rfl)
  try (case ht2 => exact F0)
  refine bodyPost_ret (v := .tuple #[.agg #[.int .i64 A.camera, .slice sa A.slots.length sc, .slice ga A.guides.length gc, .slice (some ⟨nb, 0, none⟩) A.nodes.length nc, .slice ra A.vers.length rc], .int .i64 (-1)]) ?_ rfl ⟨_, _, _, _, by rw [hv.out], by rw [hv.out]; exact ⟨OF, But.of_below KF, fun q h => Or.inl h⟩⟩
  exact qzh Tryd.results19 _ _ (w.heap.size + 1 + 1) 0 rfl [.int .i64 A.camera, .slice sa A.slots.length sc, .slice ga A.guides.length gc, .slice (some ⟨nb, 0, none⟩) A.nodes.length nc, .slice ra A.vers.length rc] _ (World.rangeAt_setCells_same _ _ _ _ F0) Tryd.underlying33 rfl qzf
 subst hh
 have hv : Hid (qz1k z A (k : Int) A.nodes[k].head next gone kind = ({ A with vers := A.vers ++ [⟨next, gone, -1, A.nodes[k].head, kind⟩], nodes := A.nodes.set k { A.nodes[k] with head := (A.vers.length : Int) } }, (A.vers.length : Int))) := by show _ = _; simp [qz1k, hfull, hnd]
 obtain ⟨i0, hi, hzr, hsz, hby⟩ := info_parts qz5e
 have f4 : w0.frozen? ⟨w.heap.size + 1, 4, none⟩ = false := by simpa using (G0 4 (by decide)).2
 have hrb : ∀ j, Value.ownBlock (.slice ra A.vers.length rc) = some j -> j < w.heap.size := fun j e => qz2s O.rr e
 have hnr : Value.ownBlock (.slice ra A.vers.length rc) ≠ some nb := qz7a O.rn O.rr (by decide) nb rfl
 have OR := O0.rr.alloc (.cells #[.int .i64 next, .bool gone, .int .i64 (-1), .int .i64 A.nodes[k].head, .int .i64 kind] 60)
 have news := qz6 w0 (vrC ⟨next, gone, -1, A.nodes[k].head, kind⟩) 60
 go_upto_region 6 with fail
 go_wp2_with (at_builtin; refine wpList_append_own_at _ rfl _ _ 31 rfl base 60 i0 _ 5 40 Tryd.underlying31 hi hzr hsz hby rfl (by decide) _ _ _ rfl OR ⟨w0.heap.size, 0, none⟩ 1 1 (vrC ⟨next, gone, -1, A.nodes[k].head, kind⟩) rfl rfl ?n1 ?n2 ?n3 ?n4 ?n5 ?_)
 case n1 => exact fun j q hq => hq
 case n2 => exact qz8q _
 case n3 => unfold maxLen; omega
 case n4 => omega
 case n5 => omega
 intro r2 w1 hown hgrow _ hat
 obtain ⟨ra2, rc2, rfl⟩ := qz15 hown
 have hsA : (w0.alloc (.cells #[.int .i64 next, .bool gone, .int .i64 (-1), .int .i64 A.nodes[k].head, .int .i64 kind] 60)).heap.size = w0.heap.size + 1 := by simp
 have B01 : But (fun q => Value.ownBlock (.slice ra A.vers.length rc) = some q) w0 w1 := ⟨hgrow.os, hgrow.tape, hgrow.output, Nat.le_trans (by omega) hgrow.size, fun q hq hn => (hgrow.block q (by omega) (fun e => hn e.symm)).trans (Below.heap_alloc _ _ _ hq)⟩
 have far : ∀ b o, b < w0.heap.size -> Value.ownBlock (.slice ra A.vers.length rc) ≠ some b -> w1.cell? ⟨b, o, none⟩ = w0.cell? ⟨b, o, none⟩ := fun b o h1 h2 => B01.cell (p := ⟨b, o, none⟩) h1 h2
 have farf : ∀ b o, b < w0.heap.size -> Value.ownBlock (.slice ra A.vers.length rc) ≠ some b -> w1.frozen? ⟨b, o, none⟩ = w0.frozen? ⟨b, o, none⟩ := fun b o h1 h2 => B01.frozen (p := ⟨b, o, none⟩) h1 h2
 have hr1 : Value.ownBlock (.slice ra A.vers.length rc) ≠ some (w.heap.size + 1) := fun e => by have := hrb _ e; omega
 have hr2 : Value.ownBlock (.slice ra A.vers.length rc) ≠ some (w.heap.size + 1 + 1) := fun e => by have := hrb _ e; omega
 have y0 := (far (w.heap.size + 1) 0 (by omega) hr1).trans x0
 have y1 := (far (w.heap.size + 1) 1 (by omega) hr1).trans x1
 have y2 := (far (w.heap.size + 1) 2 (by omega) hr1).trans x2
 have y3 := (far (w.heap.size + 1) 3 (by omega) hr1).trans x3
 have y4 := (far (w.heap.size + 1) 4 (by omega) hr1).trans x4
 have z4 := (farf (w.heap.size + 1) 4 (by omega) hr1).trans f4
 have m2 := (far nb (k * 3 + 2) (by omega) hnr).trans c2
 have m2f := (farf nb (k * 3 + 2) (by omega) hnr).trans c2f
 have F1 : w1.there (w.heap.size + 1 + 1) 0 5 := B01.there F0 (by omega) hr2
 have e1 : ¬ (nb = w.heap.size + 1) := by omega
 have e2 : ¬ (w.heap.size + 1 = nb) := by omega
 have F3 : ((w1.setCell ⟨w.heap.size + 1, 4, none⟩ (.slice ra2 (A.vers.length + 1) rc2)).setCell ⟨nb, k * 3 + 2, none⟩ (.int .i64 (A.vers.length : Int))).there (w.heap.size + 1 + 1) 0 5 := qzp (qzp F1 _ _) _ _
 have B13 : But (fun q => q = w.heap.size + 1 ∨ q = nb ∨ q = w.heap.size + 1 + 1) w1 (((w1.setCell ⟨w.heap.size + 1, 4, none⟩ (.slice ra2 (A.vers.length + 1) rc2)).setCell ⟨nb, k * 3 + 2, none⟩ (.int .i64 (A.vers.length : Int))).setCells (w.heap.size + 1 + 1) 0 [.int .i64 A.camera, .slice sa A.slots.length sc, .slice ga A.guides.length gc, .slice (some ⟨nb, 0, none⟩) A.nodes.length nc, .slice ra2 (A.vers.length + 1) rc2]) :=
  (But.of_only ((Only.refl (w.heap.size + 1) w1).setCell (p := ⟨w.heap.size + 1, 4, none⟩) (Or.inl rfl) _) (Or.inl rfl)).trans ((But.of_only ((Only.refl nb _).setCell (p := ⟨nb, k * 3 + 2, none⟩) (Or.inl rfl) _) (Or.inr (Or.inl rfl))).trans (But.of_only (qz4 (w.heap.size + 1 + 1) _ 0 _) (Or.inr (Or.inr rfl))))
 have B03 : But (fun q => Value.ownBlock (.slice ra A.vers.length rc) = some q ∨ q = w.heap.size + 1 ∨ q = nb ∨ q = w.heap.size + 1 + 1) w0 (((w1.setCell ⟨w.heap.size + 1, 4, none⟩ (.slice ra2 (A.vers.length + 1) rc2)).setCell ⟨nb, k * 3 + 2, none⟩ (.int .i64 (A.vers.length : Int))).setCells (w.heap.size + 1 + 1) 0 [.int .i64 A.camera, .slice sa A.slots.length sc, .slice ga A.guides.length gc, .slice (some ⟨nb, 0, none⟩) A.nodes.length nc, .slice ra2 (A.vers.length + 1) rc2]) := (B01.mono (fun _ h => Or.inl h)).trans (B13.mono (fun _ h => Or.inr h))
 have hn1 := qz2e O0.rn B01 (fun j e => by simp [Value.ownBlock] at e; subst e; exact hnr)
 have hn2 := qz2e hn1 (But.of_only (S := fun q => q = w.heap.size + 1) ((Only.refl (w.heap.size + 1) w1).setCell (p := ⟨w.heap.size + 1, 4, none⟩) (Or.inl rfl) (.slice ra2 (A.vers.length + 1) rc2)) rfl) (fun j e => by simp [Value.ownBlock] at e; subst e; exact e1)
 have hn3 := qz9p hn2 (k * 3 + 2) (by omega) (.int .i64 (A.vers.length : Int))
 rw [<- qz4c (f := ndC) (sz := 3) (fun _ => rfl) A.nodes k hk 2 (by omega) { A.nodes[k] with head := (A.vers.length : Int) } (.int .i64 (A.vers.length : Int)) rfl] at hn3
 have hn4 := qz2e hn3 (But.of_only (S := fun q => q = w.heap.size + 1 + 1) (qz4 (w.heap.size + 1 + 1) [.int .i64 A.camera, .slice sa A.slots.length sc, .slice ga A.guides.length gc, .slice (some ⟨nb, 0, none⟩) A.nodes.length nc, .slice ra2 (A.vers.length + 1) rc2] 0 _) rfl) (fun j e => by simp [Value.ownBlock] at e; omega)
 have hr4 := qz2e hown B13 (fun j e => by
  rcases hat with h | h
  ·rw [h] at e
   have := hrb j e
   rintro (h1 | h1 | h1)
   ·omega
   ·subst h1; exact hnr e
   ·omega
  ·rw [h] at e
   simp only [Option.some.injEq] at e
   rintro (h1 | h1 | h1) <;> omega)
 have OF : qz19 base (((w1.setCell ⟨w.heap.size + 1, 4, none⟩ (.slice ra2 (A.vers.length + 1) rc2)).setCell ⟨nb, k * 3 + 2, none⟩ (.int .i64 (A.vers.length : Int))).setCells (w.heap.size + 1 + 1) 0 [.int .i64 A.camera, .slice sa A.slots.length sc, .slice ga A.guides.length gc, .slice (some ⟨nb, 0, none⟩) A.nodes.length nc, .slice ra2 (A.vers.length + 1) rc2]) (.slice sa A.slots.length sc) (.slice ga A.guides.length gc) (.slice (some ⟨nb, 0, none⟩) A.nodes.length nc) (.slice ra2 (A.vers.length + 1) rc2) { A with vers := A.vers ++ [⟨next, gone, -1, A.nodes[k].head, kind⟩], nodes := A.nodes.set k { A.nodes[k] with head := (A.vers.length : Int) } } := by
  refine ⟨qz2e O0.rs B03 ?_, qz2e O0.rg B03 ?_, by simpa using hn4, by simpa [qze] using hr4, O.ne⟩
  ·intro j e
   have h1 := qz2s O.rs e
   rintro (h2 | h2 | h2 | h2)
   ·exact qz7a O.rs O.rr (by decide) j e h2
   ·omega
   ·subst h2; exact qz7a O.rs O.rn (by decide) _ e rfl
   ·omega
  ·intro j e
   have h1 := qz2s O.rg e
   rintro (h2 | h2 | h2 | h2)
   ·exact qz7a O.rg O.rr (by decide) j e h2
   ·omega
   ·subst h2; exact qz7a O.rg O.rn (by decide) _ e rfl
   ·omega
 have BF : But (OwnB (.slice sa A.slots.length sc) (.slice ga A.guides.length gc) (.slice (some ⟨nb, 0, none⟩) A.nodes.length nc) (.slice ra A.vers.length rc)) w (((w1.setCell ⟨w.heap.size + 1, 4, none⟩ (.slice ra2 (A.vers.length + 1) rc2)).setCell ⟨nb, k * 3 + 2, none⟩ (.int .i64 (A.vers.length : Int))).setCells (w.heap.size + 1 + 1) 0 [.int .i64 A.camera, .slice sa A.slots.length sc, .slice ga A.guides.length gc, .slice (some ⟨nb, 0, none⟩) A.nodes.length nc, .slice ra2 (A.vers.length + 1) rc2]) :=
  ⟨B03.os.trans K0.os, B03.tape.trans K0.tape, B03.output.trans K0.output, Nat.le_trans K0.size B03.size, fun q hq hn => (B03.block q (by omega) (by
   rintro (h2 | h2 | h2 | h2)
   ·exact hn (Or.inr (Or.inr (Or.inr h2)))
   ·omega
   ·subst h2; exact hn (Or.inr (Or.inr (Or.inl rfl)))
   ·omega)).trans (K0.block q hq)⟩
 have LF : ∀ q, OwnB (.slice sa A.slots.length sc) (.slice ga A.guides.length gc) (.slice (some ⟨nb, 0, none⟩) A.nodes.length nc) (.slice ra2 (A.vers.length + 1) rc2) q -> OwnB (.slice sa A.slots.length sc) (.slice ga A.guides.length gc) (.slice (some ⟨nb, 0, none⟩) A.nodes.length nc) (.slice ra A.vers.length rc) q ∨ w.heap.size <= q := by
  rintro q (h | h | h | h)
  ·exact Or.inl (Or.inl h)
  ·exact Or.inl (Or.inr (Or.inl h))
  ·exact Or.inl (Or.inr (Or.inr (Or.inl h)))
  ·rcases hat with h' | h'
   ·rw [h'] at h; exact Or.inl (Or.inr (Or.inr (Or.inr h)))
   ·rw [h'] at h
    simp only [Option.some.injEq] at h
    exact Or.inr (by omega)
 clear x0 x1 x2 x3 x4 f4 c2 c2f far farf hown hgrow hat OR news B01 B03 B13 hn1 hn2 hn3 hn4 hr4 p0 p1 p2 p3
 go_wp2_with (refine wpList_store_mid rfl 33 (.tmp 14) _ rfl (w.heap.size + 1 + 1) 0 #[.int .i64 A.camera, .slice sa A.slots.length sc, .slice ga A.guides.length gc, .slice (some ⟨nb, 0, none⟩) A.nodes.length nc, .slice ra2 (A.vers.length + 1) rc2] ?hx3 ?hy3 ?ht3 (by exact qzf) (by simp [Value.oneCell']) ?_)
 try (case hx3 => rfl)
 try (case hy3 => rfl)
 try (case ht3 => exact F3)
 refine bodyPost_ret (v := .tuple #[.agg #[.int .i64 A.camera, .slice sa A.slots.length sc, .slice ga A.guides.length gc, .slice (some ⟨nb, 0, none⟩) A.nodes.length nc, .slice ra2 (A.vers.length + 1) rc2], .int .i64 (A.vers.length : Int)]) ?_ rfl ⟨_, _, _, _, by rw [hv.out], by rw [hv.out]; exact ⟨OF, BF, LF⟩⟩
 exact qzh Tryd.results19 _ _ (w.heap.size + 1 + 1) 0 rfl [.int .i64 A.camera, .slice sa A.slots.length sc, .slice ga A.guides.length gc, .slice (some ⟨nb, 0, none⟩) A.nodes.length nc, .slice ra2 (A.vers.length + 1) rc2] _ (World.rangeAt_setCells_same _ _ _ _ F3) Tryd.underlying33 rfl qzf
end
section
attribute [local go_sem ↓] Go.wp_at_zero Go.wp_at_succ
def qz2l (z : Int) (A : Ar) (node : Int) (V : Vr) : Nat :=
 if z <= (A.vers.length : Int) then 0 else if (ndOf A node).head ≠ V.prev then 1 else if verR A.nodes.length A.camera (A.vers.length : Int) V = false then 2 else 3
theorem qz92 (z : Int) (A : Ar) (node : Int) (V : Vr) : qz2l z A node V < 4 := by
 unfold qz2l
 repeat' split
 all_goals decide
def qz75 (A : Ar) (node : Int) (V : Vr) (c : Nat) : Ar := if c = 3 then { A with vers := A.vers ++ [V], nodes := A.nodes.set node.toNat { ndOf A node with head := (A.vers.length : Int) } } else A
def qz9b (A : Ar) (c : Nat) : Int := if c = 3 then (A.vers.length : Int) else -1
def qz9w (w : World) (cb q : Nat) : Prop := q = cb ∨ (∃ m, Blk w q 91 m) ∨ ∃ m, Blk w q 74 m
theorem qzj.grow_v {base : Nat} {w3 w4 : World} {cb : Nat} {s g n r : Value} {ps qs : List Addr} {A : Ar} (C : qzj base w3 cb s g n r ps qs A) (r2 : Value) (fb : Nat) (V : Vr) (hown : w4.ownsRow base 91 1 r2 (A.vers.length + 1) (qz1 ptrC qs ++ [.pointer (some ⟨fb, 0, none⟩)])) (O : But (fun q => r.ownBlock = some q) w3 w4) (hb : base <= fb) (hB : Blk w3 fb 60 5) (R : w3.rangeAt fb 0 (vrC V)) (hn : ∀ (i c o : Nat), qs[i]? = some ⟨c, o, none⟩ -> c ≠ fb) :
  qzj base (w4.setCell ⟨cb, 4, none⟩ r2) cb s g n r2 ps (qs ++ [⟨fb, 0, none⟩]) { A with vers := A.vers ++ [V] } := by
 have hno : ∀ (t : TypeId), t ≠ 91 -> ∀ b m, Blk w3 b t m -> ¬ r.ownBlock = some b := fun t ht b m hm he => by
  obtain ⟨m', -, hm'⟩ := qz26 C.sr he
  exact (hm.ne hm' ht) rfl
 have c4 : Blk w4 cb 87 5 := C.blk.but O (hno _ (by decide) _ _ C.blk)
 have O5 : But (fun q => q = cb) w4 (w4.setCell ⟨cb, 4, none⟩ r2) := But.of_only ((Only.refl cb w4).setCell (Or.inl rfl) _) rfl
 have no5 : ∀ (t : TypeId), t ≠ 87 -> ∀ b m, Blk w4 b t m -> ¬ b = cb := fun t ht b m hm he => (hm.ne c4 ht) he
 refine ⟨?_, c4.setCell _ _, C.lo, qz13 (qz13 C.ss O (fun b m _ h => hno _ (by decide) b m h)) O5 (fun b m _ h => no5 _ (by decide) b m h), qz13 (qz13 C.sg O (fun b m _ h => hno _ (by decide) b m h)) O5 (fun b m _ h => no5 _ (by decide) b m h), qz13 (qz13 C.sn O (fun b m _ h => hno _ (by decide) b m h)) O5 (fun b m _ h => no5 _ (by decide) b m h), ?_, (C.np.but O (fun b m _ h => hno _ (by decide) b m h)).but O5 (fun b m _ h => no5 _ (by decide) b m h), ?_, C.ne⟩
 ·exact qz1t (O.range C.row C.blk.lt (hno _ (by decide) _ _ C.blk)) 4 (by show 4 < 5; omega) r2
 ·have h := qz13 hown O5 (fun b m _ h => no5 _ (by decide) b m h)
  have e1 : (A.vers ++ [V]).length = A.vers.length + 1 := by simp
  have e2 : qz1 ptrC (qs ++ [⟨fb, 0, none⟩]) = qz1 ptrC qs ++ [.pointer (some ⟨fb, 0, none⟩)] := by rw [qze]; rfl
  show World.ownsRow _ _ _ _ _ (A.vers ++ [V]).length _
  rw [e1, e2]
  exact h
 ·have hf := hno _ (by decide) _ _ hB
  have hB4 := hB.but O hf
  have hf5 := no5 _ (by decide) _ _ hB4
  exact ((C.vp.but O (fun b m _ h => hno _ (by decide) b m h)).but O5 (fun b m _ h => no5 _ (by decide) b m h)).snoc (f := vrC) (sz := 5) (fun _ => rfl) V fb hb (hB4.but O5 hf5) (O5.range (O.range R hB.lt hf) hB4.lt hf5) hn
theorem qz9z : (Tryd.prog.info? 91).map (fun i => (i.zero, i.size, i.bytes)) = some (some (.pointer none), 1, 8) := by kernel_rfl
theorem qz5i (base : Nat) (cb : Nat) (s g n r : Value) (ps qs : List Addr) (A : Ar) (x y z u node : Int) (V : Vr) (eN eF eU : Addr) (w : World) (hbase : base <= w.heap.size) (hA : A.size <= 1048576) (C : qzj base w cb s g n r ps qs A) (hn0 : 0 <= node) (hn1 : node < (A.nodes.length : Int)) (hr0 : 0 < A.vers.length) (E : Errs base w eN eF eU) :
  Calls Tryd.prog 27 #[.pointer (some ⟨cb, 0, none⟩), .agg #[.int .i64 x, .int .i64 y, .int .i64 z, .int .i64 u], .int .i64 node, .agg (vrC V).toArray] w fun e w' => ∃ r' qs', e = .returned (.tuple #[.int .i64 (qz9b A (qz2l z A node V)), errV eN eF eU (qz2l z A node V)]) /\ qzj base w' cb s g n r' ps qs' (qz75 A node V (qz2l z A node V)) /\ Below base w w' /\ But (qz9w w cb) w w' := by
 have hA' := hA
 unfold Ar.size at hA
 have P0 := World.rangeAt_alloc (qz6 w [.int .i64 x, .int .i64 y, .int .i64 z, .int .i64 u] 36) (.cells (vrC V).toArray 60)
 have V0 := qz6 (w.alloc (.cells #[.int .i64 x, .int .i64 y, .int .i64 z, .int .i64 u] 36)) (vrC V) 60
 have B0 := Blk.new (w.alloc (.cells #[.int .i64 x, .int .i64 y, .int .i64 z, .int .i64 u] 36)) (vrC V).toArray 60
 have K0 := ((Below.refl w.heap.size w).alloc (Nat.le_refl _) (.cells #[.int .i64 x, .int .i64 y, .int .i64 z, .int .i64 u] 36)).alloc (by simp) (.cells (vrC V).toArray 60)
 have C0 := C.grown K0
 have E0 := E.below (K0.mono hbase)
 have hz0 : w.heap.size + 1 < ((w.alloc (.cells #[.int .i64 x, .int .i64 y, .int .i64 z, .int .i64 u] 36)).alloc (.cells (vrC V).toArray 60)).heap.size := by simp
 simp only [World.size_alloc] at V0 B0
 replace B0 : Blk ((w.alloc (.cells #[.int .i64 x, .int .i64 y, .int .i64 z, .int .i64 u] 36)).alloc (.cells (vrC V).toArray 60)) (w.heap.size + 1) 60 5 := B0
 obtain ⟨ra, rc, rfl⟩ := qz15 C.sr
 obtain ⟨rb, rfl, hrbB, -, -, -⟩ := qz6b C.sr hr0
 obtain ⟨na, nc, rfl⟩ := qz15 C.sn
 obtain ⟨nb, rfl, hnbB, -, -, -⟩ := qz6b C.sn (by omega)
 obtain ⟨nk, hnk⟩ : ∃ k : Nat, node = k := ⟨node.toNat, by omega⟩
 subst hnk
 have hnl : nk < A.nodes.length := by omega
 have hnd : ndOf A (nk : Int) = A.nodes[nk] := qz2f A nk hnl
 go_enter Tryd.func27, Tryd.ntmps27
 go_upto_region 1 with fail
 generalize hw0 : (w.alloc (.cells #[.int .i64 x, .int .i64 y, .int .i64 z, .int .i64 u] 36)).alloc (.cells (vrC V).toArray 60) = w0 at *
 clear hw0
 obtain ⟨_, e9, -, -, -, RN⟩ := qz6b C0.sn (by omega)
 cases e9
 obtain ⟨vb, vo, vm, p1, plo, p3, pfit, p5⟩ := C0.np.at' nk hnl
 have hpc : w0.cell? ⟨nb, nk, none⟩ = some (.pointer (some ⟨vb, vo, none⟩)) := by
  have hkp : nk < ps.length := by rw [C0.np.len]; exact hnl
  have h1 := (qz9 (sz := 1) (f := ptrC) (fun _ => rfl) RN nk hkp) 0 (.pointer (some ps[nk])) rfl
  have p1' := p1
  rw [List.getElem?_eq_getElem hkp] at p1'
  rw [Option.some.inj p1'] at h1
  simpa using h1
 obtain ⟨x0, x1, x2, x3, x4⟩ := row5 C0.row
 have p2 : w0.cell? ⟨w.heap.size, 2, none⟩ = some (.int .i64 z) := by simpa using P0 2 (.int .i64 z) rfl
 have hnk0 : (0 : Int) <= (nk : Int) := by omega
 have hnk1 : (nk : Int) < (A.nodes.length : Int) := by omega
 have q2 : w0.cell? ⟨vb, vo + 2, none⟩ = some (.int .i64 A.nodes[nk].head) := p5 2 _ rfl
 have v3 : w0.cell? ⟨w.heap.size + 1, 3, none⟩ = some (.int .i64 V.prev) := by simpa using V0 3 (.int .i64 V.prev) rfl
 clear RN
 have hndH : Hid (ndOf A (nk : Int) = A.nodes[nk]) := hnd
 clear hnd
 go_quiet (fail)
 have E1 : Errs base (w0.drewN nq) eN eF eU := E0.below ⟨rfl, rfl, rfl, Nat.le_refl _, fun _ _ => rfl⟩
 have C1 : qzj base (w0.drewN nq) cb s g (.slice (some ⟨nb, 0, none⟩) A.nodes.length nc) (.slice (some ⟨rb, 0, none⟩) A.vers.length rc) ps qs A := C0.grown ⟨rfl, rfl, rfl, Nat.le_refl _, fun _ _ => rfl⟩
 have K1 : Below w.heap.size w (w0.drewN nq) := ⟨K0.os, K0.tape, K0.output, K0.size, K0.block⟩
 have V1 : (w0.drewN nq).rangeAt (w.heap.size + 1) 0 (vrC V) := V0
 have B1 : Blk (w0.drewN nq) (w.heap.size + 1) 60 5 := B0
 have y2 : (w0.drewN nq).cell? ⟨w.heap.size, 2, none⟩ = some (.int .i64 z) := p2
 have y3 : (w0.drewN nq).cell? ⟨w.heap.size + 1, 3, none⟩ = some (.int .i64 V.prev) := v3
 have z2 : (w0.drewN nq).cell? ⟨vb, vo + 2, none⟩ = some (.int .i64 A.nodes[nk].head) := q2
 have zB : Blk (w0.drewN nq) vb 74 vm := p3
 have t0 : (w0.drewN nq).cell? ⟨cb, 0, none⟩ = some (.int .i64 A.camera) := x0
 have t3 : (w0.drewN nq).cell? ⟨cb, 3, none⟩ = some (.slice (some ⟨nb, 0, none⟩) A.nodes.length nc) := x3
 have t4 : (w0.drewN nq).cell? ⟨cb, 4, none⟩ = some (.slice (some ⟨rb, 0, none⟩) A.vers.length rc) := x4
 have hz1 : w.heap.size + 1 < (w0.drewN nq).heap.size := hz0
 generalize hw1 : w0.drewN nq = w1 at *
 clear hw1 P0 V0 B0 K0 C0 E0 hz0 x0 x1 x2 x3 x4 p2 q2 v3 hpc p3 p5 E
 have hgN := E1.gN
 have hgF := E1.gF
 have hgU := E1.gU
 have BK : But (qz9w w cb) w w1 := But.of_below K1
 have KB : Below base w w1 := K1.mono hbase
 by_cases hfull : z <= (A.vers.length : Int)
 case pos =>
  have hv : Hid (qz2l z A (nk : Int) V = 0) := by show _ = _; simp [qz2l, hfull]
  clear hgF hgU y3 z2 t0 t3 t4
  go_wp2_with fail
  go_quiet (fail)
  go_wp2
  go_ret2
  rw [hv.out]
  exact ⟨_, qs, rfl, C1.grown ⟨rfl, rfl, rfl, Nat.le_refl _, fun _ _ => rfl⟩, ⟨KB.os, KB.tape, KB.output, KB.size, KB.block⟩, ⟨BK.os, BK.tape, BK.output, BK.size, BK.block⟩⟩
 by_cases hh : A.nodes[nk].head = V.prev
 case neg =>
  have bh' : (A.nodes[nk].head != V.prev) = true := by simp [hh]
  have hv : Hid (qz2l z A (nk : Int) V = 1) := by show _ = _; simp [qz2l, hfull, hndH.out, hh]
  clear hgN hgU t0 t3 t4
  go_wp2_with fail
  go_quiet (fail)
  go_wp2_with fail
  go_quiet (fail)
  go_wp2
  go_ret2
  rw [hv.out]
  exact ⟨_, qs, rfl, C1.grown ⟨rfl, rfl, rfl, Nat.le_refl _, fun _ _ => rfl⟩, ⟨KB.os, KB.tape, KB.output, KB.size, KB.block⟩, ⟨BK.os, BK.tape, BK.output, BK.size, BK.block⟩⟩
 have bh' : (A.nodes[nk].head != V.prev) = false := by simp [hh]
 have hhH : Hid (A.nodes[nk].head = V.prev) := hh
 have hfullH : Hid (¬ z <= (A.vers.length : Int)) := hfull
 have hfull' : decide (z <= (A.vers.length : Int)) = false := by simp [hfull]
 clear hh hgN hgF
 go_wp2_with fail
 go_quiet (fail)
 have E2 : Errs base (w1.drewN nq) eN eF eU := E1.below ⟨rfl, rfl, rfl, Nat.le_refl _, fun _ _ => rfl⟩
 have C2 : qzj base (w1.drewN nq) cb s g (.slice (some ⟨nb, 0, none⟩) A.nodes.length nc) (.slice (some ⟨rb, 0, none⟩) A.vers.length rc) ps qs A := C1.grown ⟨rfl, rfl, rfl, Nat.le_refl _, fun _ _ => rfl⟩
 have K2 : Below w.heap.size w (w1.drewN nq) := ⟨K1.os, K1.tape, K1.output, K1.size, K1.block⟩
 have V2 : (w1.drewN nq).rangeAt (w.heap.size + 1) 0 (vrC V) := V1
 have B2 : Blk (w1.drewN nq) (w.heap.size + 1) 60 5 := B1
 have s0 : (w1.drewN nq).cell? ⟨cb, 0, none⟩ = some (.int .i64 A.camera) := t0
 have s3 : (w1.drewN nq).cell? ⟨cb, 3, none⟩ = some (.slice (some ⟨nb, 0, none⟩) A.nodes.length nc) := t3
 have hz2 : w.heap.size + 1 < (w1.drewN nq).heap.size := hz1
 generalize hw2 : w1.drewN nq = w2 at *
 clear hw2 V1 B1 K1 C1 E1 hz1 t0 t3 t4 y2 y3 z2 zB hgU BK KB
 go_wp2_with fail
 refine qz41 10 (by kernel_rfl) (by kernel_rfl) ?_
 simp only [List.take_succ_cons, List.take_zero, List.drop_succ_cons, List.drop_zero]
 repeat (quiet_step (fail))
 refine wpQuiet_nil ?_
 rintro _ ⟨nr, rfl⟩
 have E3 : Errs base (w2.drewN nr) eN eF eU := E2.below ⟨rfl, rfl, rfl, Nat.le_refl _, fun _ _ => rfl⟩
 have C3 : qzj base (w2.drewN nr) cb s g (.slice (some ⟨nb, 0, none⟩) A.nodes.length nc) (.slice (some ⟨rb, 0, none⟩) A.vers.length rc) ps qs A := C2.grown ⟨rfl, rfl, rfl, Nat.le_refl _, fun _ _ => rfl⟩
 have K3 : Below w.heap.size w (w2.drewN nr) := ⟨K2.os, K2.tape, K2.output, K2.size, K2.block⟩
 have V3 : (w2.drewN nr).rangeAt (w.heap.size + 1) 0 (vrC V) := V2
 have B3 : Blk (w2.drewN nr) (w.heap.size + 1) 60 5 := B2
 have hz3 : w.heap.size + 1 < (w2.drewN nr).heap.size := hz2
 generalize hw3 : w2.drewN nr = w3 at *
 clear hw3 V2 B2 K2 C2 E2 hz2 s0 s3
 go_wp2_with fail
 refine (qz3f (w.heap.size + 1) 0 V (A.vers.length : Int) A.camera A.nodes.length w3 (by omega) (by omega) (by omega) V3).mono ?_
 rintro e w' ⟨rfl, hw⟩
 obtain rfl := hw.symm
 have BK : But (qz9w w cb) w w3 := But.of_below K3
 have KB : Below base w w3 := K3.mono hbase
 cases hvr : verR A.nodes.length A.camera (A.vers.length : Int) V
 case false =>
  have hv : Hid (qz2l z A (nk : Int) V = 2) := by show _ = _; simp [qz2l, hfullH.out, hndH.out, hhH.out, hvr]
  have hgU := E3.gU
  go_wp2_with fail
  go_quiet (fail)
  go_wp2
  go_ret2
  rw [hv.out]
  exact ⟨_, qs, rfl, C3.grown ⟨rfl, rfl, rfl, Nat.le_refl _, fun _ _ => rfl⟩, ⟨KB.os, KB.tape, KB.output, KB.size, KB.block⟩, ⟨BK.os, BK.tape, BK.output, BK.size, BK.block⟩⟩
 case true =>
  have hv : Hid (qz2l z A (nk : Int) V = 3) := by show _ = _; simp [qz2l, hfullH.out, hndH.out, hhH.out, hvr]
  obtain ⟨x0, x1, x2, x3, x4⟩ := row5 C3.row
  have T3 := C3.blk.there 4 1 (by omega)
  have f4 : w3.frozen? ⟨cb, 4, none⟩ = false := (T3 0 (by omega)).2
  obtain ⟨vb', vo', vm', p1', plo', p3', pfit', p5'⟩ := C3.np.at' nk hnl
  rw [p1] at p1'
  injection p1' with p1'
  injection p1' with p1' p1''
  subst p1' p1''
  have q2 : w3.cell? ⟨vb, vo + 2, none⟩ = some (.int .i64 A.nodes[nk].head) := p5' 2 _ rfl
  have f2 : w3.frozen? ⟨vb, vo + 2, none⟩ = false := (p3'.there (vo + 2) 1 (by omega) 0 (by omega)).2
  obtain ⟨i0, hi, hzr, hsz, hby⟩ := info_parts qz9z
  have OR := C3.sr.alloc (.cells #[.pointer (some ⟨w.heap.size + 1, 0, none⟩)] 91)
  have news := cell_one_new w3 (.pointer (some ⟨w.heap.size + 1, 0, none⟩)) 91
  have hbs : base <= w3.heap.size := Nat.le_trans hbase K3.size
  have al3 := (Below.refl w3.heap.size w3).alloc (Nat.le_refl _) (.cells #[.pointer (some ⟨w.heap.size + 1, 0, none⟩)] 91)
  go_wp2_with (at_builtin; refine wpList_append_own_at _ rfl _ _ 84 rfl base 91 i0 _ 1 8 Tryd.underlying84 hi hzr hsz hby rfl (by decide) _ _ _ rfl OR ⟨w3.heap.size, 0, none⟩ 1 1 [.pointer (some ⟨w.heap.size + 1, 0, none⟩)] rfl rfl ?n1 ?n2 ?n3 ?n4 ?n5 ?_)
  case n1 => exact news
  case n2 => intro u hu; simp at hu; subst hu; rfl
  case n3 => unfold maxLen; omega
  case n4 => omega
  case n5 => simp; omega
  intro r2 w4 hown hgrow _ hat
  obtain ⟨ra2, rc2, hr2⟩ := qz15 hown
  subst hr2
  have O4 : But (fun q => Value.ownBlock (.slice (some ⟨rb, 0, none⟩) A.vers.length rc) = some q) w3 w4 := ⟨hgrow.os, hgrow.tape, hgrow.output, Nat.le_trans (by simp) hgrow.size, fun q hq hn => (hgrow.block q (by simp; omega) (fun e => hn e.symm)).trans (Below.heap_alloc _ _ _ hq)⟩
  have hfb : ∀ (i c o : Nat), qs[i]? = some ⟨c, o, none⟩ -> c ≠ w.heap.size + 1 := fun i c o hi he => by
   have hil : i < A.vers.length := by
    rcases Nat.lt_or_ge i qs.length with h | h
    ·rw [<- C.vp.len]; exact h
    ·rw [List.getElem?_eq_none h] at hi; cases hi
   obtain ⟨b', o', m', h1, _, h3, _, _⟩ := C.vp.at' i hil
   rw [hi] at h1
   injection h1 with h1
   injection h1 with h1 h1'
   have := h3.lt
   omega
  have C5 := C3.grow_v (.slice ra2 (A.vers.length + 1) rc2) (w.heap.size + 1) V hown O4 (by omega) B3 V3 hfb
  have C6 := C5.node nk hnl vb vo p1 2 (by omega) (.int .i64 (A.vers.length : Int)) { A.nodes[nk] with head := (A.vers.length : Int) } rfl
  obtain ⟨rm, -, hrB⟩ := qz26 C.sr (b := rb) rfl
  obtain ⟨vb1, vo1, vm1, g1, -, g3, -, -⟩ := C.np.at' nk hnl
  rw [p1] at g1
  injection g1 with g1
  injection g1 with g1 g1'
  subst g1 g1'
  have e1 : ¬ (vb = cb) := g3.ne C.blk (by decide)
  have e2 : ¬ (cb = vb) := fun h => e1 h.symm
  have er1 : ¬ (some rb = some cb) := fun h => hrB.ne C.blk (by decide) (Option.some.inj h)
  have er2 : ¬ (some rb = some vb) := fun h => hrB.ne g3 (by decide) (Option.some.inj h)
  have hcbl : cb < w3.heap.size := C3.blk.lt
  have hvbl : vb < w3.heap.size := p3'.lt
  have y4 : w4.cell? ⟨cb, 4, none⟩ = some (.slice (some ⟨rb, 0, none⟩) A.vers.length rc) := (O4.cell (p := ⟨cb, 4, none⟩) hcbl er1).trans x4
  have z4 : w4.frozen? ⟨cb, 4, none⟩ = false := (O4.frozen (p := ⟨cb, 4, none⟩) hcbl er1).trans f4
  have m2 : w4.cell? ⟨vb, vo + 2, none⟩ = some (.int .i64 A.nodes[nk].head) := (O4.cell (p := ⟨vb, vo + 2, none⟩) hvbl er2).trans q2
  have m2f : w4.frozen? ⟨vb, vo + 2, none⟩ = false := (O4.frozen (p := ⟨vb, vo + 2, none⟩) hvbl er2).trans f2
  have BF : But (fun q => q = rb ∨ q = cb ∨ q = vb) w ((w4.setCell ⟨cb, 4, none⟩ (.slice ra2 (A.vers.length + 1) rc2)).setCell ⟨vb, vo + 2, none⟩ (.int .i64 (A.vers.length : Int))) :=
   (But.of_below K3).trans ((O4.mono (fun q hq => Or.inl (Option.some.inj hq).symm)).trans ((But.of_only ((Only.refl cb w4).setCell (p := ⟨cb, 4, none⟩) (Or.inl rfl) _) (Or.inr (Or.inl rfl))).trans (But.of_only ((Only.refl vb _).setCell (p := ⟨vb, vo + 2, none⟩) (Or.inl rfl) _) (Or.inr (Or.inr rfl)))))
  have KF := BF.below (B := base) hbase (fun q hq => by
   rcases hq with rfl | rfl | rfl
   ·exact hrbB
   ·exact C.lo
   ·exact plo)
  have hsA : qz75 A (nk : Int) V 3 = { A with vers := A.vers ++ [V], nodes := A.nodes.set nk { A.nodes[nk] with head := (A.vers.length : Int) } } := by simp [qz75, hndH.out]
  clear hown hgrow hat O4 x0 x1 x2 x3 x4 f4 q2 f2 OR news al3 hcbl hvbl er1 er2 BK KB E3 C3 C5 hfb p5' p3' V3 B3
  go_wp2_with fail
  go_ret2
  rw [hv.out]
  have OW : qzj base ((w4.setCell ⟨cb, 4, none⟩ (.slice ra2 (A.vers.length + 1) rc2)).setCell ⟨vb, vo + 2, none⟩ (.int .i64 (A.vers.length : Int))) cb s g (.slice (some ⟨nb, 0, none⟩) A.nodes.length nc) (.slice ra2 (A.vers.length + 1) rc2) ps (qs ++ [⟨w.heap.size + 1, 0, none⟩]) (qz75 A (nk : Int) V 3) := by rw [hsA]; exact C6
  have BW : But (qz9w w cb) w ((w4.setCell ⟨cb, 4, none⟩ (.slice ra2 (A.vers.length + 1) rc2)).setCell ⟨vb, vo + 2, none⟩ (.int .i64 (A.vers.length : Int))) := BF.mono (fun q hq => by
   rcases hq with rfl | rfl | rfl
   ·exact Or.inr (Or.inl ⟨_, hrB⟩)
   ·exact Or.inl rfl
   ·exact Or.inr (Or.inr ⟨_, g3⟩))
  exact ⟨rfl, ⟨_, _, OW⟩, KF, BW⟩
end
end Go.Proofs.YtlfjhcdjgoeafaaDoor
