/-
  What the law's proof goes by, part 5.
-/
import Derived.Deep.OwnRows
import Derived.Laws.CopyOwn
import Derived.Laws.IdiomCopy
import Derived.Laws.MakeOwn
import Derived.Test.YtknncnaikeinbaaGreatSealStepD
namespace Go.Proofs.YtknncnaikeinbaaGreat
open Go.ChangeShapes Go.WideShapes Go.ChangeAt Go.RowKit
set_option maxRecDepth 100000
set_option maxHeartbeats 16000000
set_option linter.unusedVariables false
set_option linter.unusedSimpArgs false
set_option linter.unnecessarySimpa false
set_option linter.unusedSectionVars false
section
theorem qzb8 : (Tryz.prog.info? 2).map (fun i => (i.zero, i.size, i.bytes)) = some (some (.int .i64 0), 1, 8) := by kernel_rfl
theorem qz64 : (Tryz.prog.info? 35).map (fun i => i.size) = some 5 := by kernel_rfl
theorem qz8w {w : World} {base : Nat} {e : TypeId} {size : Nat} {v : Value} {n : Nat} {xs : List Value} (h : w.ownsRow base e size v n xs) {j : Nat} (hj : v.ownBlock = some j) : base <= j := by
 rcases h.2 with ⟨rfl, _⟩ | ⟨g, cap, cur, rfl, hg, _⟩
 ·simp [Value.ownBlock] at hj
 ·simp [Value.ownBlock] at hj
  omega
theorem qz7y {w : World} {base : Nat} {e : TypeId} {size : Nat} {v : Value} {n : Nat} {xs : List Value} (h : w.ownsRow base e size v n xs) (hn : 0 < n) : ∃ g cap, v = .slice (some ⟨g, 0, none⟩) n cap := by
 rcases h.2 with ⟨rfl, h0⟩ | ⟨g, cap, cur, rfl, _⟩
 ·omega
 ·exact ⟨g, cap, rfl⟩
end
section
attribute [local go_sem ↓] Go.wp_at_zero Go.wp_at_succ
structure Ptrs {α : Type} (B : Nat) (w : World) (f : α -> List Value) (ps : List Addr) (l : List α) : Prop where
 len : ps.length = l.length
 at' : ∀ i (h : i < l.length), ∃ b o, ps[i]? = some ⟨b, o, none⟩ /\ b < B /\ w.rangeAt b o (f l[i])
def ptrC (p : Addr) : List Value := [.pointer (some p)]
def qz7v {α : Type} (B : Nat) (w : World) (v : Value) (f : α -> List Value) (l : List α) : Prop :=
 ∃ ps, qzh B w v l.length (qz9 ptrC ps) /\ Ptrs B w f ps l
theorem Ptrs.below {α : Type} {B : Nat} {w w' : World} {f : α -> List Value} {ps : List Addr} {l : List α} (h : Ptrs B w f ps l) (hb : Below B w w') : Ptrs B w' f ps l :=
 ⟨h.len, fun i hi => by obtain ⟨b, o, h1, h2, h3⟩ := h.at' i hi; exact ⟨b, o, h1, h2, qz0 h3 hb h2⟩⟩
theorem qz7v.below {α : Type} {B : Nat} {w w' : World} {v : Value} {f : α -> List Value} {l : List α} (h : qz7v B w v f l) (hb : Below B w w') : qz7v B w' v f l := by
 obtain ⟨ps, h1, h2⟩ := h
 exact ⟨ps, h1.below hb, h2.below hb⟩
structure qz6r (B : Nat) (w : World) (cb : Nat) (s g n r : Value) (A : Ar) : Prop where
 row : w.rangeAt cb 0 [.int .i64 A.camera, s, g, n, r]
 blk : cb < B
 s : qzh B w s A.slots.length (qz9 intC A.slots)
 g : qzh B w g A.guides.length (qz9 intC A.guides)
 n : qz7v B w n ndC A.nodes
 r : qz7v B w r vrC A.vers
theorem qz6r.below {B : Nat} {w w' : World} {cb : Nat} {s g n r : Value} {A : Ar} (h : qz6r B w cb s g n r A) (hb : Below B w w') : qz6r B w' cb s g n r A :=
 ⟨qz0 h.row hb h.blk, h.blk, h.s.below hb, h.g.below hb, h.n.below hb, h.r.below hb⟩
end
section
theorem qzbe {w : World} {base : Nat} {e : TypeId} {sz : Nat} {v : Value} {n : Nat} {xs : List Value} (h : w.ownsRow base e sz v n xs) : ∃ b, qz11 base w v n sz xs b := by
 rcases h.2 with ⟨rfl, rfl⟩ | ⟨g, cap, cur, rfl, hg, hh, hnc, _, hs, ht⟩
 ·exact ⟨0, _, _, 0, rfl, Or.inl rfl⟩
 ·have hlt : g < w.heap.size := by
   rcases Nat.lt_or_ge g w.heap.size with hl | hl
   ·exact hl
   ·rw [Array.getElem?_eq_none hl] at hh; cases hh
  have hm : n * sz <= cur.size := by rw [hs]; exact Nat.mul_le_mul_right _ hnc
  refine ⟨g, _, _, 0, rfl, Or.inr ⟨rfl, hg, hlt, ?_, ?_⟩⟩
  ·have R := World.rangeAt_of_block hh 0 (n * sz)
   have e1 : (cur.extract 0 (0 + n * sz)).toList = xs := by rw [<- ht]; simp
   rw [e1] at R
   exact R
  ·intro j hj
   refine ⟨?_, ?_⟩
   ·simp only [World.cell?, hh]
    simp
    omega
   ·simp [World.frozen?, hh]
theorem qzae {w w' : World} {base B : Nat} {e : TypeId} {sz : Nat} {v : Value} {n : Nat} {xs : List Value} (h : w.ownsRow base e sz v n xs) (hb : Below B w w') (hv : ∀ j, v.ownBlock = some j -> j < B) : w'.ownsRow base e sz v n xs := by
 refine ⟨h.1, ?_⟩
 rcases h.2 with h0 | ⟨g, cap, cur, rfl, hg, hh, rest⟩
 ·exact Or.inl h0
 ·exact Or.inr ⟨g, cap, cur, rfl, hg, (hb.block g (hv g rfl)).trans hh, rest⟩
theorem qz4y {w : World} {base : Nat} {e : TypeId} {sz : Nat} {v : Value} {n : Nat} {xs : List Value} (h : w.ownsRow base e sz v n xs) {j : Nat} (hj : v.ownBlock = some j) : j < w.heap.size := by
 rcases h.2 with ⟨rfl, _⟩ | ⟨g, cap, cur, rfl, hg, hh, _⟩
 ·simp [Value.ownBlock] at hj
 ·simp [Value.ownBlock] at hj
  subst hj
  rcases Nat.lt_or_ge g w.heap.size with hl | hl
  ·exact hl
  ·rw [Array.getElem?_eq_none hl] at hh; cases hh
theorem qz2w {w : World} {base : Nat} {e : TypeId} {sz : Nat} {v : Value} {n : Nat} {xs : List Value} (h : w.ownsRow base e sz v n xs) : ∃ a cap, v = .slice a n cap := by
 rcases h.2 with ⟨rfl, rfl⟩ | ⟨g, cap, cur, rfl, _⟩
 ·exact ⟨_, _, rfl⟩
 ·exact ⟨_, _, rfl⟩
end
section
def Blk (w : World) (b : Nat) (t : TypeId) (n : Nat) : Prop := ∃ cur, w.heap[b]? = some (.cells cur t (0, 0)) /\ cur.size = n
theorem Blk.lt {w : World} {b : Nat} {t : TypeId} {n : Nat} (h : Blk w b t n) : b < w.heap.size := by
 obtain ⟨cur, h, -⟩ := h
 rcases Nat.lt_or_ge b w.heap.size with hl | hl
 ·exact hl
 ·rw [Array.getElem?_eq_none hl] at h; cases h
theorem Blk.ne {w : World} {a b : Nat} {t u : TypeId} {n m : Nat} (h1 : Blk w a t n) (h2 : Blk w b u m) (h : t ≠ u) : a ≠ b := by
 intro e
 subst e
 obtain ⟨c, h1, -⟩ := h1
 obtain ⟨d, h2, -⟩ := h2
 rw [h1] at h2
 injection h2 with h2
 injection h2 with _ h3 _
 exact h h3
theorem Blk.below {w w' : World} {B b : Nat} {t : TypeId} {n : Nat} (h : Blk w b t n) (hb : Below B w w') (hB : b < B) : Blk w' b t n := by
 obtain ⟨cur, h, hs⟩ := h
 exact ⟨cur, (hb.block b hB).trans h, hs⟩
theorem Blk.grown {w w' : World} {b : Nat} {t : TypeId} {n : Nat} (h : Blk w b t n) (hb : Below w.heap.size w w') : Blk w' b t n := h.below hb h.lt
theorem Blk.but {S : Nat -> Prop} {w w' : World} {b : Nat} {t : TypeId} {n : Nat} (h : Blk w b t n) (O : But S w w') (hS : ¬ S b) : Blk w' b t n := by
 have hl := h.lt
 obtain ⟨cur, h, hs⟩ := h
 exact ⟨cur, (O.block b hl hS).trans h, hs⟩
theorem Blk.new (w : World) (cs : Array Value) (t : TypeId) : Blk (w.alloc (.cells cs t)) w.heap.size t cs.size := ⟨cs, by show (w.heap.push _)[w.heap.size]? = some _; simp, rfl⟩
theorem Blk.setCell {w : World} {b : Nat} {t : TypeId} {n : Nat} (h : Blk w b t n) (a : Addr) (v : Value) : Blk (w.setCell a v) b t n := by
 obtain ⟨cur, h, hs⟩ := h
 by_cases e : a.block = b
 ·refine ⟨if a.spot.isSome then cur else cur.setIfInBounds a.off v, ?_, ?_⟩
  ·simp only [World.setCell, Array.getElem?_modify, e, if_true, h, Option.map_some]
  ·split
   ·exact hs
   ·simpa using hs
 ·exact ⟨cur, (Below.heap_setCell _ _ _ _ (fun h' => e h'.symm)).trans h, hs⟩
theorem Blk.setCells {t : TypeId} {b n c : Nat} : ∀ (vs : List Value) (o : Nat) (w : World), Blk w b t n -> Blk (w.setCells c o vs) b t n
 | [], _, _, h => h
 | v :: vs, o, w, h => Blk.setCells vs (o + 1) (w.setCell ⟨c, o, none⟩ v) (h.setCell _ v)
theorem Blk.there {w : World} {b : Nat} {t : TypeId} {n : Nat} (h : Blk w b t n) (o k : Nat) (hk : o + k <= n) : w.there b o k := by
 obtain ⟨cur, h, hs⟩ := h
 intro j hj
 refine ⟨?_, by simp [World.frozen?, h]⟩
 rw [show w.cell? ⟨b, o + j, none⟩ = cur[o + j]? by simp [World.cell?, h]]
 rw [Array.getElem?_eq_getElem (by omega)]
 rfl
theorem Blk.own {w : World} {base b : Nat} {t : TypeId} {n : Nat} {cs : List Value} (h : Blk w b t n) (R : w.rangeAt b 0 cs) (hl : cs.length = n) (hb : base <= b) (hm : n <= maxLen) : w.ownsRow base t 1 (.slice (some ⟨b, 0, none⟩) n n) n cs := by
 obtain ⟨cur, h, hs⟩ := h
 refine ⟨by omega, Or.inr ⟨b, n, cur, rfl, hb, h, Nat.le_refl _, hm, by omega, ?_⟩⟩
 apply List.ext_getElem?
 intro j
 rcases Nat.lt_or_ge j n with hj | hj
 ·have := R j cs[j] (by rw [List.getElem?_eq_getElem])
  rw [Nat.zero_add, show w.cell? ⟨b, j, none⟩ = cur[j]? by simp [World.cell?, h]] at this
  rw [List.getElem?_take, if_pos (by omega), Array.getElem?_toList, this, List.getElem?_eq_getElem]
 ·rw [List.getElem?_eq_none (by simp; omega), List.getElem?_eq_none (by omega)]
theorem qz7b {w : World} {base : Nat} {e : TypeId} {size n : Nat} {a : Option Addr} {cap : Nat} {xs : List Value} (h : w.ownsRow base e size (.slice a n cap) n xs) (hp : 0 < n) : ∃ g, a = some ⟨g, 0, none⟩ /\ base <= g /\ Blk w g e (cap * size) /\ n <= cap /\ w.rangeAt g 0 xs := by
 rcases h.2 with ⟨h1, h2⟩ | ⟨g, c, cur, h1, hg, hh, hnc, _, hs, ht⟩
 ·omega
 ·injection h1 with h1 h2 h3
  subst h1 h3
  refine ⟨g, rfl, hg, ⟨cur, hh, hs⟩, hnc, ?_⟩
  intro j v hj
  rw [Nat.zero_add, show w.cell? ⟨g, j, none⟩ = cur[j]? by simp [World.cell?, hh]]
  rw [<- ht, List.getElem?_take] at hj
  split at hj
  ·rwa [Array.getElem?_toList] at hj
  ·cases hj
structure qz1x {α : Type} (base : Nat) (t : TypeId) (sz : Nat) (w : World) (f : α -> List Value) (ps : List Addr) (l : List α) : Prop where
 len : ps.length = l.length
 at' : ∀ i (h : i < l.length), ∃ b o n, ps[i]? = some ⟨b, o, none⟩ /\ base <= b /\ Blk w b t n /\ o + sz <= n /\ w.rangeAt b o (f l[i])
 apart : ∀ (i j b o b' o' : Nat), i ≠ j -> ps[i]? = some ⟨b, o, none⟩ -> ps[j]? = some ⟨b', o', none⟩ -> b ≠ b' ∨ o + sz <= o' ∨ o' + sz <= o
theorem qz1x.grown {α : Type} {base : Nat} {t : TypeId} {sz : Nat} {w w' : World} {f : α -> List Value} {ps : List Addr} {l : List α} (h : qz1x base t sz w f ps l) (hb : Below w.heap.size w w') : qz1x base t sz w' f ps l :=
 ⟨h.len, fun i hi => by obtain ⟨b, o, n, h1, h2, h3, h4, h5⟩ := h.at' i hi; exact ⟨b, o, n, h1, h2, h3.grown hb, h4, qz0 h5 hb h3.lt⟩, h.apart⟩
theorem qz1x.but {α : Type} {base : Nat} {t : TypeId} {sz : Nat} {S : Nat -> Prop} {w w' : World} {f : α -> List Value} {ps : List Addr} {l : List α} (h : qz1x base t sz w f ps l) (O : But S w w') (hS : ∀ b n, base <= b -> Blk w b t n -> ¬ S b) : qz1x base t sz w' f ps l :=
 ⟨h.len, fun i hi => by obtain ⟨b, o, n, h1, h2, h3, h4, h5⟩ := h.at' i hi; exact ⟨b, o, n, h1, h2, h3.but O (hS b n h2 h3), h4, O.range h5 h3.lt (hS b n h2 h3)⟩, h.apart⟩
theorem qz1x.lo {α : Type} {base lo : Nat} {t : TypeId} {sz : Nat} {w : World} {f : α -> List Value} {ps : List Addr} {l : List α} (h : qz1x base t sz w f ps l) (hl : lo <= base) : qz1x lo t sz w f ps l :=
 ⟨h.len, fun i hi => by obtain ⟨b, o, n, h1, h2, h3⟩ := h.at' i hi; exact ⟨b, o, n, h1, Nat.le_trans hl h2, h3⟩, h.apart⟩
theorem qz1x.ptrs {α : Type} {base : Nat} {t : TypeId} {sz : Nat} {w : World} {f : α -> List Value} {ps : List Addr} {l : List α} (h : qz1x base t sz w f ps l) : Ptrs w.heap.size w f ps l :=
 ⟨h.len, fun i hi => by obtain ⟨b, o, n, h1, h2, h3, h4, h5⟩ := h.at' i hi; exact ⟨b, o, h1, h3.lt, h5⟩⟩
theorem qz1x.set {α : Type} {base : Nat} {t : TypeId} {sz : Nat} {w : World} {f : α -> List Value} {ps : List Addr} {l : List α} (hf : ∀ x, (f x).length = sz) (h : qz1x base t sz w f ps l) (i : Nat) (hi : i < l.length) (b o : Nat) (hp : ps[i]? = some ⟨b, o, none⟩) (k : Nat) (hk : k < sz) (v : Value) (x : α) (hx : (f l[i]).set k v = f x) : qz1x base t sz (w.setCell ⟨b, o + k, none⟩ v) f ps (l.set i x) := by
 refine ⟨by rw [h.len, List.length_set], fun j hj => ?_, h.apart⟩
 rw [List.length_set] at hj
 obtain ⟨b', o', n, h1, h2, h3, h4, h5⟩ := h.at' j hj
 refine ⟨b', o', n, h1, h2, h3.setCell _ _, h4, ?_⟩
 by_cases e : i = j
 ·subst e
  rw [hp] at h1
  injection h1 with h1
  injection h1 with h1 h1'
  subst h1 h1'
  rw [List.getElem_set_self, <- hx]
  intro m u hm
  by_cases em : k = m
  ·subst em
   rw [List.getElem?_set_self (by rw [hf]; exact hk)] at hm
   cases hm
   have hkl : k < (f l[i]).length := by rw [hf]; exact hk
   have hc := h5 k (f l[i])[k] (List.getElem?_eq_getElem hkl)
   exact World.cell?_setCell_same _ _ _ hc
  ·rw [List.getElem?_set_ne em] at hm
   refine (World.cell?_setCell_other _ _ _ _ ?_).trans (h5 m u hm)
   intro e'
   have := congrArg Addr.off e'
   simp at this
   omega
 ·rw [List.getElem_set_ne e]
  intro m u hm
  have hml : m < sz := by
   rcases Nat.lt_or_ge m (f l[j]).length with hl | hl
   ·rwa [hf] at hl
   ·rw [List.getElem?_eq_none hl] at hm; cases hm
  refine (World.cell?_setCell_other _ _ _ _ ?_).trans (h5 m u hm)
  intro e'
  have e1 := congrArg Addr.block e'
  have e2 := congrArg Addr.off e'
  simp at e1 e2
  rcases h.apart i j b o b' o' e hp h1 with h6 | h6 | h6
  ·exact h6 e1
  ·omega
  ·omega
def qz23 (b sz n : Nat) : List Addr := (List.range n).map fun i => ⟨b, i * sz, none⟩
theorem qz1y (b sz n : Nat) : (qz23 b sz n).length = n := by simp [qz23]
theorem qz4z (b sz n i : Nat) (hi : i < n) : (qz23 b sz n)[i]? = some ⟨b, i * sz, none⟩ := by simp [qz23, hi]
theorem qz5b (b sz n : Nat) : qz23 b sz (n + 1) = qz23 b sz n ++ [⟨b, n * sz, none⟩] := by simp [qz23, List.range_succ]
theorem qz5x {α : Type} {base : Nat} {t : TypeId} {sz : Nat} {w : World} {f : α -> List Value} {b : Nat} {l : List α} (hf : ∀ x, (f x).length = sz) (hb : base <= b) (hB : Blk w b t (l.length * sz)) (R : w.rangeAt b 0 (qz9 f l)) : qz1x base t sz w f (qz23 b sz l.length) l := by
 refine ⟨qz1y _ _ _, fun i hi => ⟨b, i * sz, l.length * sz, qz4z b sz l.length i hi, hb, hB, ?_, ?_⟩, ?_⟩
 ·rw [<- Nat.succ_mul]; exact Nat.mul_le_mul_right _ hi
 ·simpa using qza hf R i hi
 ·intro i j b1 o1 b2 o2 hij h1 h2
  have k1 : i < l.length := by
   rcases Nat.lt_or_ge i l.length with hl | hl
   ·exact hl
   ·rw [List.getElem?_eq_none (by rw [qz1y]; exact hl)] at h1; cases h1
  have k2 : j < l.length := by
   rcases Nat.lt_or_ge j l.length with hl | hl
   ·exact hl
   ·rw [List.getElem?_eq_none (by rw [qz1y]; exact hl)] at h2; cases h2
  rw [qz4z b sz l.length i k1] at h1
  rw [qz4z b sz l.length j k2] at h2
  injection h1 with h1
  injection h1 with h3 h4
  injection h2 with h2
  injection h2 with h5 h6
  subst h4 h6
  refine Or.inr ?_
  rcases Nat.lt_or_ge i j with h | h
  ·exact Or.inl (by rw [<- Nat.succ_mul]; exact Nat.mul_le_mul_right _ h)
  ·exact Or.inr (by rw [<- Nat.succ_mul]; exact Nat.mul_le_mul_right _ (by omega))
theorem qz68 {P : Program} (w : World) (dT sT ty elem : TypeId) (b n dCap sCap sz : Nat) (a : Option Addr) (cs : List Value)
  (hu : P.underlying dT = some (.slice elem)) (hs : (P.info? elem).map (·.size) = some sz) (hn : cs.length = n * sz)
  (hsrc : 0 < n -> ∃ ad, a = some ad /\ ∀ j v, cs[j]? = some v -> w.cell? (ad.add j) = some v) (hc : w.there b 0 (n * sz)) (h1 : ∀ v ∈ cs, v.oneCell' = true) :
  (Builtin.copy_ #[dT, sT] ty #[.slice (some ⟨b, 0, none⟩) n dCap, .slice a n sCap]).run P w = .ok (goInt n) (w.setCells b 0 cs) := by
 cases hq : P.info? elem with
 | none => simp [hq] at hs
 | some i =>
  have hi : i.size = sz := by simpa [hq] using hs
  rcases Nat.eq_zero_or_pos n with h0 | h0
  ·subst h0
   have e0 : cs = [] := List.eq_nil_of_length_eq_zero (by simpa using hn)
   subst e0
   have hl : ∀ (x : Addr), (loadCells x 0).run P w = .ok #[] w := fun x => by simpa using run_loadCells_list (P := P) w x [] (by simp)
   cases a <;> simp [Builtin.copy_, run_underlying hu, Builtin.lenOf, Builtin.firstCells, sizeOf, typeInfo, hq, storeCells, hl, World.setCells]
  ·obtain ⟨ad, rfl, hsr⟩ := hsrc h0
   have hl := run_loadCells_list (P := P) w ad cs hsr
   have hst := run_storeCells_cells (P := P) b 0 cs 0 w (fun j hj => by have := (hc j (by omega)).1; simpa using this) (fun j hj => by have := (hc j (by omega)).2; simpa using this) h1
   rw [hn] at hl
   simp [Builtin.copy_, run_underlying hu, Builtin.lenOf, Builtin.firstCells, sizeOf, typeInfo, hq, hi, hl, hst]
theorem qz2g {P : Program} {w : World} {ops : Array Oper} {rest : List Oper} {o : Oper} {a : Act} {Q : Exit -> Act -> World -> Prop} (hgd : o.guard = none) (d s : Operand) (dT sT : TypeId)
  (ho : o.op = .call { callee := .builtin .copy, args := #[d, s], argTypes := #[dT, sT] }) (elem : TypeId) (hu : P.underlying dT = some (.slice elem)) (sz : Nat) (hsz : (P.info? elem).map (·.size) = some sz)
  (sp : Option Addr) (b n dCap sCap : Nat) (hd : a.eval d = .slice (some ⟨b, 0, none⟩) n dCap) (hs : a.eval s = .slice sp n sCap)
  (cs : List Value) (hn : cs.length = n * sz) (hsrc : 0 < n -> ∃ ad, sp = some ad /\ ∀ j v, cs[j]? = some v -> w.cell? (ad.add j) = some v) (hc : w.there b 0 (n * sz)) (h1 : ∀ v ∈ cs, v.oneCell' = true)
  (h : wpList P ops Q rest (a.put o.dst (goInt n)) (w.setCells b 0 cs)) : wpList P ops Q (o :: rest) a w := by
 refine wpList_plain hgd fun K hK => ?_
 have hrun := qz68 (P := P) w dT sT o.type elem b n dCap sCap sz sp cs hu hsz hn hsrc hc h1
 unfold Oper.wp
 simp [execOp, ho, resolve, invoke, builtin, hd, hs, hrun, Result.andThen]
 exact hK _ _ h
end
section
attribute [local go_sem ↓] Go.wp_at_zero Go.wp_at_succ
theorem qz49 {α : Type} {f : α -> List Value} (hf : ∀ x, ∀ v ∈ f x, v.oneCell' = true) (l : List α) : ∀ v ∈ qz9 f l, v.oneCell' = true := by
 intro v hv
 obtain ⟨x, _, hx⟩ := List.mem_flatMap.1 hv
 exact hf x v hx
theorem qzbm (x : Int) : ∀ v ∈ intC x, v.oneCell' = true := by intro v hv; simp [intC] at hv; subst hv; rfl
theorem qzbv (x : Nd) : ∀ v ∈ ndC x, v.oneCell' = true := by intro v hv; simp [ndC] at hv; rcases hv with rfl | rfl | rfl <;> rfl
theorem qzc4 (x : Vr) : ∀ v ∈ vrC x, v.oneCell' = true := by intro v hv; simp [vrC] at hv; rcases hv with rfl | rfl | rfl | rfl | rfl <;> rfl
theorem qzc0 : (Tryz.prog.info? 2).map (·.size) = some 1 := by kernel_rfl
theorem qz37 (B : Nat) (v : Value) (l : List Int) (w : World) (hB : B <= w.heap.size) (hl : l.length <= 1048576) (S : qzh B w v l.length (qz9 intC l)) :
  Calls Tryz.prog 54 #[v] w fun e w' => e = .returned (.slice (some ⟨w.heap.size, 0, none⟩) l.length l.length) /\ Blk w' w.heap.size 2 l.length /\ w'.rangeAt w.heap.size 0 (qz9 intC l) /\ Below w.heap.size w w' := by
 obtain ⟨a, cap, rfl, hS⟩ := S
 have hmk : ∀ w : World, (Instr.makeSlice 24 (.int .i64 (l.length : Int)) (.int .i64 (l.length : Int))).run Tryz.prog w = .ok (.slice (some ⟨w.heap.size, 0, none⟩) l.length l.length) (w.alloc (.cells (madeCells #[Value.int IntKind.i64 0] l.length) 2)) := fun w => run_make_row' (P := Tryz.prog) 24 2 (.int .i64 0) 8 Tryz.underlying24 qzca rfl .i64 .i64 l.length (by omega) (by omega) w
 have al := (Below.refl w.heap.size w).alloc (Nat.le_refl _) (.cells (madeCells #[Value.int IntKind.i64 0] l.length) 2)
 have B1 := Blk.new w (madeCells #[Value.int IntKind.i64 0] l.length) 2
 rw [size_madeCells] at B1
 have hlen : (qz9 intC l).length = l.length * 1 := qzj (sz := 1) (fun _ => rfl) l
 have T1 := B1.there 0 (l.length * 1) (by omega)
 have hsrc : 0 < l.length -> ∃ ad, a = some ad /\ ∀ j v, (qz9 intC l)[j]? = some v -> (w.alloc (.cells (madeCells #[Value.int IntKind.i64 0] l.length) 2)).cell? (ad.add j) = some v := by
  intro hp
  rcases hS with h0 | ⟨bb, off, rfl, hbb, R0⟩
  ·omega
  ·refine ⟨_, rfl, fun j v hj => ?_⟩
   have := (qz0 R0 (al.mono hB) hbb) j v hj
   have ea : (⟨bb, off, none⟩ : Addr).add j = ⟨bb, off + j, none⟩ := by unfold Addr.add; split <;> simp_all
   rw [ea]
   exact this
 have hone := qz49 qzbm l
 go_enter Tryz.func54, Tryz.ntmps54
 obtain ⟨cs, hcs⟩ : ∃ cs, cs = qz9 intC l := ⟨_, rfl⟩
 rw [<- hcs] at hlen hsrc hone ⊢
 clear hcs hS
 go_wp2_with (refine qz2g rfl (.tmp 7) (.tmp 8) 24 24 rfl 2 Tryz.underlying24 1 qzc0 a w.heap.size l.length l.length cap ?kd ?ks cs hlen ?kc ?kt hone ?_)
 try (case kd => rfl)
 try (case ks => rfl)
 try (case kc => exact hsrc)
 try (case kt => exact T1)
 go_wp2
 go_ret
 refine ⟨rfl, B1.setCells _ _ _, World.rangeAt_setCells_same _ _ _ _ (by rw [hlen]; exact T1), Below.setCells (Nat.le_refl _) _ _ _ al⟩
theorem qz6f (B : Nat) (v : Value) (l : List Nd) (w : World) (hB : B <= w.heap.size) (hl : l.length <= 1048576) (S : qzh B w v l.length (qz9 ndC l)) :
  Calls Tryz.prog 88 #[v] w fun e w' => e = .returned (.slice (some ⟨w.heap.size, 0, none⟩) l.length l.length) /\ Blk w' w.heap.size 65 (l.length * 3) /\ w'.rangeAt w.heap.size 0 (qz9 ndC l) /\ Below w.heap.size w w' := by
 obtain ⟨a, cap, rfl, hS⟩ := S
 obtain ⟨i0, hi, hz0, hz1, hz2⟩ := info_parts qz62
 have hmk : ∀ w : World, (Instr.makeSlice 32 (.int .i64 (l.length : Int)) (.int .i64 (l.length : Int))).run Tryz.prog w = .ok (.slice (some ⟨w.heap.size, 0, none⟩) l.length l.length) (w.alloc (.cells (madeCells (.agg #[.int .i64 0, .int .i64 0, .int .i64 0] : Value).cells (l.length * 3)) 65)) := by
  intro w
  have h := run_make (P := Tryz.prog) w 32 65 i0 _ Tryz.underlying32 hi hz0 .i64 .i64 l.length l.length (by omega) (by omega) (by rw [hz2]; omega) (by omega)
  simpa [hz1] using h
 clear hi hz0 hz1 hz2
 have al := (Below.refl w.heap.size w).alloc (Nat.le_refl _) (.cells (madeCells (.agg #[.int .i64 0, .int .i64 0, .int .i64 0] : Value).cells (l.length * 3)) 65)
 have B1 := Blk.new w (madeCells (.agg #[.int .i64 0, .int .i64 0, .int .i64 0] : Value).cells (l.length * 3)) 65
 rw [size_madeCells] at B1
 have hlen : (qz9 ndC l).length = l.length * 3 := qzj (sz := 3) (fun _ => rfl) l
 have T1 := B1.there 0 (l.length * 3) (by omega)
 have hsrc : 0 < l.length -> ∃ ad, a = some ad /\ ∀ j v, (qz9 ndC l)[j]? = some v -> (w.alloc (.cells (madeCells (.agg #[.int .i64 0, .int .i64 0, .int .i64 0] : Value).cells (l.length * 3)) 65)).cell? (ad.add j) = some v := by
  intro hp
  rcases hS with h0 | ⟨bb, off, rfl, hbb, R0⟩
  ·omega
  ·refine ⟨_, rfl, fun j v hj => ?_⟩
   have := (qz0 R0 (al.mono hB) hbb) j v hj
   have ea : (⟨bb, off, none⟩ : Addr).add j = ⟨bb, off + j, none⟩ := by unfold Addr.add; split <;> simp_all
   rw [ea]
   exact this
 have hone := qz49 qzbv l
 go_enter Tryz.func88, Tryz.ntmps88
 obtain ⟨cs, hcs⟩ : ∃ cs, cs = qz9 ndC l := ⟨_, rfl⟩
 rw [<- hcs] at hlen hsrc hone ⊢
 clear hcs hS
 go_wp2_with (refine qz2g rfl (.tmp 7) (.tmp 8) 32 32 rfl 65 Tryz.underlying32 3 (qz83 ⟨0, 0, 0⟩) a w.heap.size l.length l.length cap ?kd ?ks cs hlen ?kc ?kt hone ?_)
 try (case kd => rfl)
 try (case ks => rfl)
 try (case kc => exact hsrc)
 try (case kt => exact T1)
 go_wp2
 go_ret
 refine ⟨rfl, B1.setCells _ _ _, World.rangeAt_setCells_same _ _ _ _ (by rw [hlen]; exact T1), Below.setCells (Nat.le_refl _) _ _ _ al⟩
theorem qz6s (B : Nat) (v : Value) (l : List Vr) (w : World) (hB : B <= w.heap.size) (hl : l.length <= 1048576) (S : qzh B w v l.length (qz9 vrC l)) :
  Calls Tryz.prog 89 #[v] w fun e w' => e = .returned (.slice (some ⟨w.heap.size, 0, none⟩) l.length l.length) /\ Blk w' w.heap.size 80 (l.length * 5) /\ w'.rangeAt w.heap.size 0 (qz9 vrC l) /\ Below w.heap.size w w' := by
 obtain ⟨a, cap, rfl, hS⟩ := S
 obtain ⟨i0, hi, hz0, hz1, hz2⟩ := info_parts qz7x
 have hmk : ∀ w : World, (Instr.makeSlice 33 (.int .i64 (l.length : Int)) (.int .i64 (l.length : Int))).run Tryz.prog w = .ok (.slice (some ⟨w.heap.size, 0, none⟩) l.length l.length) (w.alloc (.cells (madeCells (.agg #[.int .i64 0, .bool false, .int .i64 0, .int .i64 0, .int .i64 0] : Value).cells (l.length * 5)) 80)) := by
  intro w
  have h := run_make (P := Tryz.prog) w 33 80 i0 _ Tryz.underlying33 hi hz0 .i64 .i64 l.length l.length (by omega) (by omega) (by rw [hz2]; omega) (by omega)
  simpa [hz1] using h
 clear hi hz0 hz1 hz2
 have al := (Below.refl w.heap.size w).alloc (Nat.le_refl _) (.cells (madeCells (.agg #[.int .i64 0, .bool false, .int .i64 0, .int .i64 0, .int .i64 0] : Value).cells (l.length * 5)) 80)
 have B1 := Blk.new w (madeCells (.agg #[.int .i64 0, .bool false, .int .i64 0, .int .i64 0, .int .i64 0] : Value).cells (l.length * 5)) 80
 rw [size_madeCells] at B1
 have hlen : (qz9 vrC l).length = l.length * 5 := qzj (sz := 5) (fun _ => rfl) l
 have T1 := B1.there 0 (l.length * 5) (by omega)
 have hsrc : 0 < l.length -> ∃ ad, a = some ad /\ ∀ j v, (qz9 vrC l)[j]? = some v -> (w.alloc (.cells (madeCells (.agg #[.int .i64 0, .bool false, .int .i64 0, .int .i64 0, .int .i64 0] : Value).cells (l.length * 5)) 80)).cell? (ad.add j) = some v := by
  intro hp
  rcases hS with h0 | ⟨bb, off, rfl, hbb, R0⟩
  ·omega
  ·refine ⟨_, rfl, fun j v hj => ?_⟩
   have := (qz0 R0 (al.mono hB) hbb) j v hj
   have ea : (⟨bb, off, none⟩ : Addr).add j = ⟨bb, off + j, none⟩ := by unfold Addr.add; split <;> simp_all
   rw [ea]
   exact this
 have hone := qz49 qzc4 l
 go_enter Tryz.func89, Tryz.ntmps89
 obtain ⟨cs, hcs⟩ : ∃ cs, cs = qz9 vrC l := ⟨_, rfl⟩
 rw [<- hcs] at hlen hsrc hone ⊢
 clear hcs hS
 go_wp2_with (refine qz2g rfl (.tmp 7) (.tmp 8) 33 33 rfl 80 Tryz.underlying33 5 (qz9t ⟨0, false, 0, 0, 0⟩) a w.heap.size l.length l.length cap ?kd ?ks cs hlen ?kc ?kt hone ?_)
 try (case kd => rfl)
 try (case ks => rfl)
 try (case kc => exact hsrc)
 try (case kt => exact T1)
 go_wp2
 go_ret
 refine ⟨rfl, B1.setCells _ _ _, World.rangeAt_setCells_same _ _ _ _ (by rw [hlen]; exact T1), Below.setCells (Nat.le_refl _) _ _ _ al⟩
theorem qzaf : (Tryz.prog.info? 120).map (fun i => (i.zero, i.size, i.bytes)) = some (some (.pointer none), 1, 8) := by kernel_rfl
def qz60 (lo : Nat) (l : List Nd) (v : Value) (w : World) : Prop := ∃ b ps, v = .slice (some ⟨b, 0, none⟩) l.length l.length /\ lo <= b /\ Blk w b 120 l.length /\ w.rangeAt b 0 (qz9 ptrC ps) /\ qz1x lo 65 3 w ndC ps l
theorem qz60.kept {lo : Nat} {l : List Nd} {v : Value} {w w' : World} (h : qz60 lo l v w) (hb : Below w.heap.size w w') : qz60 lo l v w' := by
 obtain ⟨b, ps, h1, h2, h3, h4, h5⟩ := h
 exact ⟨b, ps, h1, h2, h3.grown hb, qz0 h4 hb h3.lt, h5.grown hb⟩
theorem qz4p (B : Nat) (v : Value) (l : List Nd) (w : World) (hB : B <= w.heap.size) (hl : l.length <= 1048576) (S : qzh B w v l.length (qz9 ndC l)) :
  Calls Tryz.prog 55 #[v] w fun e w' => ∃ v', e = .returned v' /\ qz60 w.heap.size l v' w' /\ Below w.heap.size w w' := by
 obtain ⟨a, cap, rfl, hS⟩ := id S
 have hmk : ∀ w : World, (Instr.makeSlice 96 (.int .i64 (l.length : Int)) (.int .i64 (l.length : Int))).run Tryz.prog w = .ok (.slice (some ⟨w.heap.size, 0, none⟩) l.length l.length) (w.alloc (.cells (madeCells #[.pointer none] l.length) 120)) := fun w => run_make_row' (P := Tryz.prog) 96 120 (.pointer none) 8 Tryz.underlying96 qzaf rfl .i64 .i64 l.length (by omega) (by omega) w
 clear hS
 go_enter Tryz.func55, Tryz.ntmps55
 go_wp2_with fail
 refine (qz6f B _ l w hB hl S).mono ?_
 rintro e w1 ⟨rfl, B1, R1, K1⟩
 have hz1 := B1.lt
 have al := (Below.refl w1.heap.size w1).alloc (Nat.le_refl _) (.cells (madeCells #[.pointer none] l.length) 120)
 have B2 := Blk.new w1 (madeCells #[.pointer none] l.length) 120
 rw [size_madeCells] at B2
 have B1' := B1.grown al
 have R1' := qz0 R1 al hz1
 have K2 := K1.trans (al.mono (by omega))
 go_wp2
 clear B1 R1 K1 S hmk
 go_loopw [13] (fun i wr => ∃ k : Nat, k <= l.length /\ i = .int .i64 k /\ wr.rangeAt w1.heap.size 0 (qz9 ptrC (qz23 w.heap.size 3 k)) /\ Blk wr w1.heap.size 120 l.length /\ Only w1.heap.size (w1.alloc (.cells (madeCells #[.pointer none] l.length) 120)) wr) (fun i _ => l.length - (intOf i).toNat)
 case atStart => exact ⟨0, Nat.zero_le _, rfl, by simp [qz9, qz23, World.rangeAt], B2, Only.refl _ _⟩
 case round =>
  obtain ⟨k, hk, rfl, R, T, O⟩ := hrel
  by_cases hlt : k < l.length
  ·obtain ⟨tc, tf⟩ := T.there 0 l.length (by omega) k hlt
   obtain ⟨u, hu⟩ := Option.isSome_iff_exists.1 tc
   simp only [Nat.zero_add] at hu tf
   have hlen : (qz9 ptrC (qz23 w.heap.size 3 k)).length = k := by rw [qzj (sz := 1) (fun _ => rfl), qz1y]; omega
   have G := qz3o R (by rw [hlen, Nat.zero_add, hu]; rfl) (.pointer (some ⟨w.heap.size, k * 3, none⟩))
   rw [hlen, Nat.zero_add] at G
   have e1 : qz9 ptrC (qz23 w.heap.size 3 (k + 1)) = qz9 ptrC (qz23 w.heap.size 3 k) ++ [.pointer (some ⟨w.heap.size, k * 3, none⟩)] := by rw [qz5b, qz1c]; rfl
   rw [<- e1] at G
   clear e1 hlen R
   go_wp2
   go_roundw
   case rel => exact ⟨k + 1, by omega, by go_num, G, T.setCell _ _, O.setCell (Or.inl rfl) _⟩
   case measure => simp [intOf]; omega
  ·obtain rfl : k = l.length := by omega
   have BB : But (fun q => q = w1.heap.size) (w1.alloc (.cells (madeCells #[.pointer none] l.length) 120)) wr := But.of_only O rfl
   have hne : ¬ (w.heap.size = w1.heap.size) := by omega
   have KF : Below w.heap.size w wr := K2.trans (O.below (by omega) (by simp; omega))
   go_wp2
   go_ret
   exact ⟨_, rfl, ⟨w1.heap.size, _, rfl, by omega, T, R, qz5x (fun _ => rfl) (Nat.le_refl _) (B1'.but BB hne) (BB.range R1' (by simp; omega) hne)⟩, KF⟩
theorem qzaz : (Tryz.prog.info? 103).map (fun i => (i.zero, i.size, i.bytes)) = some (some (.pointer none), 1, 8) := by kernel_rfl
def qzan (lo : Nat) (l : List Vr) (v : Value) (w : World) : Prop := ∃ b ps, v = .slice (some ⟨b, 0, none⟩) l.length l.length /\ lo <= b /\ Blk w b 103 l.length /\ w.rangeAt b 0 (qz9 ptrC ps) /\ qz1x lo 80 5 w vrC ps l
theorem qzan.kept {lo : Nat} {l : List Vr} {v : Value} {w w' : World} (h : qzan lo l v w) (hb : Below w.heap.size w w') : qzan lo l v w' := by
 obtain ⟨b, ps, h1, h2, h3, h4, h5⟩ := h
 exact ⟨b, ps, h1, h2, h3.grown hb, qz0 h4 hb h3.lt, h5.grown hb⟩
theorem qz5d (B : Nat) (v : Value) (l : List Vr) (w : World) (hB : B <= w.heap.size) (hl : l.length <= 1048576) (S : qzh B w v l.length (qz9 vrC l)) :
  Calls Tryz.prog 56 #[v] w fun e w' => ∃ v', e = .returned v' /\ qzan w.heap.size l v' w' /\ Below w.heap.size w w' := by
 obtain ⟨a, cap, rfl, hS⟩ := id S
 have hmk : ∀ w : World, (Instr.makeSlice 98 (.int .i64 (l.length : Int)) (.int .i64 (l.length : Int))).run Tryz.prog w = .ok (.slice (some ⟨w.heap.size, 0, none⟩) l.length l.length) (w.alloc (.cells (madeCells #[.pointer none] l.length) 103)) := fun w => run_make_row' (P := Tryz.prog) 98 103 (.pointer none) 8 Tryz.underlying98 qzaz rfl .i64 .i64 l.length (by omega) (by omega) w
 clear hS
 go_enter Tryz.func56, Tryz.ntmps56
 go_wp2_with fail
 refine (qz6s B _ l w hB hl S).mono ?_
 rintro e w1 ⟨rfl, B1, R1, K1⟩
 have hz1 := B1.lt
 have al := (Below.refl w1.heap.size w1).alloc (Nat.le_refl _) (.cells (madeCells #[.pointer none] l.length) 103)
 have B2 := Blk.new w1 (madeCells #[.pointer none] l.length) 103
 rw [size_madeCells] at B2
 have B1' := B1.grown al
 have R1' := qz0 R1 al hz1
 have K2 := K1.trans (al.mono (by omega))
 go_wp2
 clear B1 R1 K1 S hmk
 go_loopw [13] (fun i wr => ∃ k : Nat, k <= l.length /\ i = .int .i64 k /\ wr.rangeAt w1.heap.size 0 (qz9 ptrC (qz23 w.heap.size 5 k)) /\ Blk wr w1.heap.size 103 l.length /\ Only w1.heap.size (w1.alloc (.cells (madeCells #[.pointer none] l.length) 103)) wr) (fun i _ => l.length - (intOf i).toNat)
 case atStart => exact ⟨0, Nat.zero_le _, rfl, by simp [qz9, qz23, World.rangeAt], B2, Only.refl _ _⟩
 case round =>
  obtain ⟨k, hk, rfl, R, T, O⟩ := hrel
  by_cases hlt : k < l.length
  ·obtain ⟨tc, tf⟩ := T.there 0 l.length (by omega) k hlt
   obtain ⟨u, hu⟩ := Option.isSome_iff_exists.1 tc
   simp only [Nat.zero_add] at hu tf
   have hlen : (qz9 ptrC (qz23 w.heap.size 5 k)).length = k := by rw [qzj (sz := 1) (fun _ => rfl), qz1y]; omega
   have G := qz3o R (by rw [hlen, Nat.zero_add, hu]; rfl) (.pointer (some ⟨w.heap.size, k * 5, none⟩))
   rw [hlen, Nat.zero_add] at G
   have e1 : qz9 ptrC (qz23 w.heap.size 5 (k + 1)) = qz9 ptrC (qz23 w.heap.size 5 k) ++ [.pointer (some ⟨w.heap.size, k * 5, none⟩)] := by rw [qz5b, qz1c]; rfl
   rw [<- e1] at G
   clear e1 hlen R
   go_wp2
   go_roundw
   case rel => exact ⟨k + 1, by omega, by go_num, G, T.setCell _ _, O.setCell (Or.inl rfl) _⟩
   case measure => simp [intOf]; omega
  ·obtain rfl : k = l.length := by omega
   have BB : But (fun q => q = w1.heap.size) (w1.alloc (.cells (madeCells #[.pointer none] l.length) 103)) wr := But.of_only O rfl
   have hne : ¬ (w.heap.size = w1.heap.size) := by omega
   have KF : Below w.heap.size w wr := K2.trans (O.below (by omega) (by simp; omega))
   go_wp2
   go_ret
   exact ⟨_, rfl, ⟨w1.heap.size, _, rfl, by omega, T, R, qz5x (fun _ => rfl) (Nat.le_refl _) (B1'.but BB hne) (BB.range R1' (by simp; omega) hne)⟩, KF⟩
def qz7d (lo : Nat) (l : List Int) (v : Value) (w : World) : Prop := ∃ b, v = .slice (some ⟨b, 0, none⟩) l.length l.length /\ lo <= b /\ Blk w b 2 l.length /\ w.rangeAt b 0 (qz9 intC l)
theorem qz7d.kept {lo : Nat} {l : List Int} {v : Value} {w w' : World} (h : qz7d lo l v w) (hb : Below w.heap.size w w') : qz7d lo l v w' := by
 obtain ⟨b, h1, h2, h3, h4⟩ := h
 exact ⟨b, h1, h2, h3.grown hb, qz0 h4 hb h3.lt⟩
structure qza2 (lo : Nat) (A : Ar) (s g n r : Value) (w : World) : Prop where
 ss : qz7d lo A.slots s w
 sg : qz7d lo A.guides g w
 sn : qz60 lo A.nodes n w
 sr : qzan lo A.vers r w
 ne : ∀ b, qz2y s = some b -> qz2y g ≠ some b
theorem qza2.kept {lo : Nat} {A : Ar} {s g n r : Value} {w w' : World} (h : qza2 lo A s g n r w) (hb : Below w.heap.size w w') : qza2 lo A s g n r w' := ⟨h.ss.kept hb, h.sg.kept hb, h.sn.kept hb, h.sr.kept hb, h.ne⟩
structure qz19 (base : Nat) (w : World) (cb : Nat) (s g n r : Value) (ps qs : List Addr) (A : Ar) : Prop where
 row : w.rangeAt cb 0 [.int .i64 A.camera, s, g, n, r]
 blk : Blk w cb 101 5
 lo : base <= cb
 ss : w.ownsRow base 2 1 s A.slots.length (qz9 intC A.slots)
 sg : w.ownsRow base 2 1 g A.guides.length (qz9 intC A.guides)
 sn : w.ownsRow base 120 1 n A.nodes.length (qz9 ptrC ps)
 sr : w.ownsRow base 103 1 r A.vers.length (qz9 ptrC qs)
 np : qz1x base 65 3 w ndC ps A.nodes
 vp : qz1x base 80 5 w vrC qs A.vers
 ne : ∀ b, s.ownBlock = some b -> g.ownBlock ≠ some b
theorem qz2h {S : Nat -> Prop} {w w' : World} {base : Nat} {e : TypeId} {size n : Nat} {v : Value} {xs : List Value} (h : w.ownsRow base e size v n xs) (O : But S w w') (hS : ∀ b m, base <= b -> Blk w b e m -> ¬ S b) : w'.ownsRow base e size v n xs := by
 refine ⟨h.1, ?_⟩
 rcases h.2 with h0 | ⟨g, cap, cur, rfl, hg, hh, h1, h2, hs, h3⟩
 ·exact Or.inl h0
 ·have hb : Blk w g e (cap * size) := ⟨cur, hh, hs⟩
  exact Or.inr ⟨g, cap, cur, rfl, hg, (O.block g hb.lt (hS g _ hg hb)).trans hh, h1, h2, hs, h3⟩
theorem qz19.but {S : Nat -> Prop} {base : Nat} {w w' : World} {cb : Nat} {s g n r : Value} {ps qs : List Addr} {A : Ar} (h : qz19 base w cb s g n r ps qs A) (O : But S w w') (hS : ∀ b, base <= b -> b < w.heap.size -> ¬ S b) : qz19 base w' cb s g n r ps qs A :=
 ⟨O.range h.row h.blk.lt (hS cb h.lo h.blk.lt), h.blk.but O (hS cb h.lo h.blk.lt), h.lo, qz2h h.ss O (fun b m hb hm => hS b hb hm.lt), qz2h h.sg O (fun b m hb hm => hS b hb hm.lt), qz2h h.sn O (fun b m hb hm => hS b hb hm.lt), qz2h h.sr O (fun b m hb hm => hS b hb hm.lt), h.np.but O (fun b m hb hm => hS b hb hm.lt), h.vp.but O (fun b m hb hm => hS b hb hm.lt), h.ne⟩
theorem qz19.grown {base : Nat} {w w' : World} {cb : Nat} {s g n r : Value} {ps qs : List Addr} {A : Ar} (h : qz19 base w cb s g n r ps qs A) (hb : Below w.heap.size w w') : qz19 base w' cb s g n r ps qs A :=
 h.but (But.of_below (S := fun q => w.heap.size <= q) hb) (fun b _ hl hg => by omega)
theorem qz19.aside {base : Nat} {w w' : World} {cb : Nat} {s g n r : Value} {ps qs : List Addr} {A : Ar} (h : qz19 base w cb s g n r ps qs A) {q m : Nat} {t : TypeId} (hq : Blk w q t m) (h1 : 101 ≠ t) (h2 : 2 ≠ t) (h3 : 120 ≠ t) (h4 : 103 ≠ t) (h5 : 65 ≠ t) (h6 : 80 ≠ t) (k : Only q w w') : qz19 base w' cb s g n r ps qs A := by
 have O : But (fun c => c = q) w w' := But.of_only k rfl
 exact ⟨O.range h.row h.blk.lt (h.blk.ne hq h1), h.blk.but O (h.blk.ne hq h1), h.lo, qz2h h.ss O (fun c m _ hc => hc.ne hq h2), qz2h h.sg O (fun c m _ hc => hc.ne hq h2), qz2h h.sn O (fun c m _ hc => hc.ne hq h3), qz2h h.sr O (fun c m _ hc => hc.ne hq h4), h.np.but O (fun c m _ hc => hc.ne hq h5), h.vp.but O (fun c m _ hc => hc.ne hq h6), h.ne⟩
theorem qz6e {w : World} {base : Nat} {e : TypeId} {size n : Nat} {v : Value} {xs : List Value} (h : w.ownsRow base e size v n xs) : qzh w.heap.size w v n xs := by
 rcases h.2 with ⟨rfl, rfl⟩ | ⟨g, cap, cur, rfl, hg, hh, h1, h2, hs, h3⟩
 ·exact ⟨_, _, rfl, Or.inl rfl⟩
 ·refine ⟨_, _, rfl, ?_⟩
  rcases Nat.eq_zero_or_pos n with h0 | h0
  ·exact Or.inl h0
  ·obtain ⟨g', e', hg', hb, -, R⟩ := qz7b ⟨h.1, Or.inr ⟨g, cap, cur, rfl, hg, hh, h1, h2, hs, h3⟩⟩ h0
   exact Or.inr ⟨g', 0, e', hb.lt, R⟩
theorem qz19.cells {base : Nat} {w : World} {cb : Nat} {s g n r : Value} {ps qs : List Addr} {A : Ar} (h : qz19 base w cb s g n r ps qs A) : qz6r w.heap.size w cb s g n r A :=
 ⟨h.row, h.blk.lt, qz6e h.ss, qz6e h.sg, ⟨ps, qz6e h.sn, h.np.ptrs⟩, ⟨qs, qz6e h.sr, h.vp.ptrs⟩⟩
theorem qz19.ver {base : Nat} {w : World} {cb : Nat} {s g n r : Value} {ps qs : List Addr} {A : Ar} (h : qz19 base w cb s g n r ps qs A) (i : Nat) (hi : i < A.vers.length) (b o : Nat) (hp : qs[i]? = some ⟨b, o, none⟩) (k : Nat) (hk : k < 5) (v : Value) (x : Vr) (hx : (vrC A.vers[i]).set k v = vrC x) : qz19 base (w.setCell ⟨b, o + k, none⟩ v) cb s g n r ps qs { A with vers := A.vers.set i x } := by
 obtain ⟨b', o', m, h1, h2, h3, h4, h5⟩ := h.vp.at' i hi
 rw [hp] at h1
 injection h1 with h1
 injection h1 with h1 h1'
 subst h1 h1'
 have O : But (fun q => q = b) w (w.setCell ⟨b, o + k, none⟩ v) := But.of_only ((Only.refl b w).setCell (Or.inl rfl) v) rfl
 refine ⟨O.range h.row h.blk.lt (h.blk.ne h3 (by decide)), h.blk.setCell _ _, h.lo, qz2h h.ss O (fun c m _ hc => hc.ne h3 (by decide)), qz2h h.sg O (fun c m _ hc => hc.ne h3 (by decide)), qz2h h.sn O (fun c m _ hc => hc.ne h3 (by decide)), ?_, h.np.but O (fun c m _ hc => hc.ne h3 (by decide)), h.vp.set (sz := 5) (fun _ => rfl) i hi b o hp k hk v x hx, h.ne⟩
 rw [List.length_set]
 exact qz2h h.sr O (fun c m _ hc => hc.ne h3 (by decide))
def qzb2 (lo b0 : Nat) (A : Ar) (a0 a1 a2 a3 : Option Addr) (c0 c1 c2 c3 : Nat) : Nat -> Value -> World -> Prop
 | 0, x, _ => x = .pointer (some ⟨b0, 0, none⟩)
 | 1, x, _ => x = .int .i64 A.camera
 | 2, x, _ => x = .pointer (some ⟨b0, 1, none⟩)
 | 3, x, _ => x = .slice a0 A.slots.length c0
 | 4, x, w => qz7d lo A.slots x w
 | 5, x, _ => x = .pointer (some ⟨b0, 2, none⟩)
 | 6, x, _ => x = .slice a1 A.guides.length c1
 | 7, x, w => qz7d lo A.guides x w
 | 8, x, _ => x = .pointer (some ⟨b0, 3, none⟩)
 | 9, x, _ => x = .slice a2 A.nodes.length c2
 | 10, x, w => qz60 lo A.nodes x w
 | 11, x, _ => x = .pointer (some ⟨b0, 4, none⟩)
 | 12, x, _ => x = .slice a3 A.vers.length c3
 | 13, x, w => qzan lo A.vers x w
 | 14, x, w => ∃ s g n r, x = .agg #[.int .i64 A.camera, s, g, n, r] /\ qza2 lo A s g n r w
 | 15, x, w => ∃ b s g n r, x = .pointer (some ⟨b, 0, none⟩) /\ lo <= b /\ Blk w b 101 5 /\ w.rangeAt b 0 [.int .i64 A.camera, s, g, n, r] /\ qza2 lo A s g n r w
 | 16, x, w => ∃ b s g n r, x = .pointer (some ⟨b, 0, none⟩) /\ lo <= b /\ Blk w b 101 5 /\ w.rangeAt b 0 [.int .i64 A.camera, s, g, n, r] /\ qza2 lo A s g n r w
 | _, _, _ => True
theorem qz8r {lo b0 : Nat} {A : Ar} {a0 a1 a2 a3 : Option Addr} {c0 c1 c2 c3 : Nat} (i : Nat) (x : Value) (w w' : World) (hq : qzb2 lo b0 A a0 a1 a2 a3 c0 c1 c2 c3 i x w) (hb : Below w.heap.size w w') : qzb2 lo b0 A a0 a1 a2 a3 c0 c1 c2 c3 i x w' := by
 match i, hq with
 | 0, h | 1, h | 2, h | 3, h | 5, h | 6, h | 8, h | 9, h | 11, h | 12, h => exact h
 | 4, h => exact qz7d.kept h hb
 | 7, h => exact qz7d.kept h hb
 | 10, h => exact qz60.kept h hb
 | 13, h => exact qzan.kept h hb
 | 14, h => obtain ⟨s, g, n, r, e, F⟩ := h; exact ⟨s, g, n, r, e, F.kept hb⟩
 | 15, h => obtain ⟨b, s, g, n, r, e, h1, h2, h3, F⟩ := h; exact ⟨b, s, g, n, r, e, h1, h2.grown hb, qz0 h3 hb h2.lt, F.kept hb⟩
 | 16, h => obtain ⟨b, s, g, n, r, e, h1, h2, h3, F⟩ := h; exact ⟨b, s, g, n, r, e, h1, h2.grown hb, qz0 h3 hb h2.lt, F.kept hb⟩
 | n + 17, h => exact trivial
theorem qz8v (B : Nat) (A : Ar) (a0 a1 a2 a3 : Option Addr) (c0 c1 c2 c3 : Nat) (w : World) (hB : B <= w.heap.size) (hA : A.size <= 1048576) (I : qzi B w (.slice a0 A.slots.length c0) (.slice a1 A.guides.length c1) (.slice a2 A.nodes.length c2) (.slice a3 A.vers.length c3) A) :
  Calls Tryz.prog 25 #[.agg #[.int .i64 A.camera, .slice a0 A.slots.length c0, .slice a1 A.guides.length c1, .slice a2 A.nodes.length c2, .slice a3 A.vers.length c3]] w fun e w' => ∃ cb s g n r ps qs, e = .returned (.pointer (some ⟨cb, 0, none⟩)) /\ qz19 w.heap.size w' cb s g n r ps qs A /\ Below w.heap.size w w' := by
 unfold Ar.size at hA
 have X0 := qz5 w [.int .i64 A.camera, .slice a0 A.slots.length c0, .slice a1 A.guides.length c1, .slice a2 A.nodes.length c2, .slice a3 A.vers.length c3] 35
 have K0 := (Below.refl w.heap.size w).alloc (Nat.le_refl _) (.cells #[.int .i64 A.camera, .slice a0 A.slots.length c0, .slice a1 A.guides.length c1, .slice a2 A.nodes.length c2, .slice a3 A.vers.length c3] 35)
 have hz0 : w.heap.size < (w.alloc (.cells #[.int .i64 A.camera, .slice a0 A.slots.length c0, .slice a1 A.guides.length c1, .slice a2 A.nodes.length c2, .slice a3 A.vers.length c3] 35)).heap.size := by simp
 go_enter Tryz.func25, Tryz.ntmps25
 go_wp2_with fail
 have I0 := I.below (K0.mono hB)
 generalize hw0 : w.alloc (.cells #[.int .i64 A.camera, .slice a0 A.slots.length c0, .slice a1 A.guides.length c1, .slice a2 A.nodes.length c2, .slice a3 A.vers.length c3] 35) = w0 at *
 clear hw0 I
 refine qz5i (by kernel_rfl) (qzb2 w0.heap.size w.heap.size A a0 a1 a2 a3 c0 c1 c2 c3) (fun i => i == 4 || i == 7) (by kernel_rfl) (by kernel_rfl) (by kernel_rfl) (by rfl) (fun i v w w' _ hq hb => qz8r i v w w' hq hb) ?blk ?step ?final
 case blk =>
  intro i v w b hf hG hb
  have : i = 4 ∨ i = 7 := by simpa using hf
  rcases this with rfl | rfl
  ·obtain ⟨c, rfl, _, h3, _⟩ := (show qz7d _ _ _ _ from hG)
   cases hb
   exact h3.lt
  ·obtain ⟨c, rfl, _, h3, _⟩ := (show qz7d _ _ _ _ from hG)
   cases hb
   exact h3.lt
 case step =>
  intro i o ho a V hb hn hd hq K hK
  obtain ⟨x0, x1, x2, x3, x4⟩ := row5 (qz0 X0 hb (by omega))
  have IV := I0.below (hb.mono (Nat.le_trans hB K0.size))
  have hBV : B <= V.heap.size := Nat.le_trans (Nat.le_trans hB K0.size) hb.size
  match i, ho with
  | 0, ho =>
   obtain rfl := Option.some.inj ho
   have e1 : a.eval (.tmp 1) = .pointer (some ⟨w.heap.size, 0, none⟩) := hn 1 rfl
   refine qz7 (v := .pointer (some ⟨w.heap.size, 0, none⟩)) (w' := V) ?_ (hK _ _ rfl (Below.refl _ _) (fun h => by cases h))
   generalize a.eval = ev at *
   go_simp
  | 1, ho =>
   obtain rfl := Option.some.inj ho
   have e1 : a.eval (.tmp 3) = .pointer (some ⟨w.heap.size, 0, none⟩) := hd ⟨0, .data⟩ (by simp) rfl 3 rfl
   refine qz7 (v := .int .i64 A.camera) (w' := V) ?_ (hK _ _ rfl (Below.refl _ _) (fun h => by cases h))
   generalize a.eval = ev at *
   go_simp
  | 2, ho =>
   obtain rfl := Option.some.inj ho
   have e1 : a.eval (.tmp 1) = .pointer (some ⟨w.heap.size, 0, none⟩) := hn 1 rfl
   refine qz7 (v := .pointer (some ⟨w.heap.size, 1, none⟩)) (w' := V) ?_ (hK _ _ rfl (Below.refl _ _) (fun h => by cases h))
   generalize a.eval = ev at *
   go_simp
  | 3, ho =>
   obtain rfl := Option.some.inj ho
   have e1 : a.eval (.tmp 5) = .pointer (some ⟨w.heap.size, 1, none⟩) := hd ⟨2, .data⟩ (by simp) rfl 5 rfl
   refine qz7 (v := .slice a0 A.slots.length c0) (w' := V) ?_ (hK _ _ rfl (Below.refl _ _) (fun h => by cases h))
   generalize a.eval = ev at *
   go_simp
  | 4, ho =>
   obtain rfl := Option.some.inj ho
   have e1 : a.eval (.tmp 6) = .slice a0 A.slots.length c0 := hd ⟨3, .data⟩ (by simp) rfl 6 rfl
   have ef : a.eval (.func 54) = .func (.func 54) #[] #[] := rfl
   refine qz12 (f := 54) (args := #[.slice a0 A.slots.length c0]) (R := (fun v w' => (qz7d V.heap.size A.slots v w' /\ Below V.heap.size V w') /\ (∀ b, qz2y v = some b -> V.heap.size <= b))) ?_ ((qz37 B (.slice a0 A.slots.length c0) A.slots V hBV (by omega) IV.s).mono (fun e w' h => ⟨_, h.1, ⟨⟨⟨V.heap.size, rfl, Nat.le_refl _, h.2.1, h.2.2.1⟩, h.2.2.2⟩, fun b hb => by cases hb; exact Nat.le_refl _⟩⟩)) (fun v w' h => hK v w' (by obtain ⟨b, h1, h2, h3⟩ := h.1.1; exact ⟨b, h1, Nat.le_trans hb.size h2, h3⟩) h.1.2 (fun _ => h.2))
   clear IV
   generalize a.eval = ev at *
   go_simp
  | 5, ho =>
   obtain rfl := Option.some.inj ho
   have e1 : a.eval (.tmp 1) = .pointer (some ⟨w.heap.size, 0, none⟩) := hn 1 rfl
   refine qz7 (v := .pointer (some ⟨w.heap.size, 2, none⟩)) (w' := V) ?_ (hK _ _ rfl (Below.refl _ _) (fun h => by cases h))
   generalize a.eval = ev at *
   go_simp
  | 6, ho =>
   obtain rfl := Option.some.inj ho
   have e1 : a.eval (.tmp 8) = .pointer (some ⟨w.heap.size, 2, none⟩) := hd ⟨5, .data⟩ (by simp) rfl 8 rfl
   refine qz7 (v := .slice a1 A.guides.length c1) (w' := V) ?_ (hK _ _ rfl (Below.refl _ _) (fun h => by cases h))
   generalize a.eval = ev at *
   go_simp
  | 7, ho =>
   obtain rfl := Option.some.inj ho
   have e1 : a.eval (.tmp 9) = .slice a1 A.guides.length c1 := hd ⟨6, .data⟩ (by simp) rfl 9 rfl
   have ef : a.eval (.func 54) = .func (.func 54) #[] #[] := rfl
   refine qz12 (f := 54) (args := #[.slice a1 A.guides.length c1]) (R := (fun v w' => (qz7d V.heap.size A.guides v w' /\ Below V.heap.size V w') /\ (∀ b, qz2y v = some b -> V.heap.size <= b))) ?_ ((qz37 B (.slice a1 A.guides.length c1) A.guides V hBV (by omega) IV.g).mono (fun e w' h => ⟨_, h.1, ⟨⟨⟨V.heap.size, rfl, Nat.le_refl _, h.2.1, h.2.2.1⟩, h.2.2.2⟩, fun b hb => by cases hb; exact Nat.le_refl _⟩⟩)) (fun v w' h => hK v w' (by obtain ⟨b, h1, h2, h3⟩ := h.1.1; exact ⟨b, h1, Nat.le_trans hb.size h2, h3⟩) h.1.2 (fun _ => h.2))
   clear IV
   generalize a.eval = ev at *
   go_simp
  | 8, ho =>
   obtain rfl := Option.some.inj ho
   have e1 : a.eval (.tmp 1) = .pointer (some ⟨w.heap.size, 0, none⟩) := hn 1 rfl
   refine qz7 (v := .pointer (some ⟨w.heap.size, 3, none⟩)) (w' := V) ?_ (hK _ _ rfl (Below.refl _ _) (fun h => by cases h))
   generalize a.eval = ev at *
   go_simp
  | 9, ho =>
   obtain rfl := Option.some.inj ho
   have e1 : a.eval (.tmp 11) = .pointer (some ⟨w.heap.size, 3, none⟩) := hd ⟨8, .data⟩ (by simp) rfl 11 rfl
   refine qz7 (v := .slice a2 A.nodes.length c2) (w' := V) ?_ (hK _ _ rfl (Below.refl _ _) (fun h => by cases h))
   generalize a.eval = ev at *
   go_simp
  | 10, ho =>
   obtain rfl := Option.some.inj ho
   have e1 : a.eval (.tmp 12) = .slice a2 A.nodes.length c2 := hd ⟨9, .data⟩ (by simp) rfl 12 rfl
   have ef : a.eval (.func 55) = .func (.func 55) #[] #[] := rfl
   refine qz12 (f := 55) (args := #[.slice a2 A.nodes.length c2]) (R := (fun v w' => qz60 V.heap.size A.nodes v w' /\ Below V.heap.size V w')) ?_ ((qz4p B (.slice a2 A.nodes.length c2) A.nodes V hBV (by omega) IV.n).mono (fun e w' h => by obtain ⟨v', h1, h2, h3⟩ := h; exact ⟨v', h1, h2, h3⟩)) (fun v w' h => hK v w' (by obtain ⟨b, ps, h1, h2, h3, h4, h5⟩ := h.1; exact ⟨b, ps, h1, Nat.le_trans hb.size h2, h3, h4, h5.lo hb.size⟩) h.2 (fun h => by cases h))
   clear IV
   generalize a.eval = ev at *
   go_simp
  | 11, ho =>
   obtain rfl := Option.some.inj ho
   have e1 : a.eval (.tmp 1) = .pointer (some ⟨w.heap.size, 0, none⟩) := hn 1 rfl
   refine qz7 (v := .pointer (some ⟨w.heap.size, 4, none⟩)) (w' := V) ?_ (hK _ _ rfl (Below.refl _ _) (fun h => by cases h))
   generalize a.eval = ev at *
   go_simp
  | 12, ho =>
   obtain rfl := Option.some.inj ho
   have e1 : a.eval (.tmp 14) = .pointer (some ⟨w.heap.size, 4, none⟩) := hd ⟨11, .data⟩ (by simp) rfl 14 rfl
   refine qz7 (v := .slice a3 A.vers.length c3) (w' := V) ?_ (hK _ _ rfl (Below.refl _ _) (fun h => by cases h))
   generalize a.eval = ev at *
   go_simp
  | 13, ho =>
   obtain rfl := Option.some.inj ho
   have e1 : a.eval (.tmp 15) = .slice a3 A.vers.length c3 := hd ⟨12, .data⟩ (by simp) rfl 15 rfl
   have ef : a.eval (.func 56) = .func (.func 56) #[] #[] := rfl
   refine qz12 (f := 56) (args := #[.slice a3 A.vers.length c3]) (R := (fun v w' => qzan V.heap.size A.vers v w' /\ Below V.heap.size V w')) ?_ ((qz5d B (.slice a3 A.vers.length c3) A.vers V hBV (by omega) IV.r).mono (fun e w' h => by obtain ⟨v', h1, h2, h3⟩ := h; exact ⟨v', h1, h2, h3⟩)) (fun v w' h => hK v w' (by obtain ⟨b, ps, h1, h2, h3, h4, h5⟩ := h.1; exact ⟨b, ps, h1, Nat.le_trans hb.size h2, h3, h4, h5.lo hb.size⟩) h.2 (fun h => by cases h))
   clear IV
   generalize a.eval = ev at *
   go_simp
  | 14, ho =>
   obtain rfl := Option.some.inj ho
   have e0 : a.eval (.tmp 4) = .int .i64 A.camera := hd ⟨1, .data⟩ (by simp) rfl 4 rfl
   have g1 : qz7d w0.heap.size A.slots (a.eval (.tmp 7)) V := hd ⟨4, .data⟩ (by simp) rfl 7 rfl
   have g2 : qz7d w0.heap.size A.guides (a.eval (.tmp 10)) V := hd ⟨7, .data⟩ (by simp) rfl 10 rfl
   have g3 : qz60 w0.heap.size A.nodes (a.eval (.tmp 13)) V := hd ⟨10, .data⟩ (by simp) rfl 13 rfl
   have g4 : qzan w0.heap.size A.vers (a.eval (.tmp 16)) V := hd ⟨13, .data⟩ (by simp) rfl 16 rfl
   have g5 : ∀ b, qz2y (a.eval (.tmp 7)) = some b -> qz2y (a.eval (.tmp 10)) ≠ some b := fun b hbb => hq ⟨4, .data⟩ (by simp) rfl ⟨7, .data⟩ (by simp) rfl (by decide) rfl rfl 7 10 b rfl rfl hbb
   obtain ⟨b1, e1, -⟩ := id g1
   obtain ⟨b2, e2, -⟩ := id g2
   obtain ⟨b3, s3, e3, -⟩ := id g3
   obtain ⟨b4, s4, e4, -⟩ := id g4
   refine qz7 (v := .agg #[.int .i64 A.camera, a.eval (.tmp 7), a.eval (.tmp 10), a.eval (.tmp 13), a.eval (.tmp 16)]) (w' := V) ?_ (hK _ _ ⟨_, _, _, _, rfl, g1, g2, g3, g4, g5⟩ (Below.refl _ _) (fun h => by cases h))
   clear g1 g2 g3 g4 g5
   generalize a.eval = ev at *
   go_simp
  | 15, ho =>
   obtain rfl := Option.some.inj ho
   obtain ⟨s, g, n, r, e1, F⟩ := (show ∃ s g n r, a.eval (.tmp 17) = .agg #[.int .i64 A.camera, s, g, n, r] /\ qza2 w0.heap.size A s g n r V from hd ⟨14, .data⟩ (by simp) rfl 17 rfl)
   have al := (Below.refl V.heap.size V).alloc (Nat.le_refl _) (.cells #[.int .i64 A.camera, s, g, n, r] 101)
   refine qz7 (v := .pointer (some ⟨V.heap.size, 0, none⟩)) (w' := V.alloc (.cells #[.int .i64 A.camera, s, g, n, r] 101)) ?_ (hK _ _ ⟨V.heap.size, s, g, n, r, rfl, hb.size, Blk.new _ _ _, qz5 V [.int .i64 A.camera, s, g, n, r] _, F.kept al⟩ al (fun h => by cases h))
   clear F
   generalize a.eval = ev at *
   go_simp
  | 16, ho =>
   obtain rfl := Option.some.inj ho
   obtain ⟨b, s, g, n, r, e1, h1, h2, h3, F⟩ := (show ∃ b s g n r, a.eval (.tmp 18) = .pointer (some ⟨b, 0, none⟩) /\ w0.heap.size <= b /\ Blk V b 101 5 /\ V.rangeAt b 0 [.int .i64 A.camera, s, g, n, r] /\ qza2 w0.heap.size A s g n r V from hd ⟨15, .data⟩ (by simp) rfl 18 rfl)
   refine qz7 (v := .pointer (some ⟨b, 0, none⟩)) (w' := V) ?_ (hK _ _ ⟨b, s, g, n, r, rfl, h1, h2, h3, F⟩ (Below.refl _ _) (fun h => by cases h))
   clear F h1 h2 h3
   generalize a.eval = ev at *
   go_simp
  | n + 17, ho => exact absurd ho (by simp)
 case final =>
  intro vs V hb hG hD
  obtain ⟨cb, s, g, n, r, e16, hlo, hbk, hrow, F⟩ := (show ∃ b s g n r, vs 16 = .pointer (some ⟨b, 0, none⟩) /\ w0.heap.size <= b /\ Blk V b 101 5 /\ V.rangeAt b 0 [.int .i64 A.camera, s, g, n, r] /\ qza2 w0.heap.size A s g n r V from hG 16 (by decide))
  obtain ⟨sb, rfl, ls, bs, rs⟩ := F.ss
  obtain ⟨gb, rfl, lg, bg, rg⟩ := F.sg
  obtain ⟨nb, ps, rfl, ln, bn, rn, pn⟩ := F.sn
  obtain ⟨rb, qs, rfl, lr, br, rr, pr⟩ := F.sr
  have hne := F.ne
  have z0 := K0.size
  have KK : Below w.heap.size w V := K0.trans (hb.mono K0.size)
  have OC : qz19 w.heap.size V cb (.slice (some ⟨sb, 0, none⟩) A.slots.length A.slots.length) (.slice (some ⟨gb, 0, none⟩) A.guides.length A.guides.length) (.slice (some ⟨nb, 0, none⟩) A.nodes.length A.nodes.length) (.slice (some ⟨rb, 0, none⟩) A.vers.length A.vers.length) ps qs A :=
   ⟨hrow, hbk, by omega, bs.own rs (by rw [qzj (sz := 1) (fun _ => rfl)]; omega) (by omega) (by unfold maxLen; omega), bg.own rg (by rw [qzj (sz := 1) (fun _ => rfl)]; omega) (by omega) (by unfold maxLen; omega), bn.own rn (by rw [qzj (sz := 1) (fun _ => rfl), pn.len]; omega) (by omega) (by unfold maxLen; omega), br.own rr (by rw [qzj (sz := 1) (fun _ => rfl), pr.len]; omega) (by omega) (by unfold maxLen; omega), pn.lo (by omega), pr.lo (by omega), fun b h1 h2 => hne b h1 h2⟩
  clear hG hD hb F hlo hbk hrow bs bg bn br rs rg rn rr pn pr hne
  generalize hl : laid _ vs _ _ _ = A'
  have hA' : A' = { tmps := #[.agg #[.int .i64 A.camera, .slice a0 A.slots.length c0, .slice a1 A.guides.length c1, .slice a2 A.nodes.length c2, .slice a3 A.vers.length c3], .pointer (some ⟨w.heap.size, 0, none⟩), vs 16, vs 0, vs 1, vs 2, vs 3, vs 4, vs 5, vs 6, vs 7, vs 8, vs 9, vs 10, vs 11, vs 12, vs 13, vs 14, vs 15], defers := [] } := by
   rw [<- hl]
   kernel_rfl
  subst hA'
  clear hl
  rw [e16]
  go_wp2
  go_ret
  exact ⟨_, _, _, _, _, _, _, rfl, OC, KK⟩
end
section
attribute [local go_sem ↓] Go.wp_at_zero Go.wp_at_succ
theorem qz7w (bb off : Nat) (x : Nd) (h : Bool) (w : World) (R : w.rangeAt bb off (ndC x)) :
  Calls Tryz.prog 104 #[.pointer (some ⟨bb, off, none⟩), .bool h] w fun e w' => e = .returned (.bool (if h then (x.key == -1) && (x.value == 0) else inB x.key 0 63 && inB x.value 0 9999)) /\ w' = w := by
 have f0 : w.cell? ⟨bb, off, none⟩ = some (.int .i64 x.key) := R 0 _ rfl
 have f1 : w.cell? ⟨bb, off + 1, none⟩ = some (.int .i64 x.value) := R 1 _ rfl
 clear R
 cases h
 ·cases e1 : inB x.key 0 63
  ·go_enter Tryz.func104, Tryz.ntmps104
   go_wp2_with (first | (go_at_call 106; refine (qz22 _ _).mono ?_; rintro e w' ⟨rfl, hw⟩; obtain rfl := hw.symm) | (go_at_call 80; refine (qze _ _ _ _).mono ?_; rintro e w' ⟨rfl, hw⟩; obtain rfl := hw.symm))
   go_ret
   exact ⟨rfl, rfl⟩
  ·go_enter Tryz.func104, Tryz.ntmps104
   go_wp2_with (first | (go_at_call 106; refine (qz22 _ _).mono ?_; rintro e w' ⟨rfl, hw⟩; obtain rfl := hw.symm) | (go_at_call 80; refine (qze _ _ _ _).mono ?_; rintro e w' ⟨rfl, hw⟩; obtain rfl := hw.symm))
   go_ret
   exact ⟨rfl, rfl⟩
 ·cases e1 : (x.key == -1)
  ·go_enter Tryz.func104, Tryz.ntmps104
   go_wp2
   go_ret
   exact ⟨rfl, rfl⟩
  ·go_enter Tryz.func104, Tryz.ntmps104
   go_wp2
   go_ret
   exact ⟨rfl, rfl⟩
def verR (nn cam : Int) (i : Int) (v : Vr) : Bool :=
 inB v.next (-1) (nn - 1) && (v.next != 0) && inB v.stamp (-1) cam && inB v.prev (-1) (i - 1) && inB v.kind 0 2
theorem qzbg (nn : Nat) (cam : Int) (i : Nat) (v : Vr) : verR nn cam i v = verB nn cam i v := by
 have h : (inB v.next (-1) ((nn : Int) - 1) && (v.next != 0)) = ((v.next == -1) || inB v.next 1 ((nn : Int) - 1)) := by
  rw [Bool.eq_iff_iff]
  simp only [Bool.and_eq_true, Bool.or_eq_true, qz2c, bne_iff_ne, beq_iff_eq]
  omega
 simp only [verR, verB, h]
theorem qz7g (bb off : Nat) (x : Vr) (i cam : Int) (nn : Nat) (w : World) (hn : nn <= 1048576) (hi0 : 0 <= i) (hi1 : i <= 1048576) (R : w.rangeAt bb off (vrC x)) :
  Calls Tryz.prog 105 #[.pointer (some ⟨bb, off, none⟩), .int .i64 i, .int .i64 cam, .int .i64 nn] w fun e w' => e = .returned (.bool (verR nn cam i x)) /\ w' = w := by
 have f0 : w.cell? ⟨bb, off, none⟩ = some (.int .i64 x.next) := R 0 _ rfl
 have f2 : w.cell? ⟨bb, off + 2, none⟩ = some (.int .i64 x.stamp) := R 2 _ rfl
 have f3 : w.cell? ⟨bb, off + 3, none⟩ = some (.int .i64 x.prev) := R 3 _ rfl
 have f4 : w.cell? ⟨bb, off + 4, none⟩ = some (.int .i64 x.kind) := R 4 _ rfl
 clear R
 cases e1 : inB x.next (-1) ((nn : Int) - 1)
 ·have hv : verR nn cam i x = false := by simp [verR, e1]
  go_enter Tryz.func105, Tryz.ntmps105
  go_wp2_with (go_at_call 80; refine (qze _ _ _ _).mono ?_; rintro e w' ⟨rfl, hw⟩; obtain rfl := hw.symm)
  go_ret
  exact ⟨by rw [hv]; rfl, rfl⟩
 cases e2 : (x.next != 0)
 ·have hv : verR nn cam i x = false := by simp [verR, e2]
  go_enter Tryz.func105, Tryz.ntmps105
  go_wp2_with (go_at_call 80; refine (qze _ _ _ _).mono ?_; rintro e w' ⟨rfl, hw⟩; obtain rfl := hw.symm)
  go_ret
  exact ⟨by rw [hv]; rfl, rfl⟩
 cases e3 : inB x.stamp (-1) cam
 ·have hv : verR nn cam i x = false := by simp [verR, e3]
  go_enter Tryz.func105, Tryz.ntmps105
  go_wp2_with (go_at_call 80; refine (qze _ _ _ _).mono ?_; rintro e w' ⟨rfl, hw⟩; obtain rfl := hw.symm)
  go_ret
  exact ⟨by rw [hv]; rfl, rfl⟩
 cases e4 : inB x.prev (-1) (i - 1)
 ·have hv : verR nn cam i x = false := by simp [verR, e4]
  go_enter Tryz.func105, Tryz.ntmps105
  go_wp2_with (go_at_call 80; refine (qze _ _ _ _).mono ?_; rintro e w' ⟨rfl, hw⟩; obtain rfl := hw.symm)
  go_ret
  exact ⟨by rw [hv]; rfl, rfl⟩
 ·have hv : verR nn cam i x = inB x.kind 0 2 := by simp [verR, e1, e2, e3, e4]
  go_enter Tryz.func105, Tryz.ntmps105
  go_wp2_with (go_at_call 80; refine (qze _ _ _ _).mono ?_; rintro e w' ⟨rfl, hw⟩; obtain rfl := hw.symm)
  go_ret
  exact ⟨by rw [hv]; rfl, rfl⟩
theorem qz3x (bb off : Nat) (x : Vr) (w : World) (R : w.rangeAt bb off (vrC x)) :
  Calls Tryz.prog 59 #[.pointer (some ⟨bb, off, none⟩)] w fun e w' => e = .returned (.bool (x.stamp != -1)) /\ w' = w := by
 have f2 : w.cell? ⟨bb, off + 2, none⟩ = some (.int .i64 x.stamp) := R 2 _ rfl
 clear R
 go_enter Tryz.func59, Tryz.ntmps59
 go_wp2
 go_ret
 exact ⟨rfl, rfl⟩
theorem qz6h (B : Nat) (v : Value) (l : List Int) (w : World) (hB : B <= w.heap.size) (hl : l.length <= 1048576) (S : qzh B w v l.length (qz9 intC l)) :
  Calls Tryz.prog 81 #[v] w fun e w' => e = .returned (.bool (qz1g (fun _ v => inB v (-1) 100) l)) /\ Below w.heap.size w w' := by
 obtain ⟨a, cap, rfl, hS⟩ := S
 go_enter Tryz.func81, Tryz.ntmps81
 go_wp2
 go_loopw [7] (fun i wr => ∃ k : Nat, k <= l.length /\ i = .int .i64 k /\ Hid (∀ j (h : j < l.length), j < k -> inB l[j] (-1) 100 = true) /\ Below w.heap.size w wr) (fun i _ => l.length - (intOf i).toNat)
 case atStart => exact ⟨0, Nat.zero_le _, rfl, fun _ _ h => absurd h (by omega), Below.refl _ _⟩
 case round =>
  obtain ⟨k, hk, rfl, hall, bel⟩ := hrel
  by_cases hlt : k < l.length
  ·rcases hS with h0 | ⟨bb, off, rfl, hbb, R0⟩
   ·omega
   ·have hc : wr.cell? ⟨bb, off + k, none⟩ = some (.int .i64 l[k]) := (qz0 R0 (bel.mono hB) hbb) k (.int .i64 l[k]) (by have := qz1i (f := intC) (sz := 1) (fun _ => rfl) l k hlt 0 (by omega); simpa [intC] using this)
    clear R0
    cases hq : inB l[k] (-1) 100
    ·have hv : qz1g (fun _ v => inB v (-1) 100) l = false := qz2i (f := (fun _ v => inB v (-1) 100)) hlt hq
     go_wp2_with (go_at_call 80; refine (qze _ _ _ _).mono ?_; rintro e w' ⟨rfl, hw⟩; obtain rfl := hw.symm)
     go_ret
     exact ⟨by rw [hv]; rfl, bel⟩
    ·have hall' : Hid (∀ j (h : j < l.length), j < k + 1 -> inB l[j] (-1) 100 = true) := fun j h hj => by rcases Nat.lt_or_ge j k with hl | hl; exact hall.out j h hl; obtain rfl : j = k := (by omega); exact hq
     go_wp2_with (go_at_call 80; refine (qze _ _ _ _).mono ?_; rintro e w' ⟨rfl, hw⟩; obtain rfl := hw.symm)
     go_roundw
     case rel => exact ⟨k + 1, by omega, by go_num, hall', bel⟩
     case measure => simp [intOf]; omega
  ·have hv : qz1g (fun _ v => inB v (-1) 100) l = true := (qz1e (fun _ v => inB v (-1) 100) l).2 (fun i h => hall.out i h (by omega))
   go_wp2
   go_ret
   exact ⟨by rw [hv]; rfl, bel⟩
theorem qz5m (B : Nat) (v : Value) (l : List Int) (nn : Nat) (w : World) (hB : B <= w.heap.size) (hl : l.length <= 1048576) (hn : nn <= 1048576) (S : qzh B w v l.length (qz9 intC l)) :
  Calls Tryz.prog 82 #[v, .int .i64 nn] w fun e w' => e = .returned (.bool (qz1g (fun _ v => inB v 0 ((nn : Int) - 1)) l)) /\ Below w.heap.size w w' := by
 obtain ⟨a, cap, rfl, hS⟩ := S
 go_enter Tryz.func82, Tryz.ntmps82
 go_wp2
 go_loopw [9] (fun i wr => ∃ k : Nat, k <= l.length /\ i = .int .i64 k /\ Hid (∀ j (h : j < l.length), j < k -> inB l[j] 0 ((nn : Int) - 1) = true) /\ Below w.heap.size w wr) (fun i _ => l.length - (intOf i).toNat)
 case atStart => exact ⟨0, Nat.zero_le _, rfl, fun _ _ h => absurd h (by omega), Below.refl _ _⟩
 case round =>
  obtain ⟨k, hk, rfl, hall, bel⟩ := hrel
  by_cases hlt : k < l.length
  ·rcases hS with h0 | ⟨bb, off, rfl, hbb, R0⟩
   ·omega
   ·have hc : wr.cell? ⟨bb, off + k, none⟩ = some (.int .i64 l[k]) := (qz0 R0 (bel.mono hB) hbb) k (.int .i64 l[k]) (by have := qz1i (f := intC) (sz := 1) (fun _ => rfl) l k hlt 0 (by omega); simpa [intC] using this)
    clear R0
    cases hq : inB l[k] 0 ((nn : Int) - 1)
    ·have hv : qz1g (fun _ v => inB v 0 ((nn : Int) - 1)) l = false := qz2i (f := (fun _ v => inB v 0 ((nn : Int) - 1))) hlt hq
     go_wp2_with (go_at_call 80; refine (qze _ _ _ _).mono ?_; rintro e w' ⟨rfl, hw⟩; obtain rfl := hw.symm)
     go_ret
     exact ⟨by rw [hv]; rfl, bel⟩
    ·have hall' : Hid (∀ j (h : j < l.length), j < k + 1 -> inB l[j] 0 ((nn : Int) - 1) = true) := fun j h hj => by rcases Nat.lt_or_ge j k with hl | hl; exact hall.out j h hl; obtain rfl : j = k := (by omega); exact hq
     go_wp2_with (go_at_call 80; refine (qze _ _ _ _).mono ?_; rintro e w' ⟨rfl, hw⟩; obtain rfl := hw.symm)
     go_roundw
     case rel => exact ⟨k + 1, by omega, by go_num, hall', bel⟩
     case measure => simp [intOf]; omega
  ·have hv : qz1g (fun _ v => inB v 0 ((nn : Int) - 1)) l = true := (qz1e (fun _ v => inB v 0 ((nn : Int) - 1)) l).2 (fun i h => hall.out i h (by omega))
   go_wp2
   go_ret
   exact ⟨by rw [hv]; rfl, bel⟩
theorem qz69 (B : Nat) (A : Ar) (a0 a1 a2 a3 : Option Addr) (c0 c1 c2 c3 : Nat) (w : World) (hB : B <= w.heap.size) (hA : A.size <= 1048576) (I : qzi B w (.slice a0 A.slots.length c0) (.slice a1 A.guides.length c1) (.slice a2 A.nodes.length c2) (.slice a3 A.vers.length c3) A) :
  Calls Tryz.prog 83 #[.agg #[.int .i64 A.camera, .slice a0 A.slots.length c0, .slice a1 A.guides.length c1, .slice a2 A.nodes.length c2, .slice a3 A.vers.length c3]] w fun e w' => e = .returned (.bool (qz1g (qz3c A.vers.length) A.nodes)) /\ Below w.heap.size w w' := by
 unfold Ar.size at hA
 have X0 : World.rangeAt (w.alloc (.cells #[.int .i64 A.camera, .slice a0 A.slots.length c0, .slice a1 A.guides.length c1, .slice a2 A.nodes.length c2, .slice a3 A.vers.length c3] 35)) w.heap.size 0 [.int .i64 A.camera, .slice a0 A.slots.length c0, .slice a1 A.guides.length c1, .slice a2 A.nodes.length c2, .slice a3 A.vers.length c3] := qz5 w [.int .i64 A.camera, .slice a0 A.slots.length c0, .slice a1 A.guides.length c1, .slice a2 A.nodes.length c2, .slice a3 A.vers.length c3] 35
 have K0 := (Below.refl w.heap.size w).alloc (Nat.le_refl _) (.cells #[.int .i64 A.camera, .slice a0 A.slots.length c0, .slice a1 A.guides.length c1, .slice a2 A.nodes.length c2, .slice a3 A.vers.length c3] 35)
 have hz0 : w.heap.size < (w.alloc (.cells #[.int .i64 A.camera, .slice a0 A.slots.length c0, .slice a1 A.guides.length c1, .slice a2 A.nodes.length c2, .slice a3 A.vers.length c3] 35)).heap.size := by simp
 have I0 := I.below (K0.mono hB)
 clear I
 obtain ⟨x0, x1, x2, x3, x4⟩ := row5 X0
 go_enter Tryz.func83, Tryz.ntmps83
 go_wp2
 clear x0 x1 x2 x3 x4
 generalize w.alloc (.cells #[.int .i64 A.camera, .slice a0 A.slots.length c0, .slice a1 A.guides.length c1, .slice a2 A.nodes.length c2, .slice a3 A.vers.length c3] 35) = w1 at X0 K0 hz0 I0 ⊢
 go_loopw [8] (fun i wr => ∃ k : Nat, k <= A.nodes.length /\ i = .int .i64 k /\ Hid (∀ j (h : j < A.nodes.length), j < k -> qz3c A.vers.length j A.nodes[j] = true) /\ Below w1.heap.size w1 wr) (fun i _ => A.nodes.length - (intOf i).toNat)
 case atStart => exact ⟨0, Nat.zero_le _, rfl, fun _ _ h => absurd h (by omega), Below.refl _ _⟩
 case round =>
  obtain ⟨k, hk, rfl, hall, bel⟩ := hrel
  obtain ⟨x0, x1, x2, x3, x4⟩ := row5 (qz0 X0 bel hz0)
  have KK := K0.trans (bel.mono (show w.heap.size <= w1.heap.size by omega))
  by_cases hlt : k < A.nodes.length
  ·obtain ⟨bb, off, rfl, hbb, R⟩ := qzh.at I0.n (by omega)
   have E := qza (sz := 3) (fun _ => rfl) (qz0 R (bel.mono (by omega)) hbb) k hlt
   have f2 : wr.cell? ⟨bb, off + k * 3 + 2, none⟩ = some (.int .i64 A.nodes[k].head) := E 2 _ rfl
   clear R
   have hlt' : (k : Int) < (A.nodes.length : Int) := by omega
   have hk0 : (0 : Int) <= (k : Int) := by omega
   obtain ⟨nm, hnm⟩ : ∃ nm : Bool, nm = (if ((k : Int) == 0) then (A.nodes[k].key == -1) && (A.nodes[k].value == 0) else inB A.nodes[k].key 0 63 && inB A.nodes[k].value 0 9999) := ⟨_, rfl⟩
   have hnd : qz3c A.vers.length k A.nodes[k] = (inB A.nodes[k].head 0 ((A.vers.length : Int) - 1) && nm) := by
    rw [hnm]
    unfold qz3c
    by_cases h0 : k = 0
    ·subst h0; simp [Bool.and_comm]
    ·have : ((k : Int) == 0) = false := by simp; omega
     rw [this, if_neg h0]; simp [Bool.and_comm]
   have hN : ∀ W : World, W.rangeAt bb (off + k * 3) (ndC A.nodes[k]) -> Calls Tryz.prog 104 #[.pointer (some ⟨bb, off + k * 3, none⟩), .bool ((k : Int) == 0)] W fun e w' => e = .returned (.bool nm) /\ w' = W := by
    intro W hW
    rw [hnm]
    exact qz7w bb (off + k * 3) A.nodes[k] _ W hW
   clear hnm
   cases e1 : inB A.nodes[k].head 0 ((A.vers.length : Int) - 1)
   ·have hq : qz3c A.vers.length k A.nodes[k] = false := by rw [hnd, e1]; rfl
    have hv : qz1g (qz3c A.vers.length) A.nodes = false := qz2i (f := qz3c A.vers.length) hlt hq
    clear hq hnd hN
    go_wp2
    go_quiet (first | (go_at_call 80; exact Calls.quiet_of_same (qze _ _ _ _)) | (go_at_call 104; exact Calls.quiet_of_same (qz7w bb (off + k * 3) A.nodes[k] _ _ E)))
    go_wp2
    go_ret
    exact ⟨by rw [hv]; rfl, qz2m KK _⟩
   ·cases nm
    ·have hq : qz3c A.vers.length k A.nodes[k] = false := by rw [hnd, e1]; rfl
     have hv : qz1g (qz3c A.vers.length) A.nodes = false := qz2i (f := qz3c A.vers.length) hlt hq
     clear hq hnd
     go_wp2
     go_quiet (first | (go_at_call 80; exact Calls.quiet_of_same (qze _ _ _ _)) | (go_at_call 104; exact Calls.quiet_of_same (hN _ E)))
     go_wp2
     go_ret
     exact ⟨by rw [hv]; rfl, qz2m KK _⟩
    ·have hq : qz3c A.vers.length k A.nodes[k] = true := by rw [hnd, e1]; rfl
     have hall' : Hid (∀ j (h : j < A.nodes.length), j < k + 1 -> qz3c A.vers.length j A.nodes[j] = true) := fun j h hj => by rcases Nat.lt_or_ge j k with hl | hl; exact hall.out j h hl; obtain rfl : j = k := (by omega); exact hq
     clear hq hnd
     go_wp2
     go_quiet (first | (go_at_call 80; exact Calls.quiet_of_same (qze _ _ _ _)) | (go_at_call 104; exact Calls.quiet_of_same (hN _ E)))
     go_wp2
     go_roundw
     case rel => exact ⟨k + 1, by omega, by go_num, hall', qz2m bel _⟩
     case measure => simp [intOf]; omega
  ·have hv : qz1g (qz3c A.vers.length) A.nodes = true := (qz1e (qz3c A.vers.length) A.nodes).2 (fun i h => hall.out i h (by omega))
   go_wp2
   go_ret
   exact ⟨by rw [hv]; rfl, KK⟩
theorem qz70 (B : Nat) (A : Ar) (a0 a1 a2 a3 : Option Addr) (c0 c1 c2 c3 : Nat) (w : World) (hB : B <= w.heap.size) (hA : A.size <= 1048576) (I : qzi B w (.slice a0 A.slots.length c0) (.slice a1 A.guides.length c1) (.slice a2 A.nodes.length c2) (.slice a3 A.vers.length c3) A) :
  Calls Tryz.prog 84 #[.agg #[.int .i64 A.camera, .slice a0 A.slots.length c0, .slice a1 A.guides.length c1, .slice a2 A.nodes.length c2, .slice a3 A.vers.length c3]] w fun e w' => e = .returned (.bool (qz1g (verB A.nodes.length A.camera) A.vers)) /\ Below w.heap.size w w' := by
 unfold Ar.size at hA
 have X0 : World.rangeAt (w.alloc (.cells #[.int .i64 A.camera, .slice a0 A.slots.length c0, .slice a1 A.guides.length c1, .slice a2 A.nodes.length c2, .slice a3 A.vers.length c3] 35)) w.heap.size 0 [.int .i64 A.camera, .slice a0 A.slots.length c0, .slice a1 A.guides.length c1, .slice a2 A.nodes.length c2, .slice a3 A.vers.length c3] := qz5 w [.int .i64 A.camera, .slice a0 A.slots.length c0, .slice a1 A.guides.length c1, .slice a2 A.nodes.length c2, .slice a3 A.vers.length c3] 35
 have K0 := (Below.refl w.heap.size w).alloc (Nat.le_refl _) (.cells #[.int .i64 A.camera, .slice a0 A.slots.length c0, .slice a1 A.guides.length c1, .slice a2 A.nodes.length c2, .slice a3 A.vers.length c3] 35)
 have hz0 : w.heap.size < (w.alloc (.cells #[.int .i64 A.camera, .slice a0 A.slots.length c0, .slice a1 A.guides.length c1, .slice a2 A.nodes.length c2, .slice a3 A.vers.length c3] 35)).heap.size := by simp
 have I0 := I.below (K0.mono hB)
 clear I
 obtain ⟨x0, x1, x2, x3, x4⟩ := row5 X0
 go_enter Tryz.func84, Tryz.ntmps84
 go_wp2
 clear x0 x1 x2 x3 x4
 generalize w.alloc (.cells #[.int .i64 A.camera, .slice a0 A.slots.length c0, .slice a1 A.guides.length c1, .slice a2 A.nodes.length c2, .slice a3 A.vers.length c3] 35) = w1 at X0 K0 hz0 I0 ⊢
 go_loopw [7] (fun i wr => ∃ k : Nat, k <= A.vers.length /\ i = .int .i64 k /\ Hid (∀ j (h : j < A.vers.length), j < k -> verB A.nodes.length A.camera j A.vers[j] = true) /\ Below w1.heap.size w1 wr) (fun i _ => A.vers.length - (intOf i).toNat)
 case atStart => exact ⟨0, Nat.zero_le _, rfl, fun _ _ h => absurd h (by omega), Below.refl _ _⟩
 case round =>
  obtain ⟨k, hk, rfl, hall, bel⟩ := hrel
  obtain ⟨x0, x1, x2, x3, x4⟩ := row5 (qz0 X0 bel hz0)
  have KK := K0.trans (bel.mono (show w.heap.size <= w1.heap.size by omega))
  by_cases hlt : k < A.vers.length
  ·obtain ⟨bb, off, rfl, hbb, R⟩ := qzh.at I0.r (by omega)
   have E := qza (sz := 5) (fun _ => rfl) (qz0 R (bel.mono (by omega)) hbb) k hlt
   clear R
   have hlt' : (k : Int) < (A.vers.length : Int) := by omega
   have hk0 : (0 : Int) <= (k : Int) := by omega
   have hN : ∀ W : World, W.rangeAt bb (off + k * 5) (vrC A.vers[k]) -> Calls Tryz.prog 105 #[.pointer (some ⟨bb, off + k * 5, none⟩), .int .i64 k, .int .i64 A.camera, .int .i64 A.nodes.length] W fun e w' => e = .returned (.bool (verB A.nodes.length A.camera k A.vers[k])) /\ w' = W := by
    intro W hW
    rw [<- qzbg]
    exact qz7g bb (off + k * 5) A.vers[k] k A.camera A.nodes.length W (by omega) (by omega) (by omega) hW
   cases hq : verB A.nodes.length A.camera k A.vers[k]
   ·have hv : qz1g (verB A.nodes.length A.camera) A.vers = false := qz2i (f := verB A.nodes.length A.camera) hlt hq
    rw [hq] at hN
    clear hq
    go_wp2
    go_quiet ((go_at_call 105; exact Calls.quiet_of_same (hN _ E)))
    go_wp2
    go_ret
    exact ⟨by rw [hv]; rfl, qz2m KK _⟩
   ·have hall' : Hid (∀ j (h : j < A.vers.length), j < k + 1 -> verB A.nodes.length A.camera j A.vers[j] = true) := fun j h hj => by rcases Nat.lt_or_ge j k with hl | hl; exact hall.out j h hl; obtain rfl : j = k := (by omega); exact hq
    rw [hq] at hN
    clear hq
    go_wp2
    go_quiet ((go_at_call 105; exact Calls.quiet_of_same (hN _ E)))
    go_wp2
    go_roundw
    case rel => exact ⟨k + 1, by omega, by go_num, hall', qz2m bel _⟩
    case measure => simp [intOf]; omega
  ·have hv : qz1g (verB A.nodes.length A.camera) A.vers = true := (qz1e (verB A.nodes.length A.camera) A.vers).2 (fun i h => hall.out i h (by omega))
   go_wp2
   go_ret
   exact ⟨by rw [hv]; rfl, KK⟩
def qz4h (x y z u : Int) (l0 l1 l2 l3 : Nat) : Bool := ((l0 : Int) == x) && ((l1 : Int) == u) && inB l2 1 y && inB l3 1 z
theorem qzag (x y z u cam : Int) (a0 a1 a2 a3 : Option Addr) (l0 l1 l2 l3 c0 c1 c2 c3 : Nat) (w : World) (hA : l0 + l1 + l2 + l3 <= 1048576) :
  Calls Tryz.prog 79 #[.agg #[.int .i64 x, .int .i64 y, .int .i64 z, .int .i64 u], .agg #[.int .i64 cam, .slice a0 l0 c0, .slice a1 l1 c1, .slice a2 l2 c2, .slice a3 l3 c3]] w fun e w' => e = .returned (.bool (qz4h x y z u l0 l1 l2 l3)) /\ Below w.heap.size w w' := by
 have KK := ((Below.refl w.heap.size w).alloc (Nat.le_refl _) (.cells #[.int .i64 x, .int .i64 y, .int .i64 z, .int .i64 u] 43)).alloc (by simp) (.cells #[.int .i64 cam, .slice a0 l0 c0, .slice a1 l1 c1, .slice a2 l2 c2, .slice a3 l3 c3] 35)
 cases e1 : ((l0 : Int) == x)
 ·have hv : qz4h x y z u l0 l1 l2 l3 = false := by simp [qz4h, e1]
  go_enter Tryz.func79, Tryz.ntmps79
  go_wp2_with (go_at_call 80; refine (qze _ _ _ _).mono ?_; rintro e w' ⟨rfl, hw⟩; obtain rfl := hw.symm)
  go_ret
  exact ⟨by rw [hv]; rfl, KK⟩
 cases e2 : ((l1 : Int) == u)
 ·have hv : qz4h x y z u l0 l1 l2 l3 = false := by simp [qz4h, e2]
  go_enter Tryz.func79, Tryz.ntmps79
  go_wp2_with (go_at_call 80; refine (qze _ _ _ _).mono ?_; rintro e w' ⟨rfl, hw⟩; obtain rfl := hw.symm)
  go_ret
  exact ⟨by rw [hv]; rfl, KK⟩
 cases e3 : inB l2 1 y
 ·have hv : qz4h x y z u l0 l1 l2 l3 = false := by simp [qz4h, e3]
  go_enter Tryz.func79, Tryz.ntmps79
  go_wp2_with (go_at_call 80; refine (qze _ _ _ _).mono ?_; rintro e w' ⟨rfl, hw⟩; obtain rfl := hw.symm)
  go_ret
  exact ⟨by rw [hv]; rfl, KK⟩
 ·have hv : qz4h x y z u l0 l1 l2 l3 = inB l3 1 z := by simp [qz4h, e1, e2, e3]
  go_enter Tryz.func79, Tryz.ntmps79
  go_wp2_with (go_at_call 80; refine (qze _ _ _ _).mono ?_; rintro e w' ⟨rfl, hw⟩; obtain rfl := hw.symm)
  go_ret
  exact ⟨by rw [hv]; rfl, KK⟩
theorem qz8z (B : Nat) (A : Ar) (i0 : Int) (a0 a1 a2 a3 : Option Addr) (c0 c1 c2 c3 : Nat) (w : World) (hB : B <= w.heap.size) (hA : A.size <= 1048576) (I : qzi B w (.slice a0 A.slots.length c0) (.slice a1 A.guides.length c1) (.slice a2 A.nodes.length c2) (.slice a3 A.vers.length c3) A) :
  Calls Tryz.prog 57 #[.agg #[.int .i64 A.camera, .slice a0 A.slots.length c0, .slice a1 A.guides.length c1, .slice a2 A.nodes.length c2, .slice a3 A.vers.length c3], .int .i64 i0] w fun e w' => e = .returned (.bool (qz1a A i0)) /\ Below w.heap.size w w' := by
 unfold Ar.size at hA
 have KK := (Below.refl w.heap.size w).alloc (Nat.le_refl _) (.cells #[.int .i64 A.camera, .slice a0 A.slots.length c0, .slice a1 A.guides.length c1, .slice a2 A.nodes.length c2, .slice a3 A.vers.length c3] 35)
 cases hq : inB i0 0 ((A.vers.length : Int) - 1)
 ·have hv : qz1a A i0 = false := by simp [qz1a, hq]
  go_enter Tryz.func57, Tryz.ntmps57
  go_wp2_with (go_at_call 80; refine (qze _ _ _ _).mono ?_; rintro e w' ⟨rfl, hw⟩; obtain rfl := hw.symm)
  go_ret
  exact ⟨by rw [hv]; rfl, KK⟩
 ·obtain ⟨h1, h2⟩ := (qz2c _ _ _).1 hq
  obtain ⟨k, rfl⟩ : ∃ k : Nat, i0 = k := ⟨i0.toNat, by omega⟩
  have hlt : k < A.vers.length := by omega
  have hlt' : (k : Int) < (A.vers.length : Int) := by omega
  have hv : qz1a A k = (A.vers[k].stamp != -1) := by simp [qz1a, hq, qz2z A k hlt]
  obtain ⟨bb, off, rfl, hbb, R⟩ := qzh.at I.r (by omega)
  have E := qza (sz := 5) (fun _ => rfl) (qz0 R (KK.mono hB) hbb) k hlt
  clear R
  go_enter Tryz.func57, Tryz.ntmps57
  go_wp2_with (first | (go_at_call 80; refine (qze _ _ _ _).mono ?_; rintro e w' ⟨rfl, hw⟩; obtain rfl := hw.symm) | (go_at_call 59; refine (qz3x bb (off + k * 5) A.vers[k] _ E).mono ?_; rintro e w' ⟨rfl, hw⟩; obtain rfl := hw.symm))
  go_ret
  exact ⟨by rw [hv]; rfl, KK⟩
theorem qz1q (x y z u : Int) (A : Ar) : qz14 x y z u A = (qz3e x y z u && (qz4h x y z u A.slots.length A.guides.length A.nodes.length A.vers.length && (inB A.camera 0 100 && (qz1g (fun _ v => inB v (-1) 100) A.slots && (qz1g (fun _ v => inB v 0 ((A.nodes.length : Int) - 1)) A.guides && (qz1g (qz3c A.vers.length) A.nodes && qz1g (verB A.nodes.length A.camera) A.vers)))))) := by
 unfold qz14 qz84 qz4h
 cases qz3e x y z u <;> cases inB A.camera 0 100 <;> simp [Bool.and_assoc]
theorem qz8n (B : Nat) (A : Ar) (x y z u : Int) (a0 a1 a2 a3 : Option Addr) (c0 c1 c2 c3 : Nat) (w : World) (hB : B <= w.heap.size) (hA : A.size <= 1048576) (I : qzi B w (.slice a0 A.slots.length c0) (.slice a1 A.guides.length c1) (.slice a2 A.nodes.length c2) (.slice a3 A.vers.length c3) A) :
  Calls Tryz.prog 48 #[.agg #[.int .i64 x, .int .i64 y, .int .i64 z, .int .i64 u], .agg #[.int .i64 A.camera, .slice a0 A.slots.length c0, .slice a1 A.guides.length c1, .slice a2 A.nodes.length c2, .slice a3 A.vers.length c3]] w fun e w' => e = .returned (.bool (qz14 x y z u A)) /\ Below w.heap.size w w' := by
 have hA' := hA
 unfold Ar.size at hA
 have P0 := (qz2u w x y z u 43).below ((Below.refl _ _).alloc (Nat.le_refl _) (.cells #[.int .i64 A.camera, .slice a0 A.slots.length c0, .slice a1 A.guides.length c1, .slice a2 A.nodes.length c2, .slice a3 A.vers.length c3] 35)) (by simp)
 have X0 : World.rangeAt ((w.alloc (.cells #[.int .i64 x, .int .i64 y, .int .i64 z, .int .i64 u] 43)).alloc (.cells #[.int .i64 A.camera, .slice a0 A.slots.length c0, .slice a1 A.guides.length c1, .slice a2 A.nodes.length c2, .slice a3 A.vers.length c3] 35)) (w.heap.size + 1) 0 [.int .i64 A.camera, .slice a0 A.slots.length c0, .slice a1 A.guides.length c1, .slice a2 A.nodes.length c2, .slice a3 A.vers.length c3] := by
  have h := qz5 (w.alloc (.cells #[.int .i64 x, .int .i64 y, .int .i64 z, .int .i64 u] 43)) [.int .i64 A.camera, .slice a0 A.slots.length c0, .slice a1 A.guides.length c1, .slice a2 A.nodes.length c2, .slice a3 A.vers.length c3] 35
  simp only [World.size_alloc] at h
  exact h
 have K0 := ((Below.refl w.heap.size w).alloc (Nat.le_refl _) (.cells #[.int .i64 x, .int .i64 y, .int .i64 z, .int .i64 u] 43)).alloc (by simp) (.cells #[.int .i64 A.camera, .slice a0 A.slots.length c0, .slice a1 A.guides.length c1, .slice a2 A.nodes.length c2, .slice a3 A.vers.length c3] 35)
 have hz0 : w.heap.size + 1 < ((w.alloc (.cells #[.int .i64 x, .int .i64 y, .int .i64 z, .int .i64 u] 43)).alloc (.cells #[.int .i64 A.camera, .slice a0 A.slots.length c0, .slice a1 A.guides.length c1, .slice a2 A.nodes.length c2, .slice a3 A.vers.length c3] 35)).heap.size := by simp
 have I0 := I.below (K0.mono hB)
 clear I
 go_enter Tryz.func48, Tryz.ntmps48
 go_wp2_with fail
 refine (qz4l _ _ _ _ _).mono ?_
 rintro e w1 ⟨rfl, b1⟩
 have P1 := P0.below b1 (by omega)
 have X1 := qz0 X0 b1 hz0
 have K1 := K0.trans (b1.mono (by omega))
 have I1 := I0.below (b1.mono (by omega))
 have hz1 := Nat.lt_of_lt_of_le hz0 b1.size
 clear P0 X0 K0 I0 b1
 have P1' := P1
 obtain ⟨p0, p1, p2, p3⟩ := P1'
 obtain ⟨x0, x1, x2, x3, x4⟩ := row5 X1
 cases h1 : qz3e x y z u
 ·have hv : qz14 x y z u A = false := by simp only [qz1q, h1, Bool.false_and]
  go_wp2_with fail
  go_ret
  exact ⟨by rw [hv]; rfl, K1⟩
 go_wp2_with fail
 clear p0 p1 p2 p3 x0 x1 x2 x3 x4
 refine (qzag _ _ _ _ _ _ _ _ _ _ _ _ _ _ _ _ _ _ hA).mono ?_
 rintro e w2 ⟨rfl, b2⟩
 have P2 := P1.below b2 (by omega)
 have X2 := qz0 X1 b2 hz1
 have K2 := K1.trans (b2.mono (by omega))
 have I2 := I1.below (b2.mono (by omega))
 have hz2 := Nat.lt_of_lt_of_le hz1 b2.size
 clear P1 X1 K1 I1 b2
 have P2' := P2
 obtain ⟨p0, p1, p2, p3⟩ := P2'
 obtain ⟨x0, x1, x2, x3, x4⟩ := row5 X2
 cases h2 : qz4h x y z u A.slots.length A.guides.length A.nodes.length A.vers.length
 ·have hv : qz14 x y z u A = false := by simp only [qz1q, h2, Bool.and_false, Bool.false_and]
  go_wp2_with fail
  go_ret
  exact ⟨by rw [hv]; rfl, K2⟩
 cases h25 : inB A.camera 0 100
 ·have hv : qz14 x y z u A = false := by simp only [qz1q, h25, Bool.and_false, Bool.false_and]
  go_wp2_with (go_at_call 80; refine (qze _ _ _ _).mono ?_; rintro e w' ⟨rfl, hw⟩; obtain rfl := hw.symm)
  go_ret
  exact ⟨by rw [hv]; rfl, K2⟩
 go_wp2_with (go_at_call 80; refine (qze _ _ _ _).mono ?_; rintro e w' ⟨rfl, hw⟩; obtain rfl := hw.symm)
 clear p0 p1 p2 p3 x0 x1 x2 x3 x4
 refine (qz6h B _ A.slots _ (by omega) (by omega) I2.s).mono ?_
 rintro e w3 ⟨rfl, b3⟩
 have P3 := P2.below b3 (by omega)
 have X3 := qz0 X2 b3 hz2
 have K3 := K2.trans (b3.mono (by omega))
 have I3 := I2.below (b3.mono (by omega))
 have hz3 := Nat.lt_of_lt_of_le hz2 b3.size
 clear P2 X2 K2 I2 b3
 have P3' := P3
 obtain ⟨p0, p1, p2, p3⟩ := P3'
 obtain ⟨x0, x1, x2, x3, x4⟩ := row5 X3
 cases h3 : qz1g (fun _ v => inB v (-1) 100) A.slots
 ·have hv : qz14 x y z u A = false := by simp only [qz1q, h3, Bool.and_false, Bool.false_and]
  go_wp2_with fail
  go_ret
  exact ⟨by rw [hv]; rfl, K3⟩
 go_wp2_with fail
 clear p0 p1 p2 p3 x0 x1 x2 x3 x4
 refine (qz5m B _ A.guides A.nodes.length _ (by omega) (by omega) (by omega) I3.g).mono ?_
 rintro e w4 ⟨rfl, b4⟩
 have P4 := P3.below b4 (by omega)
 have X4 := qz0 X3 b4 hz3
 have K4 := K3.trans (b4.mono (by omega))
 have I4 := I3.below (b4.mono (by omega))
 have hz4 := Nat.lt_of_lt_of_le hz3 b4.size
 clear P3 X3 K3 I3 b4
 have P4' := P4
 obtain ⟨p0, p1, p2, p3⟩ := P4'
 obtain ⟨x0, x1, x2, x3, x4⟩ := row5 X4
 cases h4 : qz1g (fun _ v => inB v 0 ((A.nodes.length : Int) - 1)) A.guides
 ·have hv : qz14 x y z u A = false := by simp only [qz1q, h4, Bool.and_false, Bool.false_and]
  go_wp2_with fail
  go_ret
  exact ⟨by rw [hv]; rfl, K4⟩
 go_wp2_with fail
 clear p0 p1 p2 p3 x0 x1 x2 x3 x4
 refine (qz69 B A _ _ _ _ _ _ _ _ _ (by omega) hA' I4).mono ?_
 rintro e w5 ⟨rfl, b5⟩
 have P5 := P4.below b5 (by omega)
 have X5 := qz0 X4 b5 hz4
 have K5 := K4.trans (b5.mono (by omega))
 have I5 := I4.below (b5.mono (by omega))
 have hz5 := Nat.lt_of_lt_of_le hz4 b5.size
 clear P4 X4 K4 I4 b5
 have P5' := P5
 obtain ⟨p0, p1, p2, p3⟩ := P5'
 obtain ⟨x0, x1, x2, x3, x4⟩ := row5 X5
 cases h5 : qz1g (qz3c A.vers.length) A.nodes
 ·have hv : qz14 x y z u A = false := by simp only [qz1q, h5, Bool.and_false, Bool.false_and]
  go_wp2_with fail
  go_ret
  exact ⟨by rw [hv]; rfl, K5⟩
 go_wp2_with fail
 clear p0 p1 p2 p3 x0 x1 x2 x3 x4
 refine (qz70 B A _ _ _ _ _ _ _ _ _ (by omega) hA' I5).mono ?_
 rintro e w6 ⟨rfl, b6⟩
 have K6 := K5.trans (b6.mono (by omega))
 have hv : qz14 x y z u A = qz1g (verB A.nodes.length A.camera) A.vers := by simp only [qz1q, h1, h2, h25, h3, h4, h5, Bool.true_and]
 go_wp2_with fail
 go_ret
 exact ⟨by rw [hv]; rfl, K6⟩
end
end Go.Proofs.YtknncnaikeinbaaGreat
