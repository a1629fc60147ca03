/-
  What the law's proof goes by, part 12.
-/
import Derived.Laws.CopyOwn
import Derived.Laws.IdiomCopy
import Derived.Laws.MakeOwn
import Derived.Test.YtlfjhcdjgoeafaaGreatDoorFindStep00
import Derived.Test.YtlfjhcdjgoeafaaGreatDoorFindStep07
import Derived.Test.YtlfjhcdjgoeafaaGreatDoorFindStep08
import Derived.Test.YtlfjhcdjgoeafaaGreatDoorFindStep09
namespace Go.Proofs.YtlfjhcdjgoeafaaGreatDoor
open Go.ChangeShapes Go.WideShapes Go.ChangeAt Go.RowKit
set_option linter.unusedVariables false
set_option linter.unusedSimpArgs false
set_option linter.unnecessarySimpa false
set_option linter.unusedSectionVars false
section
attribute [local go_sem ↓] Go.wp_at_zero Go.wp_at_succ
structure Ptrs {α : Type} (B : Nat) (w : World) (f : α → List Value) (ps : List Addr) (l : List α) : Prop where
 len : ps.length = l.length
 at' : ∀ i (h : i < l.length), ∃ b o, ps[i]? = some ⟨b, o, none⟩ ∧ b < B ∧ w.rangeAt b o (f l[i])
def ptrC (p : Addr) : List Value := [.pointer (some p)]
def PtrsAt {α : Type} (B : Nat) (w : World) (v : Value) (f : α → List Value) (l : List α) : Prop :=
 ∃ ps, SliceAt B w v l.length (cellsOf ptrC ps) ∧ Ptrs B w f ps l
theorem Ptrs.below {α : Type} {B : Nat} {w w' : World} {f : α → List Value} {ps : List Addr} {l : List α} (h : Ptrs B w f ps l) (hb : Below B w w') : Ptrs B w' f ps l :=
 ⟨h.len, fun i hi => by obtain ⟨b, o, h1, h2, h3⟩ := h.at' i hi; exact ⟨b, o, h1, h2, rangeAt_below h3 hb h2⟩⟩
theorem PtrsAt.below {α : Type} {B : Nat} {w w' : World} {v : Value} {f : α → List Value} {l : List α} (h : PtrsAt B w v f l) (hb : Below B w w') : PtrsAt B w' v f l := by
 obtain ⟨ps, h1, h2⟩ := h
 exact ⟨ps, h1.below hb, h2.below hb⟩
structure CellsAt (B : Nat) (w : World) (cb : Nat) (s g n r : Value) (A : Ar) : Prop where
 row : w.rangeAt cb 0 [.int .i64 A.camera, s, g, n, r]
 blk : cb < B
 s : SliceAt B w s A.slots.length (cellsOf intC A.slots)
 g : SliceAt B w g A.guides.length (cellsOf intC A.guides)
 n : PtrsAt B w n ndC A.nodes
 r : PtrsAt B w r vrC A.vers
theorem CellsAt.below {B : Nat} {w w' : World} {cb : Nat} {s g n r : Value} {A : Ar} (h : CellsAt B w cb s g n r A) (hb : Below B w w') : CellsAt B w' cb s g n r A :=
 ⟨rangeAt_below h.row hb h.blk, h.blk, h.s.below hb, h.g.below hb, h.n.below hb, h.r.below hb⟩
end
section
def Blk (w : World) (b : Nat) (t : TypeId) (n : Nat) : Prop := ∃ cur, w.heap[b]? = some (.cells cur t (0, 0)) ∧ cur.size = n
theorem Blk.lt {w : World} {b : Nat} {t : TypeId} {n : Nat} (h : Blk w b t n) : b < w.heap.size := by
 obtain ⟨cur, h, -⟩ := h
 rcases Nat.lt_or_ge b w.heap.size with hl | hl
 ·exact hl
 ·rw [Array.getElem?_eq_none hl] at h; cases h
theorem Blk.ne {w : World} {a b : Nat} {t u : TypeId} {n m : Nat} (h1 : Blk w a t n) (h2 : Blk w b u m) (h : t ≠ u) : a ≠ b := by
 intro e
 subst e
 obtain ⟨c, h1, -⟩ := h1
 obtain ⟨d, h2, -⟩ := h2
 rw [h1] at h2
 injection h2 with h2
 injection h2 with _ h3 _
 exact h h3
theorem Blk.below {w w' : World} {B b : Nat} {t : TypeId} {n : Nat} (h : Blk w b t n) (hb : Below B w w') (hB : b < B) : Blk w' b t n := by
 obtain ⟨cur, h, hs⟩ := h
 exact ⟨cur, (hb.block b hB).trans h, hs⟩
theorem Blk.grown {w w' : World} {b : Nat} {t : TypeId} {n : Nat} (h : Blk w b t n) (hb : Below w.heap.size w w') : Blk w' b t n := h.below hb h.lt
theorem Blk.but {S : Nat → Prop} {w w' : World} {b : Nat} {t : TypeId} {n : Nat} (h : Blk w b t n) (O : But S w w') (hS : ¬ S b) : Blk w' b t n := by
 have hl := h.lt
 obtain ⟨cur, h, hs⟩ := h
 exact ⟨cur, (O.block b hl hS).trans h, hs⟩
theorem Blk.new (w : World) (cs : Array Value) (t : TypeId) : Blk (w.alloc (.cells cs t)) w.heap.size t cs.size := ⟨cs, by show (w.heap.push _)[w.heap.size]? = some _; simp, rfl⟩
theorem Blk.setCell {w : World} {b : Nat} {t : TypeId} {n : Nat} (h : Blk w b t n) (a : Addr) (v : Value) : Blk (w.setCell a v) b t n := by
 obtain ⟨cur, h, hs⟩ := h
 by_cases e : a.block = b
 ·refine ⟨if a.spot.isSome then cur else cur.setIfInBounds a.off v, ?_, ?_⟩
  ·simp only [World.setCell, Array.getElem?_modify, e, if_true, h, Option.map_some]
  ·split
   ·exact hs
   ·simpa using hs
 ·exact ⟨cur, (Below.heap_setCell _ _ _ _ (fun h' => e h'.symm)).trans h, hs⟩
theorem Blk.setCells {t : TypeId} {b n c : Nat} : ∀ (vs : List Value) (o : Nat) (w : World), Blk w b t n → Blk (w.setCells c o vs) b t n
 | [], _, _, h => h
 | v :: vs, o, w, h => Blk.setCells vs (o + 1) (w.setCell ⟨c, o, none⟩ v) (h.setCell _ v)
theorem Blk.there {w : World} {b : Nat} {t : TypeId} {n : Nat} (h : Blk w b t n) (o k : Nat) (hk : o + k ≤ n) : w.there b o k := by
 obtain ⟨cur, h, hs⟩ := h
 intro j hj
 refine ⟨?_, by simp [World.frozen?, h]⟩
 rw [show w.cell? ⟨b, o + j, none⟩ = cur[o + j]? by simp [World.cell?, h]]
 rw [Array.getElem?_eq_getElem (by omega)]
 rfl
theorem Blk.own {w : World} {base b : Nat} {t : TypeId} {n : Nat} {cs : List Value} (h : Blk w b t n) (R : w.rangeAt b 0 cs) (hl : cs.length = n) (hb : base ≤ b) (hm : n ≤ maxLen) : w.ownsRow base t 1 (.slice (some ⟨b, 0, none⟩) n n) n cs := by
 obtain ⟨cur, h, hs⟩ := h
 refine ⟨by omega, Or.inr ⟨b, n, cur, rfl, hb, h, Nat.le_refl _, hm, by omega, ?_⟩⟩
 apply List.ext_getElem?
 intro j
 rcases Nat.lt_or_ge j n with hj | hj
 ·have := R j cs[j] (by rw [List.getElem?_eq_getElem])
  rw [Nat.zero_add, show w.cell? ⟨b, j, none⟩ = cur[j]? by simp [World.cell?, h]] at this
  rw [List.getElem?_take, if_pos (by omega), Array.getElem?_toList, this, List.getElem?_eq_getElem]
 ·rw [List.getElem?_eq_none (by simp; omega), List.getElem?_eq_none (by omega)]
theorem row_blk {w : World} {base : Nat} {e : TypeId} {size n : Nat} {a : Option Addr} {cap : Nat} {xs : List Value} (h : w.ownsRow base e size (.slice a n cap) n xs) (hp : 0 < n) : ∃ g, a = some ⟨g, 0, none⟩ ∧ base ≤ g ∧ Blk w g e (cap * size) ∧ n ≤ cap ∧ w.rangeAt g 0 xs := by
 rcases h.2 with ⟨h1, h2⟩ | ⟨g, c, cur, h1, hg, hh, hnc, _, hs, ht⟩
 ·omega
 ·injection h1 with h1 h2 h3
  subst h1 h3
  refine ⟨g, rfl, hg, ⟨cur, hh, hs⟩, hnc, ?_⟩
  intro j v hj
  rw [Nat.zero_add, show w.cell? ⟨g, j, none⟩ = cur[j]? by simp [World.cell?, hh]]
  rw [← ht, List.getElem?_take] at hj
  split at hj
  ·rwa [Array.getElem?_toList] at hj
  ·cases hj
structure OwnPtrs {α : Type} (base : Nat) (t : TypeId) (sz : Nat) (w : World) (f : α → List Value) (ps : List Addr) (l : List α) : Prop where
 len : ps.length = l.length
 at' : ∀ i (h : i < l.length), ∃ b o n, ps[i]? = some ⟨b, o, none⟩ ∧ base ≤ b ∧ Blk w b t n ∧ o + sz ≤ n ∧ w.rangeAt b o (f l[i])
 apart : ∀ (i j b o b' o' : Nat), i ≠ j → ps[i]? = some ⟨b, o, none⟩ → ps[j]? = some ⟨b', o', none⟩ → b ≠ b' ∨ o + sz ≤ o' ∨ o' + sz ≤ o
theorem OwnPtrs.grown {α : Type} {base : Nat} {t : TypeId} {sz : Nat} {w w' : World} {f : α → List Value} {ps : List Addr} {l : List α} (h : OwnPtrs base t sz w f ps l) (hb : Below w.heap.size w w') : OwnPtrs base t sz w' f ps l :=
 ⟨h.len, fun i hi => by obtain ⟨b, o, n, h1, h2, h3, h4, h5⟩ := h.at' i hi; exact ⟨b, o, n, h1, h2, h3.grown hb, h4, rangeAt_below h5 hb h3.lt⟩, h.apart⟩
theorem OwnPtrs.but {α : Type} {base : Nat} {t : TypeId} {sz : Nat} {S : Nat → Prop} {w w' : World} {f : α → List Value} {ps : List Addr} {l : List α} (h : OwnPtrs base t sz w f ps l) (O : But S w w') (hS : ∀ b n, base ≤ b → Blk w b t n → ¬ S b) : OwnPtrs base t sz w' f ps l :=
 ⟨h.len, fun i hi => by obtain ⟨b, o, n, h1, h2, h3, h4, h5⟩ := h.at' i hi; exact ⟨b, o, n, h1, h2, h3.but O (hS b n h2 h3), h4, O.range h5 h3.lt (hS b n h2 h3)⟩, h.apart⟩
theorem OwnPtrs.lo {α : Type} {base lo : Nat} {t : TypeId} {sz : Nat} {w : World} {f : α → List Value} {ps : List Addr} {l : List α} (h : OwnPtrs base t sz w f ps l) (hl : lo ≤ base) : OwnPtrs lo t sz w f ps l :=
 ⟨h.len, fun i hi => by obtain ⟨b, o, n, h1, h2, h3⟩ := h.at' i hi; exact ⟨b, o, n, h1, Nat.le_trans hl h2, h3⟩, h.apart⟩
theorem OwnPtrs.ptrs {α : Type} {base : Nat} {t : TypeId} {sz : Nat} {w : World} {f : α → List Value} {ps : List Addr} {l : List α} (h : OwnPtrs base t sz w f ps l) : Ptrs w.heap.size w f ps l :=
 ⟨h.len, fun i hi => by obtain ⟨b, o, n, h1, h2, h3, h4, h5⟩ := h.at' i hi; exact ⟨b, o, h1, h3.lt, h5⟩⟩
theorem OwnPtrs.set {α : Type} {base : Nat} {t : TypeId} {sz : Nat} {w : World} {f : α → List Value} {ps : List Addr} {l : List α} (hf : ∀ x, (f x).length = sz) (h : OwnPtrs base t sz w f ps l) (i : Nat) (hi : i < l.length) (b o : Nat) (hp : ps[i]? = some ⟨b, o, none⟩) (k : Nat) (hk : k < sz) (v : Value) (x : α) (hx : (f l[i]).set k v = f x) : OwnPtrs base t sz (w.setCell ⟨b, o + k, none⟩ v) f ps (l.set i x) := by
 refine ⟨by rw [h.len, List.length_set], fun j hj => ?_, h.apart⟩
 rw [List.length_set] at hj
 obtain ⟨b', o', n, h1, h2, h3, h4, h5⟩ := h.at' j hj
 refine ⟨b', o', n, h1, h2, h3.setCell _ _, h4, ?_⟩
 by_cases e : i = j
 ·subst e
  rw [hp] at h1
  injection h1 with h1
  injection h1 with h1 h1'
  subst h1 h1'
  rw [List.getElem_set_self, ← hx]
  intro m u hm
  by_cases em : k = m
  ·subst em
   rw [List.getElem?_set_self (by rw [hf]; exact hk)] at hm
   cases hm
   have hkl : k < (f l[i]).length := by rw [hf]; exact hk
   have hc := h5 k (f l[i])[k] (List.getElem?_eq_getElem hkl)
   exact World.cell?_setCell_same _ _ _ hc
  ·rw [List.getElem?_set_ne em] at hm
   refine (World.cell?_setCell_other _ _ _ _ ?_).trans (h5 m u hm)
   intro e'
   have := congrArg Addr.off e'
   simp at this
   omega
 ·rw [List.getElem_set_ne e]
  intro m u hm
  have hml : m < sz := by
   rcases Nat.lt_or_ge m (f l[j]).length with hl | hl
   ·rwa [hf] at hl
   ·rw [List.getElem?_eq_none hl] at hm; cases hm
  refine (World.cell?_setCell_other _ _ _ _ ?_).trans (h5 m u hm)
  intro e'
  have e1 := congrArg Addr.block e'
  have e2 := congrArg Addr.off e'
  simp at e1 e2
  rcases h.apart i j b o b' o' e hp h1 with h6 | h6 | h6
  ·exact h6 e1
  ·omega
  ·omega
theorem OwnPtrs.snoc {α : Type} {base : Nat} {t : TypeId} {sz : Nat} {w : World} {f : α → List Value} {ps : List Addr} {l : List α} (hf : ∀ x, (f x).length = sz) (h : OwnPtrs base t sz w f ps l) (x : α) (b : Nat) (hb : base ≤ b) (hB : Blk w b t sz) (R : w.rangeAt b 0 (f x)) (hn : ∀ (i c o : Nat), ps[i]? = some ⟨c, o, none⟩ → c ≠ b) : OwnPtrs base t sz w f (ps ++ [⟨b, 0, none⟩]) (l ++ [x]) := by
 refine ⟨by simp [h.len], fun i hi => ?_, ?_⟩
 ·by_cases e : i < l.length
  ·obtain ⟨b', o', n, h1, h2, h3, h4, h5⟩ := h.at' i e
   refine ⟨b', o', n, ?_, h2, h3, h4, ?_⟩
   ·rw [List.getElem?_append_left (by rw [h.len]; exact e)]
    exact h1
   ·rw [List.getElem_append_left e]
    exact h5
  ·have : i = l.length := by simp at hi; omega
   subst this
   refine ⟨b, 0, sz, ?_, hb, hB, by omega, ?_⟩
   ·rw [List.getElem?_append_right (by rw [h.len]; omega), h.len]
    simp
   ·simpa using R
 ·have key : ∀ (i c o : Nat), (ps ++ [⟨b, 0, none⟩])[i]? = some ⟨c, o, none⟩ → (i < ps.length ∧ ps[i]? = some ⟨c, o, none⟩ ∧ c ≠ b) ∨ (i = ps.length ∧ c = b ∧ o = 0) := by
   intro i c o hi
   rcases Nat.lt_or_ge i ps.length with hl | hl
   ·rw [List.getElem?_append_left hl] at hi
    exact Or.inl ⟨hl, hi, hn i c o hi⟩
   ·rw [List.getElem?_append_right hl] at hi
    have h0 : i - ps.length = 0 := by
     rcases Nat.eq_zero_or_pos (i - ps.length) with h0 | h0
     ·exact h0
     ·rw [List.getElem?_eq_none (by simp; omega)] at hi; cases hi
    rw [h0] at hi
    simp at hi
    exact Or.inr ⟨by omega, hi.1.symm, hi.2.symm⟩
  intro i j b1 o1 b2 o2 hij h1 h2
  rcases key i b1 o1 h1 with ⟨k1, k2, k3⟩ | ⟨k1, k2, k3⟩
  ·rcases key j b2 o2 h2 with ⟨m1, m2, m3⟩ | ⟨m1, m2, m3⟩
   ·exact h.apart i j b1 o1 b2 o2 hij k2 m2
   ·exact Or.inl (by rw [m2]; exact k3)
  ·rcases key j b2 o2 h2 with ⟨m1, m2, m3⟩ | ⟨m1, m2, m3⟩
   ·exact Or.inl (by rw [k2]; exact Ne.symm m3)
   ·omega
def rowPtrs (b sz n : Nat) : List Addr := (List.range n).map fun i => ⟨b, i * sz, none⟩
theorem rowPtrs_length (b sz n : Nat) : (rowPtrs b sz n).length = n := by simp [rowPtrs]
theorem rowPtrs_at (b sz n i : Nat) (hi : i < n) : (rowPtrs b sz n)[i]? = some ⟨b, i * sz, none⟩ := by simp [rowPtrs, hi]
theorem rowPtrs_succ (b sz n : Nat) : rowPtrs b sz (n + 1) = rowPtrs b sz n ++ [⟨b, n * sz, none⟩] := by simp [rowPtrs, List.range_succ]
theorem ownPtrs_row {α : Type} {base : Nat} {t : TypeId} {sz : Nat} {w : World} {f : α → List Value} {b : Nat} {l : List α} (hf : ∀ x, (f x).length = sz) (hb : base ≤ b) (hB : Blk w b t (l.length * sz)) (R : w.rangeAt b 0 (cellsOf f l)) : OwnPtrs base t sz w f (rowPtrs b sz l.length) l := by
 refine ⟨rowPtrs_length _ _ _, fun i hi => ⟨b, i * sz, l.length * sz, rowPtrs_at b sz l.length i hi, hb, hB, ?_, ?_⟩, ?_⟩
 ·rw [← Nat.succ_mul]; exact Nat.mul_le_mul_right _ hi
 ·simpa using rangeAt_elem hf R i hi
 ·intro i j b1 o1 b2 o2 hij h1 h2
  have k1 : i < l.length := by
   rcases Nat.lt_or_ge i l.length with hl | hl
   ·exact hl
   ·rw [List.getElem?_eq_none (by rw [rowPtrs_length]; exact hl)] at h1; cases h1
  have k2 : j < l.length := by
   rcases Nat.lt_or_ge j l.length with hl | hl
   ·exact hl
   ·rw [List.getElem?_eq_none (by rw [rowPtrs_length]; exact hl)] at h2; cases h2
  rw [rowPtrs_at b sz l.length i k1] at h1
  rw [rowPtrs_at b sz l.length j k2] at h2
  injection h1 with h1
  injection h1 with h3 h4
  injection h2 with h2
  injection h2 with h5 h6
  subst h4 h6
  refine Or.inr ?_
  rcases Nat.lt_or_ge i j with h | h
  ·exact Or.inl (by rw [← Nat.succ_mul]; exact Nat.mul_le_mul_right _ h)
  ·exact Or.inr (by rw [← Nat.succ_mul]; exact Nat.mul_le_mul_right _ (by omega))
theorem run_copy_whole {P : Program} (w : World) (dT sT ty elem : TypeId) (b n dCap sCap sz : Nat) (a : Option Addr) (cs : List Value)
  (hu : P.underlying dT = some (.slice elem)) (hs : (P.info? elem).map (·.size) = some sz) (hn : cs.length = n * sz)
  (hsrc : 0 < n → ∃ ad, a = some ad ∧ ∀ j v, cs[j]? = some v → w.cell? (ad.add j) = some v) (hc : w.there b 0 (n * sz)) (h1 : ∀ v ∈ cs, v.oneCell' = true) :
  (Builtin.copy_ #[dT, sT] ty #[.slice (some ⟨b, 0, none⟩) n dCap, .slice a n sCap]).run P w = .ok (goInt n) (w.setCells b 0 cs) := by
 cases hq : P.info? elem with
 | none => simp [hq] at hs
 | some i =>
  have hi : i.size = sz := by simpa [hq] using hs
  rcases Nat.eq_zero_or_pos n with h0 | h0
  ·subst h0
   have e0 : cs = [] := List.eq_nil_of_length_eq_zero (by simpa using hn)
   subst e0
   have hl : ∀ (x : Addr), (loadCells x 0).run P w = .ok #[] w := fun x => by simpa using run_loadCells_list (P := P) w x [] (by simp)
   cases a <;> simp [Builtin.copy_, run_underlying hu, Builtin.lenOf, Builtin.firstCells, sizeOf, typeInfo, hq, storeCells, hl, World.setCells]
  ·obtain ⟨ad, rfl, hsr⟩ := hsrc h0
   have hl := run_loadCells_list (P := P) w ad cs hsr
   have hst := run_storeCells_cells (P := P) b 0 cs 0 w (fun j hj => by have := (hc j (by omega)).1; simpa using this) (fun j hj => by have := (hc j (by omega)).2; simpa using this) h1
   rw [hn] at hl
   simp [Builtin.copy_, run_underlying hu, Builtin.lenOf, Builtin.firstCells, sizeOf, typeInfo, hq, hi, hl, hst]
theorem wpList_copy_whole {P : Program} {w : World} {ops : Array Oper} {rest : List Oper} {o : Oper} {a : Act} {Q : Exit → Act → World → Prop} (hgd : o.guard = none) (d s : Operand) (dT sT : TypeId)
  (ho : o.op = .call { callee := .builtin .copy, args := #[d, s], argTypes := #[dT, sT] }) (elem : TypeId) (hu : P.underlying dT = some (.slice elem)) (sz : Nat) (hsz : (P.info? elem).map (·.size) = some sz)
  (sp : Option Addr) (b n dCap sCap : Nat) (hd : a.eval d = .slice (some ⟨b, 0, none⟩) n dCap) (hs : a.eval s = .slice sp n sCap)
  (cs : List Value) (hn : cs.length = n * sz) (hsrc : 0 < n → ∃ ad, sp = some ad ∧ ∀ j v, cs[j]? = some v → w.cell? (ad.add j) = some v) (hc : w.there b 0 (n * sz)) (h1 : ∀ v ∈ cs, v.oneCell' = true)
  (h : wpList P ops Q rest (a.put o.dst (goInt n)) (w.setCells b 0 cs)) : wpList P ops Q (o :: rest) a w := by
 refine wpList_plain hgd fun K hK => ?_
 have hrun := run_copy_whole (P := P) w dT sT o.type elem b n dCap sCap sz sp cs hu hsz hn hsrc hc h1
 unfold Oper.wp
 simp [execOp, ho, resolve, invoke, builtin, hd, hs, hrun, Result.andThen]
 exact hK _ _ h
end
end Go.Proofs.YtlfjhcdjgoeafaaGreatDoor
