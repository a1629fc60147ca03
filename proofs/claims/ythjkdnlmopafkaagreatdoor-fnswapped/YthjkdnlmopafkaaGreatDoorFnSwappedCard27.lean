/-
  What the law's proof goes by, part 28.
-/
import Derived.Test.YthjkdnlmopafkaaGreatDoorFnSwappedCard00
import Derived.Test.YthjkdnlmopafkaaGreatDoorFnSwappedCard25
namespace Go.Proofs.YthjkdnlmopafkaaGreatDoor
open Go.ChangeShapes Go.WideShapes Go.ChangeAt Go.RowKit
set_option maxRecDepth 100000
set_option maxHeartbeats 16000000
set_option linter.unusedVariables false
set_option linter.unusedSimpArgs false
set_option linter.unnecessarySimpa false
set_option linter.unusedSectionVars false
section
structure NdP (nv n : Int) (x : Nd) : Prop where
 k0 : n = 0 -> x.key = -1 /\ x.value = 0
 k1 : n ≠ 0 -> 0 <= x.key /\ x.key <= 63
 v1 : 0 <= x.value /\ x.value <= 9999
 hd : 0 <= x.head /\ x.head < nv
structure VrP (nn cam i : Int) (v : Vr) : Prop where
 nx : v.next = -1 ∨ (1 <= v.next /\ v.next < nn)
 st : -1 <= v.stamp /\ v.stamp <= cam
 pv : -1 <= v.prev /\ v.prev < i
 kd : 0 <= v.kind /\ v.kind <= 2
structure ArP (x y z u : Int) (A : Ar) : Prop where
 pl : qz3w x y z u = true
 cam : 0 <= Q6w /\ Q6w <= 100
 sl : (Q74 : Int) = x
 gl : (Q75 : Int) = u
 nl : 1 <= (Q6q : Int) /\ (Q6q : Int) <= y
 vl : 1 <= (Q6r : Int) /\ (Q6r : Int) <= z
 slot : ∀ s ∈ A.slots, -1 <= s /\ s <= 100
 guide : ∀ g ∈ A.guides, 0 <= g /\ g < (Q6q : Int)
 node : ∀ n : Int, 0 <= n -> n < (Q6q : Int) -> NdP Q6r n (ndOf A n)
 ver : ∀ v : Int, 0 <= v -> v < (Q6r : Int) -> VrP Q6q Q6w v (vrOf A v)
theorem qz82 {α : Type} {l : List α} {d : α} {i : Nat} (h : i < l.length) : l.getD i d = l[i] := by simp [List.getD_eq_getElem?_getD, h]
theorem qz50 {l : List Int} {P : Int -> Prop} : (∀ s ∈ l, P s) ↔ ∀ i (h : i < l.length), P l[i] := by
 constructor
 ·intro h i hi
  exact h _ (List.getElem_mem hi)
 ·intro h s hs
  obtain ⟨i, hi, rfl⟩ := List.getElem_of_mem hs
  exact h i hi
theorem qzbn (x y z u : Int) (A : Ar) : qz10 x y z u A = true ↔ ArP x y z u A := by
 simp only [qz10, qz6r, Bool.and_eq_true, qz1k, qz13, beq_iff_eq]
 constructor
 ·rintro ⟨⟨⟨⟨⟨⟨⟨⟨⟨h1, h2⟩, h3⟩, h4⟩, h5⟩, h6⟩, h7⟩, h8⟩, h9⟩, h10⟩
  refine ⟨h1, h2, h3, h4, h5, h6, qz50.2 h7, qz50.2 fun i hi => by have := h8 i hi; omega, fun n a b => ?_, fun v a b => ?_⟩
  ·have := h9 n.toNat (by omega)
   rw [ndOf, qz82 (by omega)]
   generalize A.nodes[n.toNat]'(by omega) = q at *
   unfold qz46 at this
   split at this
   ·simp only [Bool.and_eq_true, qz13, beq_iff_eq] at this
    constructor <;> omega
   ·simp only [Bool.and_eq_true, qz13] at this
    constructor <;> omega
  ·have := h10 v.toNat (by omega)
   rw [vrOf, qz82 (by omega)]
   generalize A.vers[v.toNat]'(by omega) = q at *
   simp only [verB, Bool.and_eq_true, Bool.or_eq_true, qz13, beq_iff_eq] at this
   constructor <;> omega
 ·rintro ⟨h1, h2, h3, h4, h5, h6, h7, h8, h9, h10⟩
  refine ⟨⟨⟨⟨⟨⟨⟨⟨⟨h1, h2⟩, h3⟩, h4⟩, h5⟩, h6⟩, qz50.1 h7⟩, fun i hi => by have := qz50.1 h8 i hi; omega⟩, fun i hi => ?_⟩, fun i hi => ?_⟩
  ·have := h9 i (by omega) (by omega)
   rw [ndOf, qz82 (by simpa using hi)] at this
   simp only [Int.toNat_natCast] at this
   generalize A.nodes[i] = q at *
   obtain ⟨k0, k1, v1, hd⟩ := this
   unfold qz46
   split
   ·simp only [Bool.and_eq_true, qz13, beq_iff_eq]
    omega
   ·simp only [Bool.and_eq_true, qz13]
    omega
  ·have := h10 i (by omega) (by omega)
   rw [vrOf, qz82 (by simpa using hi)] at this
   simp only [Int.toNat_natCast] at this
   generalize A.vers[i] = q at *
   obtain ⟨k0, k1, v1, hd⟩ := this
   simp only [verB, Bool.and_eq_true, Bool.or_eq_true, qz13, beq_iff_eq]
   omega
theorem qz6n {α : Type} {l : List α} {d v : α} {k i : Int} (hk : 0 <= k) (hkl : k < (l.length : Int)) (hi : 0 <= i) : (l.set k.toNat v).getD i.toNat d = if i = k then v else l.getD i.toNat d := by
 simp only [List.getD_eq_getElem?_getD, List.getElem?_set]
 by_cases e : i = k
 ·subst e
  rw [if_pos rfl, if_pos (by omega), if_pos rfl]
  rfl
 ·rw [if_neg (by omega), if_neg e]
theorem qz5z {α : Type} {l : List α} {d v : α} {i : Int} (hi : 0 <= i) (hl : i < (l.length : Int)) : (l ++ [v]).getD i.toNat d = l.getD i.toNat d := by
 simp only [List.getD_eq_getElem?_getD]
 rw [List.getElem?_append_left (by omega)]
theorem qz4k {α : Type} {l : List α} {d v : α} {i : Int} (hl : i = (l.length : Int)) : (l ++ [v]).getD i.toNat d = v := by
 subst hl
 simp
theorem qz6p {l : List Int} {k : Nat} {v s : Int} (h : s ∈ l.set k v) : s = v ∨ s ∈ l := by
 rcases List.mem_or_eq_of_mem_set h with h | h
 ·exact Or.inr h
 ·exact Or.inl h
theorem qzdy {l : List Int} {k : Nat} {d : Int} (h : k < l.length) : l.getD k d ∈ l := by
 rw [qz82 h]
 exact List.getElem_mem h
theorem NdP.mono {nv nv' n : Int} {x : Nd} (h : NdP nv n x) (hn : nv <= nv') : NdP nv' n x := ⟨h.k0, h.k1, h.v1, h.hd.1, by have := h.hd.2; omega⟩
theorem VrP.mono {nn nn' cam cam' i : Int} {v : Vr} (h : VrP nn cam i v) (hn : nn <= nn') (hc : cam <= cam') : VrP nn' cam' i v := ⟨by have := h.nx; omega, by have := h.st; omega, h.pv, h.kd⟩
theorem ArP.setV {x y z u : Int} {A : Ar} (P : ArP x y z u A) {k : Int} {v : Vr} (h0 : 0 <= k) (h1 : k < (Q6r : Int)) (hv : VrP Q6q Q6w k v) : ArP x y z u { A with vers := A.vers.set k.toNat v } := by
 obtain ⟨p1, p2, p3, p4, p5, p6, p7, p8, p9, p10⟩ := P
 refine ⟨p1, p2, p3, p4, p5, by simpa using p6, p7, p8, ?_, ?_⟩
 ·intro n a b
  have := p9 n a b
  simpa [ndOf] using this
 ·intro i a b
  have b' : i < (Q6r : Int) := by simpa using b
  show VrP _ _ _ ((A.vers.set k.toNat v).getD i.toNat _)
  rw [qz6n h0 h1 a]
  split
  ·rename_i e
   subst e
   exact hv
  ·exact p10 i a b'
theorem ArP.swap {x y z u : Int} {A : Ar} (P : ArP x y z u A) {node next : Int} {gone : Bool} {kind : Int} (h0 : 0 <= node) (h1 : node < (Q6q : Int)) (hz : (Q6r : Int) < z) (hn : next = -1 ∨ (1 <= next /\ next < (Q6q : Int))) (hk : 0 <= kind /\ kind <= 2) : ArP x y z u { A with vers := A.vers ++ [⟨next, gone, -1, (ndOf A node).head, kind⟩], nodes := A.nodes.set node.toNat { ndOf A node with head := (Q6r : Int) } } := by
 obtain ⟨p1, p2, p3, p4, p5, p6, p7, p8, p9, p10⟩ := P
 refine ⟨p1, p2, p3, p4, by simpa using p5, by simp; omega, p7, by simpa using p8, ?_, ?_⟩
 ·intro n a b
  have b' : n < (Q6q : Int) := by simpa using b
  show NdP _ _ ((A.nodes.set node.toNat _).getD n.toNat _)
  rw [qz6n h0 h1 a]
  have q := p9 n a b'
  split
  ·rename_i e
   subst e
   obtain ⟨q1, q2, q3, q4⟩ := q
   exact ⟨q1, q2, q3, by simp; omega⟩
  ·exact q.mono (by simp <;> omega)
 ·intro i a b
  have b' : i < (Q6r : Int) + 1 := by simpa using b
  show VrP _ _ _ ((A.vers ++ [_]).getD i.toNat _)
  have q := (p9 node h0 h1).hd
  by_cases e : i = (Q6r : Int)
  ·rw [qz4k e]
   subst e
   exact ⟨by simpa using hn, by simp; omega, by simp; omega, hk⟩
  ·rw [qz5z a (by omega)]
   exact (p10 i a (by omega)).mono (by simp <;> omega) (Int.le_refl _)
theorem ArP.make {x y z u : Int} {A : Ar} (P : ArP x y z u A) {next key value : Int} (hy : (Q6q : Int) < y) (hz : (Q6r : Int) < z) (hn : next = -1 ∨ (1 <= next /\ next < (Q6q : Int))) (hk : 0 <= key /\ key <= 63) (hv : 0 <= value /\ value <= 9999) : ArP x y z u { A with vers := A.vers ++ [⟨next, false, 0, -1, 0⟩], nodes := A.nodes ++ [⟨key, value, (Q6r : Int)⟩] } := by
 obtain ⟨p1, p2, p3, p4, p5, p6, p7, p8, p9, p10⟩ := P
 refine ⟨p1, p2, p3, p4, by simp; omega, by simp; omega, p7, fun g hg => by have := p8 g hg; simp; omega, ?_, ?_⟩
 ·intro n a b
  have b' : n < (Q6q : Int) + 1 := by simpa using b
  show NdP _ _ ((A.nodes ++ [_]).getD n.toNat _)
  by_cases e : n = (Q6q : Int)
  ·rw [qz4k e]
   exact ⟨fun h => by omega, fun _ => hk, hv, by simp; omega⟩
  ·rw [qz5z a (by omega)]
   exact (p9 n a (by omega)).mono (by simp <;> omega)
 ·intro i a b
  have b' : i < (Q6r : Int) + 1 := by simpa using b
  show VrP _ _ _ ((A.vers ++ [_]).getD i.toNat _)
  by_cases e : i = (Q6r : Int)
  ·rw [qz4k e]
   exact ⟨by simp; omega, by simp; omega, by simp; omega, by simp⟩
  ·rw [qz5z a (by omega)]
   exact (p10 i a (by omega)).mono (by simp <;> omega) (Int.le_refl _)
theorem ArP.setG {x y z u : Int} {A : Ar} (P : ArP x y z u A) {k : Nat} {v : Int} (hv : 0 <= v /\ v < (Q6q : Int)) : ArP x y z u { A with guides := A.guides.set k v } := by
 obtain ⟨p1, p2, p3, p4, p5, p6, p7, p8, p9, p10⟩ := P
 refine ⟨p1, p2, p3, by simpa using p4, p5, p6, p7, fun g hg => ?_, p9, p10⟩
 rcases qz6p hg with rfl | h
 ·exact hv
 ·exact p8 g h
theorem ArP.setS {x y z u : Int} {A : Ar} (P : ArP x y z u A) {k : Nat} {v : Int} (hv : -1 <= v /\ v <= 100) : ArP x y z u { A with slots := A.slots.set k v } := by
 obtain ⟨p1, p2, p3, p4, p5, p6, p7, p8, p9, p10⟩ := P
 refine ⟨p1, p2, by simpa using p3, p4, p5, p6, fun g hg => ?_, p8, p9, p10⟩
 rcases qz6p hg with rfl | h
 ·exact hv
 ·exact p7 g h
theorem ArP.tick {x y z u : Int} {A : Ar} (P : ArP x y z u A) (h : Q6w < 100) : ArP x y z u { A with camera := Q6w + 1 } := by
 obtain ⟨p1, p2, p3, p4, p5, p6, p7, p8, p9, p10⟩ := P
 refine ⟨p1, by simp; omega, p3, p4, p5, p6, p7, p8, p9, fun i a b => ?_⟩
 exact (p10 i a b).mono (Int.le_refl _) (by simp; omega)
structure HP (A : Ar) (h : Hd) : Prop where
 f0 : 0 <= h.at_ /\ h.at_ <= 23
 f1 : 0 <= h.then_ /\ h.then_ <= 7
 f2 : 0 <= h.code /\ h.code <= 8
 f3 : 0 <= h.reply /\ h.reply <= 7
 f4 : -1 <= h.key /\ h.key <= 63
 f5 : 0 <= h.value /\ h.value <= 9999
 f6 : 0 <= h.begin /\ h.begin <= 20000
 f7 : 0 <= h.camAt /\ h.camAt <= 20000
 f8 : 0 <= h.round /\ h.round <= 20000
 f9 : 0 <= h.out /\ h.out <= 1000000
 f10 : 0 <= h.sum /\ h.sum <= 1000000
 f11 : -1 <= h.held /\ h.held <= 100
 f12 : 0 <= h.cam /\ h.cam <= 100
 f13 : 0 <= h.least /\ h.least <= 100
 f14 : 0 <= h.index /\ h.index <= 60
 k0 : 0 <= h.x_ /\ h.x_ < (Q6q : Int)
 k1 : 0 <= h.pred /\ h.pred < (Q6q : Int)
 k2 : -1 <= h.curr /\ h.curr < (Q6q : Int)
 k3 : -1 <= h.new_ /\ h.new_ < (Q6q : Int)
 k4 : 0 <= h.ver /\ h.ver < (Q6r : Int)
 k5 : 0 <= h.predVer /\ h.predVer < (Q6r : Int)
 k6 : 0 <= h.currVer /\ h.currVer < (Q6r : Int)
 call : h.at_ ≠ 0 -> qz47 h.code h.key h.value = true
 del : 3 <= h.at_ -> h.at_ <= 5 -> (vrOf A h.ver).kind = 2 -> h.x_ ≠ 0
 new0 : h.new_ ≠ 0
 lnk : h.at_ = 8 ∨ h.at_ = 9 -> 1 <= h.new_
 mark : h.at_ = 11 -> 1 <= h.curr
 unl : h.at_ = 6 -> h.then_ = 2
structure AX (A : Ar) : Prop where
 put : ∀ v : Int, 0 <= v -> v < (Q6r : Int) -> (vrOf A v).kind = 1 -> 1 <= (vrOf A v).next
 head : (vrOf A (ndOf A 0).head).kind ≠ 2
def Priv (h : Hd) : Prop := 1 <= h.new_ /\ ¬ (h.then_ = 4 /\ 3 <= h.at_ /\ h.at_ <= 5) /\ h.at_ ≠ 10
structure qzas (A : Ar) (n : Int) : Prop where
 vers : ∀ v : Int, 0 <= v -> v < (Q6r : Int) -> (vrOf A v).next ≠ n
 guides : ∀ g ∈ A.guides, g ≠ n
 kind : (vrOf A (ndOf A n).head).kind ≠ 1
structure Far (h : Hd) (n : Int) : Prop where
 pred : h.pred ≠ n
 curr : h.curr ≠ n
 x : h.x_ = n -> h.then_ = 7
theorem HP.hand {x y z u : Int} {A : Ar} {h : Hd} (P : ArP x y z u A) (H : HP A h) : qz4a x y z u h = true := by
 obtain ⟨f0, f1, f2, f3, f4, f5, f6, f7, f8, f9, f10, f11, f12, f13, f14, k0, k1, k2, k3, k4, k5, k6, _, _, _, _, _, _⟩ := H
 have := P.nl
 have := P.vl
 simp only [qz4a, qz4m, qz4p, Bool.and_eq_true, qz13]
 exact ⟨⟨P.pl, by omega⟩, by omega⟩
theorem HP.knows {x y z u : Int} {A : Ar} {h : Hd} (P : ArP x y z u A) (H : HP A h) : qz2k A h = true := by
 obtain ⟨f0, f1, f2, f3, f4, f5, f6, f7, f8, f9, f10, f11, f12, f13, f14, k0, k1, k2, k3, k4, k5, k6, _, _, _, _, _, _⟩ := H
 simp only [qz2k, qz53, qz7o, Bool.and_eq_true, Bool.or_eq_true, qz13, beq_iff_eq]
 omega
theorem HP.stay {A A' : Ar} {h : Hd} (H : HP A h) (hn : Q6q <= A'.nodes.length) (hv : Q6r <= A'.vers.length) (hk : ∀ v : Int, 0 <= v -> v < (Q6r : Int) -> (vrOf A' v).kind = (vrOf A v).kind) : HP A' h := by
 obtain ⟨f0, f1, f2, f3, f4, f5, f6, f7, f8, f9, f10, f11, f12, f13, f14, k0, k1, k2, k3, k4, k5, k6, c, d, n0, l, m, t⟩ := H
 refine ⟨f0, f1, f2, f3, f4, f5, f6, f7, f8, f9, f10, f11, f12, f13, f14, by omega, by omega, by omega, by omega, by omega, by omega, by omega, c, fun a b e => ?_, n0, l, m, t⟩
 rw [hk _ k4.1 k4.2] at e
 exact d a b e
theorem HP.rest {A : Ar} {h : Hd} (hn : 1 <= (Q6q : Int)) (hv : 1 <= (Q6r : Int)) {rp ot sm : Int} (h1 : 0 <= rp /\ rp <= 7) (h2 : 0 <= ot /\ ot <= 1000000) (h3 : 0 <= sm /\ sm <= 1000000) (h4 : -1 <= h.held /\ h.held <= 100) : HP A (qz9 h rp ot sm) := by
 constructor <;> simp only [qz9] <;> first | omega | (intro hh; exact absurd rfl hh)
theorem Far.rest {h : Hd} {n rp ot sm : Int} (hn : 1 <= n) : Far (qz9 h rp ot sm) n := ⟨by simp only [qz9]; omega, by simp only [qz9]; omega, by simp only [qz9]; omega⟩
section
variable {x y z u : Int} {A : Ar} {h : Hd} (P : ArP x y z u A)
include P
theorem qzh1 {n : Int} (h0 : 0 <= n) (h1 : n < (Q6q : Int)) : 0 <= (ndOf A n).value /\ (ndOf A n).value <= 1000000 := by
 have := (P.node n h0 h1).v1
 omega
theorem qzdv (H : HP A h) (ha : h.at_ ≠ 0) : HP A (qz2e A h) := by
 have hc := H.call ha
 have hn := P.nl.1
 have hv := P.vl.1
 have hval : 0 <= h.curr -> 0 <= (ndOf A h.curr).value /\ (ndOf A h.curr).value <= 1000000 := fun h0 => qzh1 P h0 H.k2.2
 have hkey : h.code = 2 -> 0 <= h.key := fun e => by
  rw [e] at hc
  simp [qz47, inB] at hc
  omega
 have hk0 : h.curr = 0 -> (ndOf A h.curr).key = -1 := fun e => ((P.node h.curr (by omega) H.k2.2).k0 e).1
 have held := H.f11
 unfold qz2e
 split
 ·split
  ·rename_i e
   exact HP.rest hn hv (by omega) (hval e.1) (by omega) held
  ·exact HP.rest hn hv (by omega) (by omega) (by omega) held
 ·split
  ·split
   ·rename_i e
    exact HP.rest hn hv (by omega) (hval e.1) (by omega) held
   ·obtain ⟨f0, f1, f2, f3, f4, f5, f6, f7, f8, f9, f10, f11, f12, f13, f14, k0, k1, k2, k3, k4, k5, k6, c, d, n0, l, m, t⟩ := H
    constructor <;> dsimp only <;> first | assumption | (split <;> omega) | (intro _; exact hc)
  ·split
   ·split
    ·rename_i e
     have := hkey (by assumption)
     obtain ⟨f0, f1, f2, f3, f4, f5, f6, f7, f8, f9, f10, f11, f12, f13, f14, k0, k1, k2, k3, k4, k5, k6, c, d, n0, l, m, t⟩ := H
     constructor <;> dsimp only <;> first | assumption | omega | (intro _; exact hc)
    ·exact HP.rest hn hv (by omega) (by omega) (by omega) held
   ·obtain ⟨f0, f1, f2, f3, f4, f5, f6, f7, f8, f9, f10, f11, f12, f13, f14, k0, k1, k2, k3, k4, k5, k6, c, d, n0, l, m, t⟩ := H
    constructor <;> dsimp only <;> first | assumption | omega | (intro _; exact hc)
end
section
variable {x y z u : Int} {A : Ar} {h : Hd} (P : ArP x y z u A)
include P
theorem qzdl (H : HP A h) (ha : 3 <= h.at_ /\ h.at_ <= 5) {n : Int} (hn : n = -1 ∨ (1 <= n /\ n < (Q6q : Int))) : HP A (qz5j A h n) := by
 have hc := H.call (by omega)
 unfold qz5j
 split
 ·refine qzdv P ?_ (by dsimp only; omega)
  obtain ⟨f0, f1, f2, f3, f4, f5, f6, f7, f8, f9, f10, f11, f12, f13, f14, k0, k1, k2, k3, k4, k5, k6, c, d, n0, l, m, t⟩ := H
  constructor <;> dsimp only <;> first | assumption | omega
 ·obtain ⟨f0, f1, f2, f3, f4, f5, f6, f7, f8, f9, f10, f11, f12, f13, f14, k0, k1, k2, k3, k4, k5, k6, c, d, n0, l, m, t⟩ := H
  constructor <;> dsimp only <;> first | assumption | omega | (intro _; exact hc)
theorem qzdb (H : HP A h) (ha : h.at_ ≠ 0) : HP A (qz4q A h) := by
 have hc := H.call ha
 unfold qz4q
 split
 ·obtain ⟨f0, f1, f2, f3, f4, f5, f6, f7, f8, f9, f10, f11, f12, f13, f14, k0, k1, k2, k3, k4, k5, k6, c, d, n0, l, m, t⟩ := H
  constructor <;> dsimp only <;> first | assumption | omega | (intro _; exact hc)
 ·exact HP.rest P.nl.1 P.vl.1 (by omega) H.f9 (by omega) H.f11
theorem qzgo (H : HP A h) (ha : h.at_ ≠ 0) : HP A (useH A h) := by
 have hc := H.call ha
 have hval := qzh1 P H.k0.1 H.k0.2
 have hnx := (P.ver h.ver H.k4.1 H.k4.2).nx
 have hcnt : 0 <= (if qz4w A h then qz68 A h else h).out /\ (if qz4w A h then qz68 A h else h).out <= 1000000 /\ 0 <= (if qz4w A h then qz68 A h else h).sum /\ (if qz4w A h then qz68 A h else h).sum <= 1000000 := by
  have := H.f9
  have := H.f10
  split
  ·simp only [qz68]; omega
  ·omega
 unfold useH
 split
 ·obtain ⟨f0, f1, f2, f3, f4, f5, f6, f7, f8, f9, f10, f11, f12, f13, f14, k0, k1, k2, k3, k4, k5, k6, c, d, n0, l, m, t⟩ := H
  constructor <;> dsimp only <;> first | assumption | omega
 ·split
  ·split
   ·exact HP.rest P.nl.1 P.vl.1 (by omega) (by omega) (by omega) H.f11
   ·exact HP.rest P.nl.1 P.vl.1 (by omega) hval (by omega) H.f11
  ·split
   ·split
    ·exact HP.rest P.nl.1 P.vl.1 (by omega) (by omega) (by omega) H.f11
    ·exact HP.rest P.nl.1 P.vl.1 (by omega) ⟨hcnt.1, hcnt.2.1⟩ hcnt.2.2 H.f11
   ·rename_i hl
    have hnx0 : 1 <= (vrOf A h.ver).next /\ (vrOf A h.ver).next < (Q6q : Int) := by
     simp only [qz66, Bool.or_eq_true, decide_eq_true_eq, not_or] at hl
     omega
    obtain ⟨f0, f1, f2, f3, f4, f5, f6, f7, f8, f9, f10, f11, f12, f13, f14, k0, k1, k2, k3, k4, k5, k6, c, d, n0, l, m, t⟩ := H
    split
    ·simp only [qz68]
     constructor <;> dsimp only <;> first | assumption | omega | (intro _; exact hc)
    ·constructor <;> dsimp only <;> first | assumption | omega | (intro _; exact hc)
theorem qzi1 (H : HP A h) (ha : 3 <= h.at_ /\ h.at_ <= 5) : HP A (onH A h) := by
 have hc := H.call (by omega)
 have hnx := (P.ver h.ver H.k4.1 H.k4.2).nx
 have H' := H
 obtain ⟨f0, f1, f2, f3, f4, f5, f6, f7, f8, f9, f10, f11, f12, f13, f14, k0, k1, k2, k3, k4, k5, k6, c, d, n0, l, m, t⟩ := H'
 unfold onH
 split
 ·split
  ·constructor <;> dsimp only <;> first | assumption | omega | (intro _; exact hc)
  ·refine qzdl P ?_ (by exact ha) hnx
   constructor <;> dsimp only <;> first | assumption | omega
 split
 ·split
  ·constructor <;> dsimp only <;> first | assumption | omega | (intro _; exact hc)
  ·split
   ·refine qzdv P ?_ (by dsimp only; omega)
    constructor <;> dsimp only <;> first | assumption | omega
   ·refine qzdl P ?_ (by exact ha) hnx
    constructor <;> dsimp only <;> first | assumption | omega
 split
 ·refine qzdl P ?_ (by exact ha) hnx
  constructor <;> dsimp only <;> first | assumption | omega
 split
 ·constructor <;> dsimp only <;> first | assumption | omega | (intro _; exact hc)
 split
 ·constructor <;> dsimp only <;> first | assumption | omega | (intro _; exact hc)
 split
 ·split
  ·exact qzgo P H (by omega)
  ·constructor <;> dsimp only <;> first | assumption | omega | (intro _; exact hc)
 split
 ·constructor <;> dsimp only <;> first | assumption | (split <;> omega) | (intro _; exact hc)
 ·constructor <;> dsimp only <;> first | assumption | omega
end
section
variable {A : Ar} {h : Hd} {n : Int}
theorem qzba (F : Far h n) (h1 : 1 <= n) : Far (qz2e A h) n := by
 unfold qz2e
 repeat' split
 all_goals first | exact Far.rest h1 | exact ⟨F.pred, F.curr, F.x⟩
theorem qzak (F : Far h n) (h1 : 1 <= n) {m : Int} (hm : m ≠ n) : Far (qz5j A h m) n := by
 unfold qz5j
 split
 ·exact qzba ⟨F.pred, hm, F.x⟩ h1
 ·exact ⟨F.pred, hm, fun e => absurd e hm⟩
theorem qzam (F : Far h n) (h1 : 1 <= n) : Far (qz4q A h) n := by
 unfold qz4q
 split
 ·exact ⟨F.pred, F.curr, fun _ => rfl⟩
 ·exact Far.rest h1
theorem qzfh (F : Far h n) (h1 : 1 <= n) (hv : (vrOf A h.ver).next ≠ n) : Far (useH A h) n := by
 unfold useH
 split
 ·exact ⟨F.pred, F.curr, F.x⟩
 ·split
  ·split <;> exact Far.rest h1
  ·split
   ·split <;> exact Far.rest h1
   ·split
    ·exact ⟨F.pred, F.curr, fun e => absurd e hv⟩
    ·exact ⟨F.pred, F.curr, fun e => absurd e hv⟩
theorem qzg3 (F : Far h n) (h1 : 1 <= n) (hv : (vrOf A h.ver).next ≠ n) : Far (onH A h) n := by
 have ex := F.x
 have ep := F.pred
 have ec := F.curr
 unfold onH
 split
 ·split
  ·exact ⟨F.pred, F.curr, fun e => by dsimp only at e; omega⟩
  ·refine qzak ?_ h1 hv
   exact ⟨by show _ ≠ n; dsimp only; omega, F.curr, F.x⟩
 split
 ·split
  ·exact ⟨F.pred, F.curr, F.x⟩
  ·split
   ·exact qzba ⟨F.pred, F.curr, F.x⟩ h1
   ·refine qzak ?_ h1 hv
    exact ⟨by show _ ≠ n; dsimp only; omega, F.curr, F.x⟩
 split
 ·refine qzak ?_ h1 hv
  exact ⟨F.pred, F.curr, F.x⟩
 split
 ·exact ⟨F.pred, F.curr, F.x⟩
 split
 ·exact ⟨F.pred, F.curr, F.x⟩
 split
 ·split
  ·exact qzfh F h1 hv
  ·exact ⟨F.pred, F.curr, F.x⟩
 split
 ·exact ⟨F.pred, F.curr, F.x⟩
 ·exact ⟨F.pred, F.curr, F.x⟩
def NewS (h h' : Hd) : Prop := h'.new_ = h.new_ ∨ h'.new_ = -1
theorem qzbf : NewS h (qz2e A h) := by
 unfold qz2e
 repeat' split
 all_goals first | exact Or.inl rfl | exact Or.inr rfl
theorem qzaw {m : Int} : NewS h (qz5j A h m) := by
 unfold qz5j
 split
 ·exact qzbf (h := { h with curr := m })
 ·exact Or.inl rfl
theorem qz62 : NewS h (qz4q A h) := by
 unfold qz4q
 repeat' split
 all_goals first | exact Or.inl rfl | exact Or.inr rfl
theorem qzd9 : NewS h (useH A h) := by
 unfold useH
 repeat' split
 all_goals first | exact Or.inl rfl | exact Or.inr rfl
theorem qzc3 : NewS h (onH A h) := by
 unfold onH
 repeat' split
 all_goals first | exact Or.inl rfl | exact Or.inr rfl | exact qzd9 | exact qzbf (h := { h with currVer := h.ver }) | exact qzaw (h := { h with pred := h.x_, predVer := h.ver }) | exact qzaw (h := { h with predVer := h.ver }) | exact qzaw (h := { h with currVer := h.ver, pred := max h.curr 0, predVer := h.ver })
theorem qz8u (e : h.then_ = 4) : (onH A h).at_ = 10 := by
 unfold onH
 rw [if_neg (by omega), if_neg (by omega), if_neg (by omega), if_pos e]
end
end
end Go.Proofs.YthjkdnlmopafkaaGreatDoor
