/-
  What the law's proof goes by, part 27.
-/
import Derived.Test.YthjkdnlmopafkaaFnRest00
import Derived.Test.YthjkdnlmopafkaaFnRest24
namespace Go.Proofs.Ythjkdnlmopafkaa
open Go.ChangeShapes Go.WideShapes Go.ChangeAt Go.RowKit
set_option maxRecDepth 100000
set_option maxHeartbeats 16000000
set_option linter.unusedVariables false
set_option linter.unusedSimpArgs false
set_option linter.unnecessarySimpa false
set_option linter.unusedSectionVars false
section
structure NdP (nv n : Int) (x : Nd) : Prop where
 k0 : n = 0 -> x.key = -1 /\ x.value = 0
 k1 : n ≠ 0 -> 0 <= x.key /\ x.key <= 63
 v1 : 0 <= x.value /\ x.value <= 9999
 hd : 0 <= x.head /\ x.head < nv
structure VrP (nn cam i : Int) (v : Vr) : Prop where
 nx : v.next = -1 ∨ (1 <= v.next /\ v.next < nn)
 st : -1 <= v.stamp /\ v.stamp <= cam
 pv : -1 <= v.prev /\ v.prev < i
 kd : 0 <= v.kind /\ v.kind <= 2
structure ArP (x y z u : Int) (A : Ar) : Prop where
 pl : qz3j x y z u = true
 cam : 0 <= A.camera /\ A.camera <= 100
 sl : (A.slots.length : Int) = x
 gl : (A.guides.length : Int) = u
 nl : 1 <= (A.nodes.length : Int) /\ (A.nodes.length : Int) <= y
 vl : 1 <= (A.vers.length : Int) /\ (A.vers.length : Int) <= z
 slot : ∀ s ∈ A.slots, -1 <= s /\ s <= 100
 guide : ∀ g ∈ A.guides, 0 <= g /\ g < (A.nodes.length : Int)
 node : ∀ n : Int, 0 <= n -> n < (A.nodes.length : Int) -> NdP A.vers.length n (ndOf A n)
 ver : ∀ v : Int, 0 <= v -> v < (A.vers.length : Int) -> VrP A.nodes.length A.camera v (vrOf A v)
theorem qz6l {α : Type} {l : List α} {d : α} {i : Nat} (h : i < l.length) : l.getD i d = l[i] := by simp [List.getD_eq_getElem?_getD, h]
theorem qz4d {l : List Int} {P : Int -> Prop} : (∀ s ∈ l, P s) ↔ ∀ i (h : i < l.length), P l[i] := by
 constructor
 ·intro h i hi
  exact h _ (List.getElem_mem hi)
 ·intro h s hs
  obtain ⟨i, hi, rfl⟩ := List.getElem_of_mem hs
  exact h i hi
theorem qz8z (x y z u : Int) (A : Ar) : qz1i x y z u A = true ↔ ArP x y z u A := by
 simp only [qz1i, qz7o, Bool.and_eq_true, qz2h, qz1f, beq_iff_eq]
 constructor
 ·rintro ⟨⟨⟨⟨⟨⟨⟨⟨⟨h1, h2⟩, h3⟩, h4⟩, h5⟩, h6⟩, h7⟩, h8⟩, h9⟩, h10⟩
  refine ⟨h1, h2, h3, h4, h5, h6, qz4d.2 h7, qz4d.2 fun i hi => by have := h8 i hi; omega, fun n a b => ?_, fun v a b => ?_⟩
  ·have := h9 n.toNat (by omega)
   rw [ndOf, qz6l (by omega)]
   generalize A.nodes[n.toNat]'(by omega) = q at *
   unfold qz5e at this
   split at this
   ·simp only [Bool.and_eq_true, qz1f, beq_iff_eq] at this
    constructor <;> omega
   ·simp only [Bool.and_eq_true, qz1f] at this
    constructor <;> omega
  ·have := h10 v.toNat (by omega)
   rw [vrOf, qz6l (by omega)]
   generalize A.vers[v.toNat]'(by omega) = q at *
   simp only [verB, Bool.and_eq_true, Bool.or_eq_true, qz1f, beq_iff_eq] at this
   constructor <;> omega
 ·rintro ⟨h1, h2, h3, h4, h5, h6, h7, h8, h9, h10⟩
  refine ⟨⟨⟨⟨⟨⟨⟨⟨⟨h1, h2⟩, h3⟩, h4⟩, h5⟩, h6⟩, qz4d.1 h7⟩, fun i hi => by have := qz4d.1 h8 i hi; omega⟩, fun i hi => ?_⟩, fun i hi => ?_⟩
  ·have := h9 i (by omega) (by omega)
   rw [ndOf, qz6l (by simpa using hi)] at this
   simp only [Int.toNat_natCast] at this
   generalize A.nodes[i] = q at *
   obtain ⟨k0, k1, v1, hd⟩ := this
   unfold qz5e
   split
   ·simp only [Bool.and_eq_true, qz1f, beq_iff_eq]
    omega
   ·simp only [Bool.and_eq_true, qz1f]
    omega
  ·have := h10 i (by omega) (by omega)
   rw [vrOf, qz6l (by simpa using hi)] at this
   simp only [Int.toNat_natCast] at this
   generalize A.vers[i] = q at *
   obtain ⟨k0, k1, v1, hd⟩ := this
   simp only [verB, Bool.and_eq_true, Bool.or_eq_true, qz1f, beq_iff_eq]
   omega
theorem qz5n {α : Type} {l : List α} {d v : α} {k i : Int} (hk : 0 <= k) (hkl : k < (l.length : Int)) (hi : 0 <= i) : (l.set k.toNat v).getD i.toNat d = if i = k then v else l.getD i.toNat d := by
 simp only [List.getD_eq_getElem?_getD, List.getElem?_set]
 by_cases e : i = k
 ·subst e
  rw [if_pos rfl, if_pos (by omega), if_pos rfl]
  rfl
 ·rw [if_neg (by omega), if_neg e]
theorem qz55 {α : Type} {l : List α} {d v : α} {i : Int} (hi : 0 <= i) (hl : i < (l.length : Int)) : (l ++ [v]).getD i.toNat d = l.getD i.toNat d := by
 simp only [List.getD_eq_getElem?_getD]
 rw [List.getElem?_append_left (by omega)]
theorem qz44 {α : Type} {l : List α} {d v : α} {i : Int} (hl : i = (l.length : Int)) : (l ++ [v]).getD i.toNat d = v := by
 subst hl
 simp
theorem qz5t {l : List Int} {k : Nat} {v s : Int} (h : s ∈ l.set k v) : s = v ∨ s ∈ l := by
 rcases List.mem_or_eq_of_mem_set h with h | h
 ·exact Or.inr h
 ·exact Or.inl h
theorem qzar {l : List Int} {k : Nat} {d : Int} (h : k < l.length) : l.getD k d ∈ l := by
 rw [qz6l h]
 exact List.getElem_mem h
theorem NdP.mono {nv nv' n : Int} {x : Nd} (h : NdP nv n x) (hn : nv <= nv') : NdP nv' n x := ⟨h.k0, h.k1, h.v1, h.hd.1, by have := h.hd.2; omega⟩
theorem VrP.mono {nn nn' cam cam' i : Int} {v : Vr} (h : VrP nn cam i v) (hn : nn <= nn') (hc : cam <= cam') : VrP nn' cam' i v := ⟨by have := h.nx; omega, by have := h.st; omega, h.pv, h.kd⟩
theorem ArP.setV {x y z u : Int} {A : Ar} (P : ArP x y z u A) {k : Int} {v : Vr} (h0 : 0 <= k) (h1 : k < (A.vers.length : Int)) (hv : VrP A.nodes.length A.camera k v) : ArP x y z u { A with vers := A.vers.set k.toNat v } := by
 obtain ⟨p1, p2, p3, p4, p5, p6, p7, p8, p9, p10⟩ := P
 refine ⟨p1, p2, p3, p4, p5, by simpa using p6, p7, p8, ?_, ?_⟩
 ·intro n a b
  have := p9 n a b
  simpa [ndOf] using this
 ·intro i a b
  have b' : i < (A.vers.length : Int) := by simpa using b
  show VrP _ _ _ ((A.vers.set k.toNat v).getD i.toNat _)
  rw [qz5n h0 h1 a]
  split
  ·rename_i e
   subst e
   exact hv
  ·exact p10 i a b'
theorem ArP.swap {x y z u : Int} {A : Ar} (P : ArP x y z u A) {node next : Int} {gone : Bool} {kind : Int} (h0 : 0 <= node) (h1 : node < (A.nodes.length : Int)) (hz : (A.vers.length : Int) < z) (hn : next = -1 ∨ (1 <= next /\ next < (A.nodes.length : Int))) (hk : 0 <= kind /\ kind <= 2) : ArP x y z u { A with vers := A.vers ++ [⟨next, gone, -1, (ndOf A node).head, kind⟩], nodes := A.nodes.set node.toNat { ndOf A node with head := (A.vers.length : Int) } } := by
 obtain ⟨p1, p2, p3, p4, p5, p6, p7, p8, p9, p10⟩ := P
 refine ⟨p1, p2, p3, p4, by simpa using p5, by simp; omega, p7, by simpa using p8, ?_, ?_⟩
 ·intro n a b
  have b' : n < (A.nodes.length : Int) := by simpa using b
  show NdP _ _ ((A.nodes.set node.toNat _).getD n.toNat _)
  rw [qz5n h0 h1 a]
  have q := p9 n a b'
  split
  ·rename_i e
   subst e
   obtain ⟨q1, q2, q3, q4⟩ := q
   exact ⟨q1, q2, q3, by simp; omega⟩
  ·exact q.mono (by simp <;> omega)
 ·intro i a b
  have b' : i < (A.vers.length : Int) + 1 := by simpa using b
  show VrP _ _ _ ((A.vers ++ [_]).getD i.toNat _)
  have q := (p9 node h0 h1).hd
  by_cases e : i = (A.vers.length : Int)
  ·rw [qz44 e]
   subst e
   exact ⟨by simpa using hn, by simp; omega, by simp; omega, hk⟩
  ·rw [qz55 a (by omega)]
   exact (p10 i a (by omega)).mono (by simp <;> omega) (Int.le_refl _)
theorem ArP.make {x y z u : Int} {A : Ar} (P : ArP x y z u A) {next key value : Int} (hy : (A.nodes.length : Int) < y) (hz : (A.vers.length : Int) < z) (hn : next = -1 ∨ (1 <= next /\ next < (A.nodes.length : Int))) (hk : 0 <= key /\ key <= 63) (hv : 0 <= value /\ value <= 9999) : ArP x y z u { A with vers := A.vers ++ [⟨next, false, 0, -1, 0⟩], nodes := A.nodes ++ [⟨key, value, (A.vers.length : Int)⟩] } := by
 obtain ⟨p1, p2, p3, p4, p5, p6, p7, p8, p9, p10⟩ := P
 refine ⟨p1, p2, p3, p4, by simp; omega, by simp; omega, p7, fun g hg => by have := p8 g hg; simp; omega, ?_, ?_⟩
 ·intro n a b
  have b' : n < (A.nodes.length : Int) + 1 := by simpa using b
  show NdP _ _ ((A.nodes ++ [_]).getD n.toNat _)
  by_cases e : n = (A.nodes.length : Int)
  ·rw [qz44 e]
   exact ⟨fun h => by omega, fun _ => hk, hv, by simp; omega⟩
  ·rw [qz55 a (by omega)]
   exact (p9 n a (by omega)).mono (by simp <;> omega)
 ·intro i a b
  have b' : i < (A.vers.length : Int) + 1 := by simpa using b
  show VrP _ _ _ ((A.vers ++ [_]).getD i.toNat _)
  by_cases e : i = (A.vers.length : Int)
  ·rw [qz44 e]
   exact ⟨by simp; omega, by simp; omega, by simp; omega, by simp⟩
  ·rw [qz55 a (by omega)]
   exact (p10 i a (by omega)).mono (by simp <;> omega) (Int.le_refl _)
theorem ArP.setG {x y z u : Int} {A : Ar} (P : ArP x y z u A) {k : Nat} {v : Int} (hv : 0 <= v /\ v < (A.nodes.length : Int)) : ArP x y z u { A with guides := A.guides.set k v } := by
 obtain ⟨p1, p2, p3, p4, p5, p6, p7, p8, p9, p10⟩ := P
 refine ⟨p1, p2, p3, by simpa using p4, p5, p6, p7, fun g hg => ?_, p9, p10⟩
 rcases qz5t hg with rfl | h
 ·exact hv
 ·exact p8 g h
theorem ArP.setS {x y z u : Int} {A : Ar} (P : ArP x y z u A) {k : Nat} {v : Int} (hv : -1 <= v /\ v <= 100) : ArP x y z u { A with slots := A.slots.set k v } := by
 obtain ⟨p1, p2, p3, p4, p5, p6, p7, p8, p9, p10⟩ := P
 refine ⟨p1, p2, by simpa using p3, p4, p5, p6, fun g hg => ?_, p8, p9, p10⟩
 rcases qz5t hg with rfl | h
 ·exact hv
 ·exact p7 g h
theorem ArP.tick {x y z u : Int} {A : Ar} (P : ArP x y z u A) (h : A.camera < 100) : ArP x y z u { A with camera := A.camera + 1 } := by
 obtain ⟨p1, p2, p3, p4, p5, p6, p7, p8, p9, p10⟩ := P
 refine ⟨p1, by simp; omega, p3, p4, p5, p6, p7, p8, p9, fun i a b => ?_⟩
 exact (p10 i a b).mono (Int.le_refl _) (by simp; omega)
structure HP (A : Ar) (h : Hd) : Prop where
 f0 : 0 <= h.at_ /\ h.at_ <= 23
 f1 : 0 <= h.then_ /\ h.then_ <= 7
 f2 : 0 <= h.code /\ h.code <= 8
 f3 : 0 <= h.reply /\ h.reply <= 7
 f4 : -1 <= h.key /\ h.key <= 63
 f5 : 0 <= h.value /\ h.value <= 9999
 f6 : 0 <= h.begin /\ h.begin <= 20000
 f7 : 0 <= h.camAt /\ h.camAt <= 20000
 f8 : 0 <= h.round /\ h.round <= 20000
 f9 : 0 <= h.out /\ h.out <= 1000000
 f10 : 0 <= h.sum /\ h.sum <= 1000000
 f11 : -1 <= h.held /\ h.held <= 100
 f12 : 0 <= h.cam /\ h.cam <= 100
 f13 : 0 <= h.least /\ h.least <= 100
 f14 : 0 <= h.index /\ h.index <= 60
 k0 : 0 <= h.x_ /\ h.x_ < (A.nodes.length : Int)
 k1 : 0 <= h.pred /\ h.pred < (A.nodes.length : Int)
 k2 : -1 <= h.curr /\ h.curr < (A.nodes.length : Int)
 k3 : -1 <= h.new_ /\ h.new_ < (A.nodes.length : Int)
 k4 : 0 <= h.ver /\ h.ver < (A.vers.length : Int)
 k5 : 0 <= h.predVer /\ h.predVer < (A.vers.length : Int)
 k6 : 0 <= h.currVer /\ h.currVer < (A.vers.length : Int)
 call : h.at_ ≠ 0 -> qz3q h.code h.key h.value = true
 del : 3 <= h.at_ -> h.at_ <= 5 -> (vrOf A h.ver).kind = 2 -> h.x_ ≠ 0
 new0 : h.new_ ≠ 0
 lnk : h.at_ = 8 ∨ h.at_ = 9 -> 1 <= h.new_
 mark : h.at_ = 11 -> 1 <= h.curr
 unl : h.at_ = 6 -> h.then_ = 2
structure AX (A : Ar) : Prop where
 put : ∀ v : Int, 0 <= v -> v < (A.vers.length : Int) -> (vrOf A v).kind = 1 -> 1 <= (vrOf A v).next
 head : (vrOf A (ndOf A 0).head).kind ≠ 2
def Priv (h : Hd) : Prop := 1 <= h.new_ /\ ¬ (h.then_ = 4 /\ 3 <= h.at_ /\ h.at_ <= 5) /\ h.at_ ≠ 10
structure qz82 (A : Ar) (n : Int) : Prop where
 vers : ∀ v : Int, 0 <= v -> v < (A.vers.length : Int) -> (vrOf A v).next ≠ n
 guides : ∀ g ∈ A.guides, g ≠ n
 kind : (vrOf A (ndOf A n).head).kind ≠ 1
structure Far (h : Hd) (n : Int) : Prop where
 pred : h.pred ≠ n
 curr : h.curr ≠ n
 x : h.x_ = n -> h.then_ = 7
theorem HP.hand {x y z u : Int} {A : Ar} {h : Hd} (P : ArP x y z u A) (H : HP A h) : qz3b x y z u h = true := by
 obtain ⟨f0, f1, f2, f3, f4, f5, f6, f7, f8, f9, f10, f11, f12, f13, f14, k0, k1, k2, k3, k4, k5, k6, _, _, _, _, _, _⟩ := H
 have := P.nl
 have := P.vl
 simp only [qz3b, qz3t, qz45, Bool.and_eq_true, qz1f]
 exact ⟨⟨P.pl, by omega⟩, by omega⟩
theorem HP.knows {x y z u : Int} {A : Ar} {h : Hd} (P : ArP x y z u A) (H : HP A h) : qz29 A h = true := by
 obtain ⟨f0, f1, f2, f3, f4, f5, f6, f7, f8, f9, f10, f11, f12, f13, f14, k0, k1, k2, k3, k4, k5, k6, _, _, _, _, _, _⟩ := H
 simp only [qz29, qz4j, qz6q, Bool.and_eq_true, Bool.or_eq_true, qz1f, beq_iff_eq]
 omega
theorem HP.stay {A A' : Ar} {h : Hd} (H : HP A h) (hn : A.nodes.length <= A'.nodes.length) (hv : A.vers.length <= A'.vers.length) (hk : ∀ v : Int, 0 <= v -> v < (A.vers.length : Int) -> (vrOf A' v).kind = (vrOf A v).kind) : HP A' h := by
 obtain ⟨f0, f1, f2, f3, f4, f5, f6, f7, f8, f9, f10, f11, f12, f13, f14, k0, k1, k2, k3, k4, k5, k6, c, d, n0, l, m, t⟩ := H
 refine ⟨f0, f1, f2, f3, f4, f5, f6, f7, f8, f9, f10, f11, f12, f13, f14, by omega, by omega, by omega, by omega, by omega, by omega, by omega, c, fun a b e => ?_, n0, l, m, t⟩
 rw [hk _ k4.1 k4.2] at e
 exact d a b e
theorem HP.rest {A : Ar} {h : Hd} (hn : 1 <= (A.nodes.length : Int)) (hv : 1 <= (A.vers.length : Int)) {rp ot sm : Int} (h1 : 0 <= rp /\ rp <= 7) (h2 : 0 <= ot /\ ot <= 1000000) (h3 : 0 <= sm /\ sm <= 1000000) (h4 : -1 <= h.held /\ h.held <= 100) : HP A (qzc h rp ot sm) := by
 constructor <;> simp only [qzc] <;> first | omega | (intro hh; exact absurd rfl hh)
theorem Far.rest {h : Hd} {n rp ot sm : Int} (hn : 1 <= n) : Far (qzc h rp ot sm) n := ⟨by simp only [qzc]; omega, by simp only [qzc]; omega, by simp only [qzc]; omega⟩
section
variable {x y z u : Int} {A : Ar} {h : Hd} (P : ArP x y z u A)
include P
theorem qzcr {n : Int} (h0 : 0 <= n) (h1 : n < (A.nodes.length : Int)) : 0 <= (ndOf A n).value /\ (ndOf A n).value <= 1000000 := by
 have := (P.node n h0 h1).v1
 omega
theorem qzaf (H : HP A h) (ha : h.at_ ≠ 0) : HP A (qz21 A h) := by
 have hc := H.call ha
 have hn := P.nl.1
 have hv := P.vl.1
 have hval : 0 <= h.curr -> 0 <= (ndOf A h.curr).value /\ (ndOf A h.curr).value <= 1000000 := fun h0 => qzcr P h0 H.k2.2
 have hkey : h.code = 2 -> 0 <= h.key := fun e => by
  rw [e] at hc
  simp [qz3q, inB] at hc
  omega
 have hk0 : h.curr = 0 -> (ndOf A h.curr).key = -1 := fun e => ((P.node h.curr (by omega) H.k2.2).k0 e).1
 have held := H.f11
 unfold qz21
 split
 ·split
  ·rename_i e
   exact HP.rest hn hv (by omega) (hval e.1) (by omega) held
  ·exact HP.rest hn hv (by omega) (by omega) (by omega) held
 ·split
  ·split
   ·rename_i e
    exact HP.rest hn hv (by omega) (hval e.1) (by omega) held
   ·obtain ⟨f0, f1, f2, f3, f4, f5, f6, f7, f8, f9, f10, f11, f12, f13, f14, k0, k1, k2, k3, k4, k5, k6, c, d, n0, l, m, t⟩ := H
    constructor <;> dsimp only <;> first | assumption | (split <;> omega) | (intro _; exact hc)
  ·split
   ·split
    ·rename_i e
     have := hkey (by assumption)
     obtain ⟨f0, f1, f2, f3, f4, f5, f6, f7, f8, f9, f10, f11, f12, f13, f14, k0, k1, k2, k3, k4, k5, k6, c, d, n0, l, m, t⟩ := H
     constructor <;> dsimp only <;> first | assumption | omega | (intro _; exact hc)
    ·exact HP.rest hn hv (by omega) (by omega) (by omega) held
   ·obtain ⟨f0, f1, f2, f3, f4, f5, f6, f7, f8, f9, f10, f11, f12, f13, f14, k0, k1, k2, k3, k4, k5, k6, c, d, n0, l, m, t⟩ := H
    constructor <;> dsimp only <;> first | assumption | omega | (intro _; exact hc)
end
section
variable {x y z u : Int} {A : Ar} {h : Hd} (P : ArP x y z u A)
include P
theorem qzaq (H : HP A h) (ha : 3 <= h.at_ /\ h.at_ <= 5) {n : Int} (hn : n = -1 ∨ (1 <= n /\ n < (A.nodes.length : Int))) : HP A (qz4u A h n) := by
 have hc := H.call (by omega)
 unfold qz4u
 split
 ·refine qzaf P ?_ (by dsimp only; omega)
  obtain ⟨f0, f1, f2, f3, f4, f5, f6, f7, f8, f9, f10, f11, f12, f13, f14, k0, k1, k2, k3, k4, k5, k6, c, d, n0, l, m, t⟩ := H
  constructor <;> dsimp only <;> first | assumption | omega
 ·obtain ⟨f0, f1, f2, f3, f4, f5, f6, f7, f8, f9, f10, f11, f12, f13, f14, k0, k1, k2, k3, k4, k5, k6, c, d, n0, l, m, t⟩ := H
  constructor <;> dsimp only <;> first | assumption | omega | (intro _; exact hc)
theorem qzab (H : HP A h) (ha : h.at_ ≠ 0) : HP A (qz46 A h) := by
 have hc := H.call ha
 unfold qz46
 split
 ·obtain ⟨f0, f1, f2, f3, f4, f5, f6, f7, f8, f9, f10, f11, f12, f13, f14, k0, k1, k2, k3, k4, k5, k6, c, d, n0, l, m, t⟩ := H
  constructor <;> dsimp only <;> first | assumption | omega | (intro _; exact hc)
 ·exact HP.rest P.nl.1 P.vl.1 (by omega) H.f9 (by omega) H.f11
theorem qzcx (H : HP A h) (ha : h.at_ ≠ 0) : HP A (useH A h) := by
 have hc := H.call ha
 have hval := qzcr P H.k0.1 H.k0.2
 have hnx := (P.ver h.ver H.k4.1 H.k4.2).nx
 have hcnt : 0 <= (if qz47 A h then qz5g A h else h).out /\ (if qz47 A h then qz5g A h else h).out <= 1000000 /\ 0 <= (if qz47 A h then qz5g A h else h).sum /\ (if qz47 A h then qz5g A h else h).sum <= 1000000 := by
  have := H.f9
  have := H.f10
  split
  ·simp only [qz5g]; omega
  ·omega
 unfold useH
 split
 ·obtain ⟨f0, f1, f2, f3, f4, f5, f6, f7, f8, f9, f10, f11, f12, f13, f14, k0, k1, k2, k3, k4, k5, k6, c, d, n0, l, m, t⟩ := H
  constructor <;> dsimp only <;> first | assumption | omega
 ·split
  ·split
   ·exact HP.rest P.nl.1 P.vl.1 (by omega) (by omega) (by omega) H.f11
   ·exact HP.rest P.nl.1 P.vl.1 (by omega) hval (by omega) H.f11
  ·split
   ·split
    ·exact HP.rest P.nl.1 P.vl.1 (by omega) (by omega) (by omega) H.f11
    ·exact HP.rest P.nl.1 P.vl.1 (by omega) ⟨hcnt.1, hcnt.2.1⟩ hcnt.2.2 H.f11
   ·rename_i hl
    have hnx0 : 1 <= (vrOf A h.ver).next /\ (vrOf A h.ver).next < (A.nodes.length : Int) := by
     simp only [qz5c, Bool.or_eq_true, decide_eq_true_eq, not_or] at hl
     omega
    obtain ⟨f0, f1, f2, f3, f4, f5, f6, f7, f8, f9, f10, f11, f12, f13, f14, k0, k1, k2, k3, k4, k5, k6, c, d, n0, l, m, t⟩ := H
    split
    ·simp only [qz5g]
     constructor <;> dsimp only <;> first | assumption | omega | (intro _; exact hc)
    ·constructor <;> dsimp only <;> first | assumption | omega | (intro _; exact hc)
theorem qzdc (H : HP A h) (ha : 3 <= h.at_ /\ h.at_ <= 5) : HP A (onH A h) := by
 have hc := H.call (by omega)
 have hnx := (P.ver h.ver H.k4.1 H.k4.2).nx
 have H' := H
 obtain ⟨f0, f1, f2, f3, f4, f5, f6, f7, f8, f9, f10, f11, f12, f13, f14, k0, k1, k2, k3, k4, k5, k6, c, d, n0, l, m, t⟩ := H'
 unfold onH
 split
 ·split
  ·constructor <;> dsimp only <;> first | assumption | omega | (intro _; exact hc)
  ·refine qzaq P ?_ (by exact ha) hnx
   constructor <;> dsimp only <;> first | assumption | omega
 split
 ·split
  ·constructor <;> dsimp only <;> first | assumption | omega | (intro _; exact hc)
  ·split
   ·refine qzaf P ?_ (by dsimp only; omega)
    constructor <;> dsimp only <;> first | assumption | omega
   ·refine qzaq P ?_ (by exact ha) hnx
    constructor <;> dsimp only <;> first | assumption | omega
 split
 ·refine qzaq P ?_ (by exact ha) hnx
  constructor <;> dsimp only <;> first | assumption | omega
 split
 ·constructor <;> dsimp only <;> first | assumption | omega | (intro _; exact hc)
 split
 ·constructor <;> dsimp only <;> first | assumption | omega | (intro _; exact hc)
 split
 ·split
  ·exact qzcx P H (by omega)
  ·constructor <;> dsimp only <;> first | assumption | omega | (intro _; exact hc)
 split
 ·constructor <;> dsimp only <;> first | assumption | (split <;> omega) | (intro _; exact hc)
 ·constructor <;> dsimp only <;> first | assumption | omega
end
section
variable {A : Ar} {h : Hd} {n : Int}
theorem qz8v (F : Far h n) (h1 : 1 <= n) : Far (qz21 A h) n := by
 unfold qz21
 repeat' split
 all_goals first | exact Far.rest h1 | exact ⟨F.pred, F.curr, F.x⟩
theorem qz89 (F : Far h n) (h1 : 1 <= n) {m : Int} (hm : m ≠ n) : Far (qz4u A h m) n := by
 unfold qz4u
 split
 ·exact qz8v ⟨F.pred, hm, F.x⟩ h1
 ·exact ⟨F.pred, hm, fun e => absurd e hm⟩
theorem qz8c (F : Far h n) (h1 : 1 <= n) : Far (qz46 A h) n := by
 unfold qz46
 split
 ·exact ⟨F.pred, F.curr, fun _ => rfl⟩
 ·exact Far.rest h1
theorem qzbv (F : Far h n) (h1 : 1 <= n) (hv : (vrOf A h.ver).next ≠ n) : Far (useH A h) n := by
 unfold useH
 split
 ·exact ⟨F.pred, F.curr, F.x⟩
 ·split
  ·split <;> exact Far.rest h1
  ·split
   ·split <;> exact Far.rest h1
   ·split
    ·exact ⟨F.pred, F.curr, fun e => absurd e hv⟩
    ·exact ⟨F.pred, F.curr, fun e => absurd e hv⟩
theorem qzcc (F : Far h n) (h1 : 1 <= n) (hv : (vrOf A h.ver).next ≠ n) : Far (onH A h) n := by
 have ex := F.x
 have ep := F.pred
 have ec := F.curr
 unfold onH
 split
 ·split
  ·exact ⟨F.pred, F.curr, fun e => by dsimp only at e; omega⟩
  ·refine qz89 ?_ h1 hv
   exact ⟨by show _ ≠ n; dsimp only; omega, F.curr, F.x⟩
 split
 ·split
  ·exact ⟨F.pred, F.curr, F.x⟩
  ·split
   ·exact qz8v ⟨F.pred, F.curr, F.x⟩ h1
   ·refine qz89 ?_ h1 hv
    exact ⟨by show _ ≠ n; dsimp only; omega, F.curr, F.x⟩
 split
 ·refine qz89 ?_ h1 hv
  exact ⟨F.pred, F.curr, F.x⟩
 split
 ·exact ⟨F.pred, F.curr, F.x⟩
 split
 ·exact ⟨F.pred, F.curr, F.x⟩
 split
 ·split
  ·exact qzbv F h1 hv
  ·exact ⟨F.pred, F.curr, F.x⟩
 split
 ·exact ⟨F.pred, F.curr, F.x⟩
 ·exact ⟨F.pred, F.curr, F.x⟩
def NewS (h h' : Hd) : Prop := h'.new_ = h.new_ ∨ h'.new_ = -1
theorem qz8m : NewS h (qz21 A h) := by
 unfold qz21
 repeat' split
 all_goals first | exact Or.inl rfl | exact Or.inr rfl
theorem qz87 {m : Int} : NewS h (qz4u A h m) := by
 unfold qz4u
 split
 ·exact qz8m (h := { h with curr := m })
 ·exact Or.inl rfl
theorem qz53 : NewS h (qz46 A h) := by
 unfold qz46
 repeat' split
 all_goals first | exact Or.inl rfl | exact Or.inr rfl
theorem qzac : NewS h (useH A h) := by
 unfold useH
 repeat' split
 all_goals first | exact Or.inl rfl | exact Or.inr rfl
theorem qz92 : NewS h (onH A h) := by
 unfold onH
 repeat' split
 all_goals first | exact Or.inl rfl | exact Or.inr rfl | exact qzac | exact qz8m (h := { h with currVer := h.ver }) | exact qz87 (h := { h with pred := h.x_, predVer := h.ver }) | exact qz87 (h := { h with predVer := h.ver }) | exact qz87 (h := { h with currVer := h.ver, pred := max h.curr 0, predVer := h.ver })
theorem qz6w (e : h.then_ = 4) : (onH A h).at_ = 10 := by
 unfold onH
 rw [if_neg (by omega), if_neg (by omega), if_neg (by omega), if_pos e]
end
end
end Go.Proofs.Ythjkdnlmopafkaa
