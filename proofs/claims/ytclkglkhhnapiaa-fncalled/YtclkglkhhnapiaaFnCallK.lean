/-
  What the law's proof goes by, part 11.
-/
import Derived.Lib.QuietBelow
import Derived.BigQuiet
import Derived.Test.YtclkglkhhnapiaaFnCallJ
namespace Go.Proofs.Ytclkglkhhnapiaa
open Go.ChangeShapes Go.WideShapes Go.ChangeAt Go.RowKit
set_option maxRecDepth 100000
set_option maxHeartbeats 16000000
set_option linter.unusedVariables false
set_option linter.unusedSimpArgs false
set_option linter.unnecessarySimpa false
set_option linter.unusedSectionVars false
section
structure NdP (nv n : Int) (x : Nd) : Prop where
 k0 : n = 0 -> x.key = -1 /\ x.value = 0
 k1 : n ≠ 0 -> 0 <= x.key /\ x.key <= 63
 v1 : 0 <= x.value /\ x.value <= 9999
 hd : 0 <= x.head /\ x.head < nv
structure VrP (nn cam i : Int) (v : Vr) : Prop where
 nx : v.next = -1 ∨ (1 <= v.next /\ v.next < nn)
 st : -1 <= v.stamp /\ v.stamp <= cam
 pv : -1 <= v.prev /\ v.prev < i
 kd : 0 <= v.kind /\ v.kind <= 2
structure ArP (x y z u : Int) (A : Ar) : Prop where
 pl : qz3o x y z u = true
 cam : 0 <= A.camera /\ A.camera <= 100
 sl : (A.slots.length : Int) = x
 gl : (A.guides.length : Int) = u
 nl : 1 <= (A.nodes.length : Int) /\ (A.nodes.length : Int) <= y
 vl : 1 <= (A.vers.length : Int) /\ (A.vers.length : Int) <= z
 slot : ∀ s ∈ A.slots, -1 <= s /\ s <= 100
 guide : ∀ g ∈ A.guides, 0 <= g /\ g < (A.nodes.length : Int)
 node : ∀ n : Int, 0 <= n -> n < (A.nodes.length : Int) -> NdP A.vers.length n (ndOf A n)
 ver : ∀ v : Int, 0 <= v -> v < (A.vers.length : Int) -> VrP A.nodes.length A.camera v (vrOf A v)
theorem qz6p {α : Type} {l : List α} {d : α} {i : Nat} (h : i < l.length) : l.getD i d = l[i] := by simp [List.getD_eq_getElem?_getD, h]
theorem qz4m {l : List Int} {P : Int -> Prop} : (∀ s ∈ l, P s) ↔ ∀ i (h : i < l.length), P l[i] := by
 constructor
 ·intro h i hi
  exact h _ (List.getElem_mem hi)
 ·intro h s hs
  obtain ⟨i, hi, rfl⟩ := List.getElem_of_mem hs
  exact h i hi
theorem qz8z (x y z u : Int) (A : Ar) : qz1o x y z u A = true ↔ ArP x y z u A := by
 simp only [qz1o, qz7j, Bool.and_eq_true, qz2o, qz1b, beq_iff_eq]
 constructor
 ·rintro ⟨⟨⟨⟨⟨⟨⟨⟨⟨h1, h2⟩, h3⟩, h4⟩, h5⟩, h6⟩, h7⟩, h8⟩, h9⟩, h10⟩
  refine ⟨h1, h2, h3, h4, h5, h6, qz4m.2 h7, qz4m.2 fun i hi => by have := h8 i hi; omega, fun n a b => ?_, fun v a b => ?_⟩
  ·have := h9 n.toNat (by omega)
   rw [ndOf, qz6p (by omega)]
   generalize A.nodes[n.toNat]'(by omega) = q at *
   unfold qz5n at this
   split at this
   ·simp only [Bool.and_eq_true, qz1b, beq_iff_eq] at this
    constructor <;> omega
   ·simp only [Bool.and_eq_true, qz1b] at this
    constructor <;> omega
  ·have := h10 v.toNat (by omega)
   rw [vrOf, qz6p (by omega)]
   generalize A.vers[v.toNat]'(by omega) = q at *
   simp only [verB, Bool.and_eq_true, Bool.or_eq_true, qz1b, beq_iff_eq] at this
   constructor <;> omega
 ·rintro ⟨h1, h2, h3, h4, h5, h6, h7, h8, h9, h10⟩
  refine ⟨⟨⟨⟨⟨⟨⟨⟨⟨h1, h2⟩, h3⟩, h4⟩, h5⟩, h6⟩, qz4m.1 h7⟩, fun i hi => by have := qz4m.1 h8 i hi; omega⟩, fun i hi => ?_⟩, fun i hi => ?_⟩
  ·have := h9 i (by omega) (by omega)
   rw [ndOf, qz6p (by simpa using hi)] at this
   simp only [Int.toNat_natCast] at this
   generalize A.nodes[i] = q at *
   obtain ⟨k0, k1, v1, hd⟩ := this
   unfold qz5n
   split
   ·simp only [Bool.and_eq_true, qz1b, beq_iff_eq]
    omega
   ·simp only [Bool.and_eq_true, qz1b]
    omega
  ·have := h10 i (by omega) (by omega)
   rw [vrOf, qz6p (by simpa using hi)] at this
   simp only [Int.toNat_natCast] at this
   generalize A.vers[i] = q at *
   obtain ⟨k0, k1, v1, hd⟩ := this
   simp only [verB, Bool.and_eq_true, Bool.or_eq_true, qz1b, beq_iff_eq]
   omega
theorem qz5x {α : Type} {l : List α} {d v : α} {k i : Int} (hk : 0 <= k) (hkl : k < (l.length : Int)) (hi : 0 <= i) : (l.set k.toNat v).getD i.toNat d = if i = k then v else l.getD i.toNat d := by
 simp only [List.getD_eq_getElem?_getD, List.getElem?_set]
 by_cases e : i = k
 ·subst e
  rw [if_pos rfl, if_pos (by omega), if_pos rfl]
  rfl
 ·rw [if_neg (by omega), if_neg e]
theorem qz5h {α : Type} {l : List α} {d v : α} {i : Int} (hi : 0 <= i) (hl : i < (l.length : Int)) : (l ++ [v]).getD i.toNat d = l.getD i.toNat d := by
 simp only [List.getD_eq_getElem?_getD]
 rw [List.getElem?_append_left (by omega)]
theorem qz4b {α : Type} {l : List α} {d v : α} {i : Int} (hl : i = (l.length : Int)) : (l ++ [v]).getD i.toNat d = v := by
 subst hl
 simp
theorem qz63 {l : List Int} {k : Nat} {v s : Int} (h : s ∈ l.set k v) : s = v ∨ s ∈ l := by
 rcases List.mem_or_eq_of_mem_set h with h | h
 ·exact Or.inr h
 ·exact Or.inl h
theorem qzaw {l : List Int} {k : Nat} {d : Int} (h : k < l.length) : l.getD k d ∈ l := by
 rw [qz6p h]
 exact List.getElem_mem h
theorem NdP.mono {nv nv' n : Int} {x : Nd} (h : NdP nv n x) (hn : nv <= nv') : NdP nv' n x := ⟨h.k0, h.k1, h.v1, h.hd.1, by have := h.hd.2; omega⟩
theorem VrP.mono {nn nn' cam cam' i : Int} {v : Vr} (h : VrP nn cam i v) (hn : nn <= nn') (hc : cam <= cam') : VrP nn' cam' i v := ⟨by have := h.nx; omega, by have := h.st; omega, h.pv, h.kd⟩
theorem ArP.setV {x y z u : Int} {A : Ar} (P : ArP x y z u A) {k : Int} {v : Vr} (h0 : 0 <= k) (h1 : k < (A.vers.length : Int)) (hv : VrP A.nodes.length A.camera k v) : ArP x y z u { A with vers := A.vers.set k.toNat v } := by
 obtain ⟨p1, p2, p3, p4, p5, p6, p7, p8, p9, p10⟩ := P
 refine ⟨p1, p2, p3, p4, p5, by simpa using p6, p7, p8, ?_, ?_⟩
 ·intro n a b
  have := p9 n a b
  simpa [ndOf] using this
 ·intro i a b
  have b' : i < (A.vers.length : Int) := by simpa using b
  show VrP _ _ _ ((A.vers.set k.toNat v).getD i.toNat _)
  rw [qz5x h0 h1 a]
  split
  ·rename_i e
   subst e
   exact hv
  ·exact p10 i a b'
theorem ArP.swap {x y z u : Int} {A : Ar} (P : ArP x y z u A) {node next : Int} {gone : Bool} {kind : Int} (h0 : 0 <= node) (h1 : node < (A.nodes.length : Int)) (hz : (A.vers.length : Int) < z) (hn : next = -1 ∨ (1 <= next /\ next < (A.nodes.length : Int))) (hk : 0 <= kind /\ kind <= 2) : ArP x y z u { A with vers := A.vers ++ [⟨next, gone, -1, (ndOf A node).head, kind⟩], nodes := A.nodes.set node.toNat { ndOf A node with head := (A.vers.length : Int) } } := by
 obtain ⟨p1, p2, p3, p4, p5, p6, p7, p8, p9, p10⟩ := P
 refine ⟨p1, p2, p3, p4, by simpa using p5, by simp; omega, p7, by simpa using p8, ?_, ?_⟩
 ·intro n a b
  have b' : n < (A.nodes.length : Int) := by simpa using b
  show NdP _ _ ((A.nodes.set node.toNat _).getD n.toNat _)
  rw [qz5x h0 h1 a]
  have q := p9 n a b'
  split
  ·rename_i e
   subst e
   obtain ⟨q1, q2, q3, q4⟩ := q
   exact ⟨q1, q2, q3, by simp; omega⟩
  ·exact q.mono (by simp <;> omega)
 ·intro i a b
  have b' : i < (A.vers.length : Int) + 1 := by simpa using b
  show VrP _ _ _ ((A.vers ++ [_]).getD i.toNat _)
  have q := (p9 node h0 h1).hd
  by_cases e : i = (A.vers.length : Int)
  ·rw [qz4b e]
   subst e
   exact ⟨by simpa using hn, by simp; omega, by simp; omega, hk⟩
  ·rw [qz5h a (by omega)]
   exact (p10 i a (by omega)).mono (by simp <;> omega) (Int.le_refl _)
theorem ArP.make {x y z u : Int} {A : Ar} (P : ArP x y z u A) {next key value : Int} (hy : (A.nodes.length : Int) < y) (hz : (A.vers.length : Int) < z) (hn : next = -1 ∨ (1 <= next /\ next < (A.nodes.length : Int))) (hk : 0 <= key /\ key <= 63) (hv : 0 <= value /\ value <= 9999) : ArP x y z u { A with vers := A.vers ++ [⟨next, false, 0, -1, 0⟩], nodes := A.nodes ++ [⟨key, value, (A.vers.length : Int)⟩] } := by
 obtain ⟨p1, p2, p3, p4, p5, p6, p7, p8, p9, p10⟩ := P
 refine ⟨p1, p2, p3, p4, by simp; omega, by simp; omega, p7, fun g hg => by have := p8 g hg; simp; omega, ?_, ?_⟩
 ·intro n a b
  have b' : n < (A.nodes.length : Int) + 1 := by simpa using b
  show NdP _ _ ((A.nodes ++ [_]).getD n.toNat _)
  by_cases e : n = (A.nodes.length : Int)
  ·rw [qz4b e]
   exact ⟨fun h => by omega, fun _ => hk, hv, by simp; omega⟩
  ·rw [qz5h a (by omega)]
   exact (p9 n a (by omega)).mono (by simp <;> omega)
 ·intro i a b
  have b' : i < (A.vers.length : Int) + 1 := by simpa using b
  show VrP _ _ _ ((A.vers ++ [_]).getD i.toNat _)
  by_cases e : i = (A.vers.length : Int)
  ·rw [qz4b e]
   exact ⟨by simp; omega, by simp; omega, by simp; omega, by simp⟩
  ·rw [qz5h a (by omega)]
   exact (p10 i a (by omega)).mono (by simp <;> omega) (Int.le_refl _)
theorem ArP.setG {x y z u : Int} {A : Ar} (P : ArP x y z u A) {k : Nat} {v : Int} (hv : 0 <= v /\ v < (A.nodes.length : Int)) : ArP x y z u { A with guides := A.guides.set k v } := by
 obtain ⟨p1, p2, p3, p4, p5, p6, p7, p8, p9, p10⟩ := P
 refine ⟨p1, p2, p3, by simpa using p4, p5, p6, p7, fun g hg => ?_, p9, p10⟩
 rcases qz63 hg with rfl | h
 ·exact hv
 ·exact p8 g h
theorem ArP.setS {x y z u : Int} {A : Ar} (P : ArP x y z u A) {k : Nat} {v : Int} (hv : -1 <= v /\ v <= 100) : ArP x y z u { A with slots := A.slots.set k v } := by
 obtain ⟨p1, p2, p3, p4, p5, p6, p7, p8, p9, p10⟩ := P
 refine ⟨p1, p2, by simpa using p3, p4, p5, p6, fun g hg => ?_, p8, p9, p10⟩
 rcases qz63 hg with rfl | h
 ·exact hv
 ·exact p7 g h
theorem ArP.tick {x y z u : Int} {A : Ar} (P : ArP x y z u A) (h : A.camera < 100) : ArP x y z u { A with camera := A.camera + 1 } := by
 obtain ⟨p1, p2, p3, p4, p5, p6, p7, p8, p9, p10⟩ := P
 refine ⟨p1, by simp; omega, p3, p4, p5, p6, p7, p8, p9, fun i a b => ?_⟩
 exact (p10 i a b).mono (Int.le_refl _) (by simp; omega)
structure HP (A : Ar) (h : Hd) : Prop where
 f0 : 0 <= h.at_ /\ h.at_ <= 23
 f1 : 0 <= h.then_ /\ h.then_ <= 7
 f2 : 0 <= h.code /\ h.code <= 8
 f3 : 0 <= h.reply /\ h.reply <= 7
 f4 : -1 <= h.key /\ h.key <= 63
 f5 : 0 <= h.value /\ h.value <= 9999
 f6 : 0 <= h.begin /\ h.begin <= 20000
 f7 : 0 <= h.camAt /\ h.camAt <= 20000
 f8 : 0 <= h.round /\ h.round <= 20000
 f9 : 0 <= h.out /\ h.out <= 1000000
 f10 : 0 <= h.sum /\ h.sum <= 1000000
 f11 : -1 <= h.held /\ h.held <= 100
 f12 : 0 <= h.cam /\ h.cam <= 100
 f13 : 0 <= h.least /\ h.least <= 100
 f14 : 0 <= h.index /\ h.index <= 60
 k0 : 0 <= h.x_ /\ h.x_ < (A.nodes.length : Int)
 k1 : 0 <= h.pred /\ h.pred < (A.nodes.length : Int)
 k2 : -1 <= h.curr /\ h.curr < (A.nodes.length : Int)
 k3 : -1 <= h.new_ /\ h.new_ < (A.nodes.length : Int)
 k4 : 0 <= h.ver /\ h.ver < (A.vers.length : Int)
 k5 : 0 <= h.predVer /\ h.predVer < (A.vers.length : Int)
 k6 : 0 <= h.currVer /\ h.currVer < (A.vers.length : Int)
 call : h.at_ ≠ 0 -> qz2c h.code h.key h.value = true
 del : 3 <= h.at_ -> h.at_ <= 5 -> (vrOf A h.ver).kind = 2 -> h.x_ ≠ 0
 new0 : h.new_ ≠ 0
 lnk : h.at_ = 8 ∨ h.at_ = 9 -> 1 <= h.new_
 mark : h.at_ = 11 -> 1 <= h.curr
 unl : h.at_ = 6 -> h.then_ = 2
structure AX (A : Ar) : Prop where
 put : ∀ v : Int, 0 <= v -> v < (A.vers.length : Int) -> (vrOf A v).kind = 1 -> 1 <= (vrOf A v).next
 head : (vrOf A (ndOf A 0).head).kind ≠ 2
def Priv (h : Hd) : Prop := 1 <= h.new_ /\ ¬ (h.then_ = 4 /\ 3 <= h.at_ /\ h.at_ <= 5) /\ h.at_ ≠ 10
structure qz8a (A : Ar) (n : Int) : Prop where
 vers : ∀ v : Int, 0 <= v -> v < (A.vers.length : Int) -> (vrOf A v).next ≠ n
 guides : ∀ g ∈ A.guides, g ≠ n
 kind : (vrOf A (ndOf A n).head).kind ≠ 1
structure Far (h : Hd) (n : Int) : Prop where
 pred : h.pred ≠ n
 curr : h.curr ≠ n
 x : h.x_ = n -> h.then_ = 7
theorem HP.hand {x y z u : Int} {A : Ar} {h : Hd} (P : ArP x y z u A) (H : HP A h) : qz3c x y z u h = true := by
 obtain ⟨f0, f1, f2, f3, f4, f5, f6, f7, f8, f9, f10, f11, f12, f13, f14, k0, k1, k2, k3, k4, k5, k6, _, _, _, _, _, _⟩ := H
 have := P.nl
 have := P.vl
 simp only [qz3c, qz41, qz3s, Bool.and_eq_true, qz1b]
 exact ⟨⟨P.pl, by omega⟩, by omega⟩
theorem HP.knows {x y z u : Int} {A : Ar} {h : Hd} (P : ArP x y z u A) (H : HP A h) : qz2f A h = true := by
 obtain ⟨f0, f1, f2, f3, f4, f5, f6, f7, f8, f9, f10, f11, f12, f13, f14, k0, k1, k2, k3, k4, k5, k6, _, _, _, _, _, _⟩ := H
 simp only [qz2f, qz4r, qz6m, Bool.and_eq_true, Bool.or_eq_true, qz1b, beq_iff_eq]
 omega
theorem HP.stay {A A' : Ar} {h : Hd} (H : HP A h) (hn : A.nodes.length <= A'.nodes.length) (hv : A.vers.length <= A'.vers.length) (hk : ∀ v : Int, 0 <= v -> v < (A.vers.length : Int) -> (vrOf A' v).kind = (vrOf A v).kind) : HP A' h := by
 obtain ⟨f0, f1, f2, f3, f4, f5, f6, f7, f8, f9, f10, f11, f12, f13, f14, k0, k1, k2, k3, k4, k5, k6, c, d, n0, l, m, t⟩ := H
 refine ⟨f0, f1, f2, f3, f4, f5, f6, f7, f8, f9, f10, f11, f12, f13, f14, by omega, by omega, by omega, by omega, by omega, by omega, by omega, c, fun a b e => ?_, n0, l, m, t⟩
 rw [hk _ k4.1 k4.2] at e
 exact d a b e
theorem HP.rest {A : Ar} {h : Hd} (hn : 1 <= (A.nodes.length : Int)) (hv : 1 <= (A.vers.length : Int)) {rp ot sm : Int} (h1 : 0 <= rp /\ rp <= 7) (h2 : 0 <= ot /\ ot <= 1000000) (h3 : 0 <= sm /\ sm <= 1000000) (h4 : -1 <= h.held /\ h.held <= 100) : HP A (qzb h rp ot sm) := by
 constructor <;> simp only [qzb] <;> first | omega | (intro hh; exact absurd rfl hh)
theorem Far.rest {h : Hd} {n rp ot sm : Int} (hn : 1 <= n) : Far (qzb h rp ot sm) n := ⟨by simp only [qzb]; omega, by simp only [qzb]; omega, by simp only [qzb]; omega⟩
section
variable {x y z u : Int} {A : Ar} {h : Hd} (P : ArP x y z u A)
include P
theorem qzcz {n : Int} (h0 : 0 <= n) (h1 : n < (A.nodes.length : Int)) : 0 <= (ndOf A n).value /\ (ndOf A n).value <= 1000000 := by
 have := (P.node n h0 h1).v1
 omega
theorem qzax (H : HP A h) (ha : h.at_ ≠ 0) : HP A (qz27 A h) := by
 have hc := H.call ha
 have hn := P.nl.1
 have hv := P.vl.1
 have hval : 0 <= h.curr -> 0 <= (ndOf A h.curr).value /\ (ndOf A h.curr).value <= 1000000 := fun h0 => qzcz P h0 H.k2.2
 have hkey : h.code = 2 -> 0 <= h.key := fun e => by
  rw [e] at hc
  simp [qz2c, inB] at hc
  omega
 have hk0 : h.curr = 0 -> (ndOf A h.curr).key = -1 := fun e => ((P.node h.curr (by omega) H.k2.2).k0 e).1
 have held := H.f11
 unfold qz27
 split
 ·split
  ·rename_i e
   exact HP.rest hn hv (by omega) (hval e.1) (by omega) held
  ·exact HP.rest hn hv (by omega) (by omega) (by omega) held
 ·split
  ·split
   ·rename_i e
    exact HP.rest hn hv (by omega) (hval e.1) (by omega) held
   ·obtain ⟨f0, f1, f2, f3, f4, f5, f6, f7, f8, f9, f10, f11, f12, f13, f14, k0, k1, k2, k3, k4, k5, k6, c, d, n0, l, m, t⟩ := H
    constructor <;> dsimp only <;> first | assumption | (split <;> omega) | (intro _; exact hc)
  ·split
   ·split
    ·rename_i e
     have := hkey (by assumption)
     obtain ⟨f0, f1, f2, f3, f4, f5, f6, f7, f8, f9, f10, f11, f12, f13, f14, k0, k1, k2, k3, k4, k5, k6, c, d, n0, l, m, t⟩ := H
     constructor <;> dsimp only <;> first | assumption | omega | (intro _; exact hc)
    ·exact HP.rest hn hv (by omega) (by omega) (by omega) held
   ·obtain ⟨f0, f1, f2, f3, f4, f5, f6, f7, f8, f9, f10, f11, f12, f13, f14, k0, k1, k2, k3, k4, k5, k6, c, d, n0, l, m, t⟩ := H
    constructor <;> dsimp only <;> first | assumption | omega | (intro _; exact hc)
end
section
variable {x y z u : Int} {A : Ar} {h : Hd} (P : ArP x y z u A)
include P
theorem qzab (H : HP A h) (ha : 3 <= h.at_ /\ h.at_ <= 5) {n : Int} (hn : n = -1 ∨ (1 <= n /\ n < (A.nodes.length : Int))) : HP A (qz53 A h n) := by
 have hc := H.call (by omega)
 unfold qz53
 split
 ·refine qzax P ?_ (by dsimp only; omega)
  obtain ⟨f0, f1, f2, f3, f4, f5, f6, f7, f8, f9, f10, f11, f12, f13, f14, k0, k1, k2, k3, k4, k5, k6, c, d, n0, l, m, t⟩ := H
  constructor <;> dsimp only <;> first | assumption | omega
 ·obtain ⟨f0, f1, f2, f3, f4, f5, f6, f7, f8, f9, f10, f11, f12, f13, f14, k0, k1, k2, k3, k4, k5, k6, c, d, n0, l, m, t⟩ := H
  constructor <;> dsimp only <;> first | assumption | omega | (intro _; exact hc)
theorem qzas (H : HP A h) (ha : h.at_ ≠ 0) : HP A (qz4e A h) := by
 have hc := H.call ha
 unfold qz4e
 split
 ·obtain ⟨f0, f1, f2, f3, f4, f5, f6, f7, f8, f9, f10, f11, f12, f13, f14, k0, k1, k2, k3, k4, k5, k6, c, d, n0, l, m, t⟩ := H
  constructor <;> dsimp only <;> first | assumption | omega | (intro _; exact hc)
 ·exact HP.rest P.nl.1 P.vl.1 (by omega) H.f9 (by omega) H.f11
theorem qzd9 (H : HP A h) (ha : h.at_ ≠ 0) : HP A (useH A h) := by
 have hc := H.call ha
 have hval := qzcz P H.k0.1 H.k0.2
 have hnx := (P.ver h.ver H.k4.1 H.k4.2).nx
 have hcnt : 0 <= (if qz4f A h then qz5p A h else h).out /\ (if qz4f A h then qz5p A h else h).out <= 1000000 /\ 0 <= (if qz4f A h then qz5p A h else h).sum /\ (if qz4f A h then qz5p A h else h).sum <= 1000000 := by
  have := H.f9
  have := H.f10
  split
  ·simp only [qz5p]; omega
  ·omega
 unfold useH
 split
 ·obtain ⟨f0, f1, f2, f3, f4, f5, f6, f7, f8, f9, f10, f11, f12, f13, f14, k0, k1, k2, k3, k4, k5, k6, c, d, n0, l, m, t⟩ := H
  constructor <;> dsimp only <;> first | assumption | omega
 ·split
  ·split
   ·exact HP.rest P.nl.1 P.vl.1 (by omega) (by omega) (by omega) H.f11
   ·exact HP.rest P.nl.1 P.vl.1 (by omega) hval (by omega) H.f11
  ·split
   ·split
    ·exact HP.rest P.nl.1 P.vl.1 (by omega) (by omega) (by omega) H.f11
    ·exact HP.rest P.nl.1 P.vl.1 (by omega) ⟨hcnt.1, hcnt.2.1⟩ hcnt.2.2 H.f11
   ·rename_i hl
    have hnx0 : 1 <= (vrOf A h.ver).next /\ (vrOf A h.ver).next < (A.nodes.length : Int) := by
     simp only [qz5m, Bool.or_eq_true, decide_eq_true_eq, not_or] at hl
     omega
    obtain ⟨f0, f1, f2, f3, f4, f5, f6, f7, f8, f9, f10, f11, f12, f13, f14, k0, k1, k2, k3, k4, k5, k6, c, d, n0, l, m, t⟩ := H
    split
    ·simp only [qz5p]
     constructor <;> dsimp only <;> first | assumption | omega | (intro _; exact hc)
    ·constructor <;> dsimp only <;> first | assumption | omega | (intro _; exact hc)
theorem qzdo (H : HP A h) (ha : 3 <= h.at_ /\ h.at_ <= 5) : HP A (onH A h) := by
 have hc := H.call (by omega)
 have hnx := (P.ver h.ver H.k4.1 H.k4.2).nx
 have H' := H
 obtain ⟨f0, f1, f2, f3, f4, f5, f6, f7, f8, f9, f10, f11, f12, f13, f14, k0, k1, k2, k3, k4, k5, k6, c, d, n0, l, m, t⟩ := H'
 unfold onH
 split
 ·split
  ·constructor <;> dsimp only <;> first | assumption | omega | (intro _; exact hc)
  ·refine qzab P ?_ (by exact ha) hnx
   constructor <;> dsimp only <;> first | assumption | omega
 split
 ·split
  ·constructor <;> dsimp only <;> first | assumption | omega | (intro _; exact hc)
  ·split
   ·refine qzax P ?_ (by dsimp only; omega)
    constructor <;> dsimp only <;> first | assumption | omega
   ·refine qzab P ?_ (by exact ha) hnx
    constructor <;> dsimp only <;> first | assumption | omega
 split
 ·refine qzab P ?_ (by exact ha) hnx
  constructor <;> dsimp only <;> first | assumption | omega
 split
 ·constructor <;> dsimp only <;> first | assumption | omega | (intro _; exact hc)
 split
 ·constructor <;> dsimp only <;> first | assumption | omega | (intro _; exact hc)
 split
 ·split
  ·exact qzd9 P H (by omega)
  ·constructor <;> dsimp only <;> first | assumption | omega | (intro _; exact hc)
 split
 ·constructor <;> dsimp only <;> first | assumption | (split <;> omega) | (intro _; exact hc)
 ·constructor <;> dsimp only <;> first | assumption | omega
end
section
variable {A : Ar} {h : Hd} {n : Int}
theorem qz8v (F : Far h n) (h1 : 1 <= n) : Far (qz27 A h) n := by
 unfold qz27
 repeat' split
 all_goals first | exact Far.rest h1 | exact ⟨F.pred, F.curr, F.x⟩
theorem qz8l (F : Far h n) (h1 : 1 <= n) {m : Int} (hm : m ≠ n) : Far (qz53 A h m) n := by
 unfold qz53
 split
 ·exact qz8v ⟨F.pred, hm, F.x⟩ h1
 ·exact ⟨F.pred, hm, fun e => absurd e hm⟩
theorem qz86 (F : Far h n) (h1 : 1 <= n) : Far (qz4e A h) n := by
 unfold qz4e
 split
 ·exact ⟨F.pred, F.curr, fun _ => rfl⟩
 ·exact Far.rest h1
theorem qzbz (F : Far h n) (h1 : 1 <= n) (hv : (vrOf A h.ver).next ≠ n) : Far (useH A h) n := by
 unfold useH
 split
 ·exact ⟨F.pred, F.curr, F.x⟩
 ·split
  ·split <;> exact Far.rest h1
  ·split
   ·split <;> exact Far.rest h1
   ·split
    ·exact ⟨F.pred, F.curr, fun e => absurd e hv⟩
    ·exact ⟨F.pred, F.curr, fun e => absurd e hv⟩
theorem qzck (F : Far h n) (h1 : 1 <= n) (hv : (vrOf A h.ver).next ≠ n) : Far (onH A h) n := by
 have ex := F.x
 have ep := F.pred
 have ec := F.curr
 unfold onH
 split
 ·split
  ·exact ⟨F.pred, F.curr, fun e => by dsimp only at e; omega⟩
  ·refine qz8l ?_ h1 hv
   exact ⟨by show _ ≠ n; dsimp only; omega, F.curr, F.x⟩
 split
 ·split
  ·exact ⟨F.pred, F.curr, F.x⟩
  ·split
   ·exact qz8v ⟨F.pred, F.curr, F.x⟩ h1
   ·refine qz8l ?_ h1 hv
    exact ⟨by show _ ≠ n; dsimp only; omega, F.curr, F.x⟩
 split
 ·refine qz8l ?_ h1 hv
  exact ⟨F.pred, F.curr, F.x⟩
 split
 ·exact ⟨F.pred, F.curr, F.x⟩
 split
 ·exact ⟨F.pred, F.curr, F.x⟩
 split
 ·split
  ·exact qzbz F h1 hv
  ·exact ⟨F.pred, F.curr, F.x⟩
 split
 ·exact ⟨F.pred, F.curr, F.x⟩
 ·exact ⟨F.pred, F.curr, F.x⟩
def NewS (h h' : Hd) : Prop := h'.new_ = h.new_ ∨ h'.new_ = -1
theorem qz8y : NewS h (qz27 A h) := by
 unfold qz27
 repeat' split
 all_goals first | exact Or.inl rfl | exact Or.inr rfl
theorem qz89 {m : Int} : NewS h (qz53 A h m) := by
 unfold qz53
 split
 ·exact qz8y (h := { h with curr := m })
 ·exact Or.inl rfl
theorem qz5j : NewS h (qz4e A h) := by
 unfold qz4e
 repeat' split
 all_goals first | exact Or.inl rfl | exact Or.inr rfl
theorem qzaj : NewS h (useH A h) := by
 unfold useH
 repeat' split
 all_goals first | exact Or.inl rfl | exact Or.inr rfl
theorem qz9o : NewS h (onH A h) := by
 unfold onH
 repeat' split
 all_goals first | exact Or.inl rfl | exact Or.inr rfl | exact qzaj | exact qz8y (h := { h with currVer := h.ver }) | exact qz89 (h := { h with pred := h.x_, predVer := h.ver }) | exact qz89 (h := { h with predVer := h.ver }) | exact qz89 (h := { h with currVer := h.ver, pred := max h.curr 0, predVer := h.ver })
theorem qz7d (e : h.then_ = 4) : (onH A h).at_ = 10 := by
 unfold onH
 rw [if_neg (by omega), if_neg (by omega), if_neg (by omega), if_pos e]
end
end
section
def stN (A : Ar) : Nat := A.vers.countP (fun v => v.stamp != -1)
theorem qzcx (A : Ar) : stN A <= A.vers.length := List.countP_le_length
theorem qzc0 {A : Ar} {k : Int} {v : Vr} (h0 : 0 <= k) (h1 : k < (A.vers.length : Int)) : (A.vers.set k.toNat v).countP (fun v => v.stamp != -1) + (if (vrOf A k).stamp ≠ -1 then 1 else 0) = stN A + (if v.stamp ≠ -1 then 1 else 0) := by
 have hl : k.toNat < A.vers.length := by omega
 have e : vrOf A k = A.vers[k.toNat] := qz6p hl
 unfold stN
 rw [List.countP_set hl, e]
 have hp : A.vers[k.toNat].stamp ≠ -1 -> 0 < A.vers.countP (fun v => v.stamp != -1) := fun h => List.countP_pos_iff.2 ⟨_, List.getElem_mem hl, by simpa using h⟩
 generalize A.vers.countP (fun v => v.stamp != -1) = c at *
 generalize A.vers[k.toNat] = q at *
 by_cases e1 : q.stamp = -1 <;> by_cases e2 : v.stamp = -1 <;> simp [e1, e2] at hp ⊢ <;> omega
theorem qzc3 {A : Ar} {v : Vr} : stN A <= (A.vers ++ [v]).countP (fun v => v.stamp != -1) := by
 unfold stN
 rw [List.countP_append]
 omega
structure Chg (x y z u : Int) (A A' : Ar) (bad : Int -> Prop) : Prop where
 ar : ArP x y z u A'
 ax : AX A'
 nn : A.nodes.length <= A'.nodes.length
 nv : A.vers.length <= A'.vers.length
 kinds : ∀ v : Int, 0 <= v -> v < (A.vers.length : Int) -> (vrOf A' v).kind = (vrOf A v).kind
 lone : ∀ n : Int, 1 <= n -> n < (A.nodes.length : Int) -> ¬ bad n -> qz8a A n -> qz8a A' n
 cnt : stN A <= stN A'
section
variable {x y z u : Int} {A : Ar} (P : ArP x y z u A) (X : AX A)
include P X
theorem Chg.same (bad : Int -> Prop) : Chg x y z u A A bad := ⟨P, X, Nat.le_refl _, Nat.le_refl _, fun _ _ _ => rfl, fun _ _ _ _ h => h, Nat.le_refl _⟩
theorem Chg.setV {k : Int} {v : Vr} (h0 : 0 <= k) (h1 : k < (A.vers.length : Int)) (hv : VrP A.nodes.length A.camera k v) (hk : v.kind = (vrOf A k).kind) (hn : v.kind = 1 -> 1 <= v.next) (hs : (vrOf A k).stamp ≠ -1 -> v.stamp ≠ -1) : Chg x y z u A { A with vers := A.vers.set k.toNat v } (fun n => n = v.next) := by
 have hget : ∀ i : Int, 0 <= i -> vrOf { A with vers := A.vers.set k.toNat v } i = if i = k then v else vrOf A i := fun i hi => qz5x h0 h1 hi
 have hkind : ∀ i : Int, 0 <= i -> (vrOf { A with vers := A.vers.set k.toNat v } i).kind = (vrOf A i).kind := fun i hi => by
  rw [hget i hi]
  split
  ·rename_i e; subst e; exact hk
  ·rfl
 refine ⟨P.setV h0 h1 hv, ⟨fun i a b e => ?_, ?_⟩, Nat.le_refl _, by simp, fun i a _ => hkind i a, fun n n1 n2 hb L => ⟨fun i a b => ?_, L.guides, ?_⟩, ?_⟩
 ·rw [hget i a] at e ⊢
  have b' : i < (A.vers.length : Int) := by simpa using b
  split at e
  ·rename_i e'; rw [if_pos e']; exact hn e
  ·rename_i e'; rw [if_neg e']; exact X.put i a b' e
 ·have hd := (P.node 0 (Int.le_refl _) (by have := P.nl; omega)).hd
  show (vrOf _ (ndOf A 0).head).kind ≠ 2
  rw [hkind _ hd.1]
  exact X.head
 ·rw [hget i a]
  have b' : i < (A.vers.length : Int) := by simpa using b
  split
  ·exact fun e => hb e.symm
  ·exact L.vers i a b'
 ·have hd := (P.node n (by omega) n2).hd
  show (vrOf _ (ndOf A n).head).kind ≠ 1
  rw [hkind _ hd.1]
  exact L.kind
 ·have := qzc0 (v := v) h0 h1
  show stN A <= (A.vers.set k.toNat v).countP _
  by_cases e1 : (vrOf A k).stamp = -1 <;> by_cases e2 : v.stamp = -1 <;> simp [e1, e2] at this hs <;> omega
theorem Chg.swap {node next : Int} {gone : Bool} {kind : Int} (h0 : 0 <= node) (h1 : node < (A.nodes.length : Int)) (hz : (A.vers.length : Int) < z) (hn : next = -1 ∨ (1 <= next /\ next < (A.nodes.length : Int))) (hk : 0 <= kind /\ kind <= 2) (hp : kind = 1 -> 1 <= next) (hd : kind = 2 -> node ≠ 0) :
  Chg x y z u A { A with vers := A.vers ++ [⟨next, gone, -1, (ndOf A node).head, kind⟩], nodes := A.nodes.set node.toNat { ndOf A node with head := (A.vers.length : Int) } } (fun n => n = next ∨ n = node) := by
 generalize hA : ({ A with vers := A.vers ++ [⟨next, gone, -1, (ndOf A node).head, kind⟩], nodes := A.nodes.set node.toNat { ndOf A node with head := (A.vers.length : Int) } } : Ar) = A'
 have hv1 : ∀ i : Int, 0 <= i -> i < (A.vers.length : Int) -> vrOf A' i = vrOf A i := fun i a b => by rw [<- hA]; exact qz5h a b
 have hv2 : vrOf A' (A.vers.length : Int) = ⟨next, gone, -1, (ndOf A node).head, kind⟩ := by rw [<- hA]; exact qz4b rfl
 have hn1 : ∀ i : Int, 0 <= i -> ndOf A' i = if i = node then { ndOf A node with head := (A.vers.length : Int) } else ndOf A i := fun i a => by rw [<- hA]; exact qz5x h0 h1 a
 have hl : A'.vers.length = A.vers.length + 1 := by rw [<- hA]; simp
 have hln : A'.nodes.length = A.nodes.length := by rw [<- hA]; simp
 have hg : A'.guides = A.guides := by rw [<- hA]
 refine ⟨by rw [<- hA]; exact P.swap h0 h1 hz hn hk, ⟨fun i a b e => ?_, ?_⟩, by omega, by omega, fun i a b => by rw [hv1 i a b], fun n n1 n2 hb L => ⟨fun i a b => ?_, by rw [hg]; exact L.guides, ?_⟩, ?_⟩
 ·by_cases ei : i = (A.vers.length : Int)
  ·subst ei; rw [hv2] at e ⊢; exact hp e
  ·rw [hv1 i a (by omega)] at e ⊢; exact X.put i a (by omega) e
 ·rw [hn1 0 (Int.le_refl _)]
  split
  ·rename_i e; rw [hv2]; intro hh; exact hd hh e.symm
  ·have hd := (P.node 0 (Int.le_refl _) (by have := P.nl; omega)).hd
   rw [hv1 _ hd.1 hd.2]; exact X.head
 ·by_cases ei : i = (A.vers.length : Int)
  ·subst ei; rw [hv2]; exact fun e => hb (Or.inl e.symm)
  ·rw [hv1 i a (by omega)]; exact L.vers i a (by omega)
 ·rw [hn1 n (by omega), if_neg (fun e => hb (Or.inr e))]
  have hd := (P.node n (by omega) n2).hd
  rw [hv1 _ hd.1 hd.2]; exact L.kind
 ·rw [<- hA]; exact qzc3
theorem Chg.make {next key value : Int} (hy : (A.nodes.length : Int) < y) (hz : (A.vers.length : Int) < z) (hn : next = -1 ∨ (1 <= next /\ next < (A.nodes.length : Int))) (hk : 0 <= key /\ key <= 63) (hv : 0 <= value /\ value <= 9999) :
  Chg x y z u A { A with vers := A.vers ++ [⟨next, false, 0, -1, 0⟩], nodes := A.nodes ++ [⟨key, value, (A.vers.length : Int)⟩] } (fun n => n = next) /\ qz8a { A with vers := A.vers ++ [⟨next, false, 0, -1, 0⟩], nodes := A.nodes ++ [⟨key, value, (A.vers.length : Int)⟩] } (A.nodes.length : Int) := by
 generalize hA : ({ A with vers := A.vers ++ [⟨next, false, 0, -1, 0⟩], nodes := A.nodes ++ [⟨key, value, (A.vers.length : Int)⟩] } : Ar) = A'
 have hv1 : ∀ i : Int, 0 <= i -> i < (A.vers.length : Int) -> vrOf A' i = vrOf A i := fun i a b => by rw [<- hA]; exact qz5h a b
 have hv2 : vrOf A' (A.vers.length : Int) = ⟨next, false, 0, -1, 0⟩ := by rw [<- hA]; exact qz4b rfl
 have hn1 : ∀ i : Int, 0 <= i -> i < (A.nodes.length : Int) -> ndOf A' i = ndOf A i := fun i a b => by rw [<- hA]; exact qz5h a b
 have hn2 : ndOf A' (A.nodes.length : Int) = ⟨key, value, (A.vers.length : Int)⟩ := by rw [<- hA]; exact qz4b rfl
 have hl : A'.vers.length = A.vers.length + 1 := by rw [<- hA]; simp
 have hln : A'.nodes.length = A.nodes.length + 1 := by rw [<- hA]; simp
 have hg : A'.guides = A.guides := by rw [<- hA]
 refine ⟨⟨by rw [<- hA]; exact P.make hy hz hn hk hv, ⟨fun i a b e => ?_, ?_⟩, by omega, by omega, fun i a b => by rw [hv1 i a b], fun n n1 n2 hb L => ⟨fun i a b => ?_, by rw [hg]; exact L.guides, ?_⟩, ?_⟩, ⟨fun i a b => ?_, ?_, ?_⟩⟩
 ·by_cases ei : i = (A.vers.length : Int)
  ·subst ei; rw [hv2] at e; simp at e
  ·rw [hv1 i a (by omega)] at e ⊢; exact X.put i a (by omega) e
 ·have hd := (P.node 0 (Int.le_refl _) (by have := P.nl; omega)).hd
  rw [hn1 0 (Int.le_refl _) (by have := P.nl; omega), hv1 _ hd.1 hd.2]; exact X.head
 ·by_cases ei : i = (A.vers.length : Int)
  ·subst ei; rw [hv2]; exact fun e => hb e.symm
  ·rw [hv1 i a (by omega)]; exact L.vers i a (by omega)
 ·have hd := (P.node n (by omega) n2).hd
  rw [hn1 n (by omega) n2, hv1 _ hd.1 hd.2]; exact L.kind
 ·rw [<- hA]; exact qzc3
 ·by_cases ei : i = (A.vers.length : Int)
  ·subst ei; rw [hv2]; simp only; omega
  ·rw [hv1 i a (by omega)]; have := (P.ver i a (by omega)).nx; omega
 ·rw [hg]; intro g hg'; have := P.guide g hg'; omega
 ·rw [hn2]; simp only; rw [hv2]; simp
theorem Chg.setG {k : Nat} {v : Int} (hv : 0 <= v /\ v < (A.nodes.length : Int)) : Chg x y z u A { A with guides := A.guides.set k v } (fun n => n = v) :=
 ⟨P.setG hv, ⟨X.put, X.head⟩, Nat.le_refl _, Nat.le_refl _, fun _ _ _ => rfl, fun n _ _ hb L => ⟨L.vers, fun g hg => by
  rcases qz63 hg with rfl | h
  ·exact fun e => hb e.symm
  ·exact L.guides g h, L.kind⟩, Nat.le_refl _⟩
theorem Chg.setS {k : Nat} {v : Int} (hv : -1 <= v /\ v <= 100) : Chg x y z u A { A with slots := A.slots.set k v } (fun _ => False) :=
 ⟨P.setS hv, ⟨X.put, X.head⟩, Nat.le_refl _, Nat.le_refl _, fun _ _ _ => rfl, fun n _ _ hb L => ⟨L.vers, L.guides, L.kind⟩, Nat.le_refl _⟩
theorem Chg.tick (h : A.camera < 100) : Chg x y z u A { A with camera := A.camera + 1 } (fun _ => False) :=
 ⟨P.tick h, ⟨X.put, X.head⟩, Nat.le_refl _, Nat.le_refl _, fun _ _ _ => rfl, fun n _ _ hb L => ⟨L.vers, L.guides, L.kind⟩, Nat.le_refl _⟩
end
def qzct (d : Dd) : Bool := inB d.kind 1 2 && inB d.key 0 63 && inB d.value 0 9999 && inB d.stamp 0 100 && inB d.clock 0 20000
structure qz1x (x y z u : Int) (A : Ar) (h : Hd) (A' : Ar) (h' : Hd) (d : Dd) (tk : Bool) : Prop where
 ar : ArP x y z u A'
 ax : AX A'
 hp : HP A' h'
 nn : A.nodes.length <= A'.nodes.length
 nv : A.vers.length <= A'.vers.length
 kinds : ∀ v : Int, 0 <= v -> v < (A.vers.length : Int) -> (vrOf A' v).kind = (vrOf A v).kind
 lone : ∀ n : Int, 1 <= n -> n < (A.nodes.length : Int) -> qz8a A n -> Far h n -> (h.new_ = n -> Priv h') -> qz8a A' n
 far : ∀ n : Int, 1 <= n -> n < (A.nodes.length : Int) -> qz8a A n -> Far h n -> Far h' n
 new : (NewS h h' /\ (Priv h' -> Priv h)) ∨ (h'.new_ = (A.nodes.length : Int) /\ qz8a A' h'.new_ /\ Far h' h'.new_)
 cam : A'.camera = A.camera + (if tk then 1 else 0)
 deed : d.kind ≠ 0 -> qzct d = true
 cnt : stN A + (if d.kind ≠ 0 then 1 else 0) <= stN A'
theorem cam0 (a : Int) : a = a + (if false = true then 1 else 0) := by simp
theorem qz1r {h h' : Hd} (hn : NewS h h') (ha : ¬ (h.then_ = 4 /\ 3 <= h.at_ /\ h.at_ <= 5)) (h10 : h.at_ ≠ 10) : Priv h' -> Priv h := fun p => ⟨by have := p.1; rcases hn with e | e <;> omega, ha, h10⟩
theorem qz1x.of {x y z u : Int} {A A' : Ar} {h h' : Hd} {bad : Int -> Prop} (C : Chg x y z u A A' bad) (hp : HP A' h') (hbad : ∀ n : Int, 1 <= n -> n < (A.nodes.length : Int) -> qz8a A n -> Far h n -> (h.new_ = n -> Priv h') -> ¬ bad n)
  (hfar : ∀ n : Int, 1 <= n -> n < (A.nodes.length : Int) -> qz8a A n -> Far h n -> Far h' n) (hnew : NewS h h') (hpr : Priv h' -> Priv h) {tk : Bool} (hc : A'.camera = A.camera + (if tk then 1 else 0)) : qz1x x y z u A h A' h' qz3j tk :=
 ⟨C.ar, C.ax, hp, C.nn, C.nv, C.kinds, fun n a b L F p => C.lone n a b (hbad n a b L F p) L, hfar, Or.inl ⟨hnew, hpr⟩, hc, fun hk => absurd rfl hk, C.cnt⟩
section
variable {x y z u : Int} {A : Ar} {h : Hd} (P : ArP x y z u A) (X : AX A) (H : HP A h)
include P X H
theorem qzcn (key : Int) : 0 <= qz4c x y z u A key /\ qz4c x y z u A key < (A.nodes.length : Int) /\ ∀ n : Int, 1 <= n -> qz8a A n -> qz4c x y z u A key ≠ n := by
 have hn := P.nl
 unfold qz4c
 split
 ·rename_i e
  have hg : (qz40 x y z u key).toNat < A.guides.length := by
   have hp := P.pl
   have := (qz28 x y z u).1 hp
   have hgl := P.gl
   have e1 := e.1
   unfold qz40 at e1 ⊢
   split at e1
   ·rename_i hh
    rw [if_pos hh]
    simp only [Bool.and_eq_true, qz1b] at hh
    have : key * u / 64 <= u - 1 + 1 := by
     have : key * u <= 64 * u := by
      have := Int.mul_le_mul_of_nonneg_right (show key <= 64 by omega) (show 0 <= u by omega)
      exact this
     have := Int.ediv_le_ediv (show (0:Int) < 64 by omega) this
     rw [Int.mul_ediv_cancel_left u (by omega)] at this
     omega
    omega
   ·omega
  have hm := qzaw (d := 0) hg
  have := P.guide _ hm
  exact ⟨this.1, this.2, fun n _ L => L.guides _ hm⟩
 ·exact ⟨Int.le_refl _, by omega, fun n a _ => by omega⟩
theorem qzbo (me clock : Int) (hck : 0 <= clock /\ clock <= 20000) (h2 : 2 <= h.at_) (h5 : h.at_ <= 5) : qz1x x y z u A h (qz22 A h qz3j clock).1 (qz22 A h qz3j clock).2.1 (qz22 A h qz3j clock).2.2 false := by
 have hc := H.call (by omega)
 have hcam := P.cam
 have H' := H
 obtain ⟨f0, f1, f2, f3, f4, f5, f6, f7, f8, f9, f10, f11, f12, f13, f14, k0, k1, k2, k3, k4, k5, k6, c, dl, n0, l, m, t⟩ := H'
 have hv := P.ver h.ver k4.1 k4.2
 have hon : ∀ {A' : Ar}, ArP x y z u A' -> HP A' h -> 3 <= h.at_ -> HP A' (onH A' h) := fun P' H' h3 => qzdo P' H' ⟨h3, h5⟩
 unfold qz22
 split
 ·rename_i e
  have hd := (P.node h.x_ k0.1 k0.2).hd
  refine qz1x.of (Chg.same P X (fun _ => False)) ?_ (fun _ _ _ _ _ _ h => h) (by exact fun n _ _ _ F => ⟨F.pred, F.curr, F.x⟩) (by exact Or.inl rfl) (by exact qz1r (h := h) (Or.inl rfl) (by omega) (by omega)) (cam0 _)
  constructor <;> dsimp only <;> first | assumption | omega | (intro _; exact hc) | skip
  intro _ _ e2 e3
  rw [e3] at e2
  exact X.head e2
 split
 ·split
  ·refine qz1x.of (Chg.same P X (fun _ => False)) (hon P H (by omega)) (fun _ _ _ _ _ _ h => h) (fun n a _ L F => qzck F a (L.vers _ k4.1 k4.2)) qz9o ?_ (cam0 _)
   intro p
   refine qz1r qz9o (fun e => ?_) (by omega) p
   exact p.2.2 (qz7d e.1)
  ·refine qz1x.of (Chg.same P X (fun _ => False)) ?_ (fun _ _ _ _ _ _ h => h) (by exact fun n _ _ _ F => ⟨F.pred, F.curr, F.x⟩) (by exact Or.inl rfl) ?_ (cam0 _)
   ·constructor <;> dsimp only <;> first | assumption | omega | (intro _; exact hc) | (intro _ _; exact dl (by omega) (by omega))
   ·intro p
    refine qz1r (h' := { h with at_ := 4 }) (Or.inl rfl) (fun e => p.2.1 ⟨e.1, by dsimp only; omega⟩) (by omega) p
 split
 ·refine qz1x.of (Chg.same P X (fun _ => False)) ?_ (fun _ _ _ _ _ _ h => h) (by exact fun n _ _ _ F => ⟨F.pred, F.curr, F.x⟩) (by exact Or.inl rfl) ?_ (cam0 _)
  ·constructor <;> dsimp only <;> first | assumption | omega | (intro _; exact hc) | (intro _ _; exact dl (by omega) (by omega))
  ·intro p
   refine qz1r (h' := { h with cam := A.camera, camAt := clock, at_ := 5 }) (Or.inl rfl) (fun e => p.2.1 ⟨e.1, by dsimp only; omega⟩) (by omega) p
 split
 ·split
  ·refine qz1x.of (Chg.same P X (fun _ => False)) (hon P H (by omega)) (fun _ _ _ _ _ _ h => h) (fun n a _ L F => qzck F a (L.vers _ k4.1 k4.2)) qz9o ?_ (cam0 _)
   intro p
   refine qz1r qz9o (fun e => ?_) (by omega) p
   exact p.2.2 (qz7d e.1)
  ·rename_i hst
   have hun : (vrOf A h.ver).stamp = -1 := by
    simp only [qz2x, Bool.and_eq_true, qz1b, bne_iff_ne, ne_eq, not_and, Decidable.not_not] at hst
    exact hst (by omega)
   have C := Chg.setV P X (k := h.ver) (v := { vrOf A h.ver with stamp := min h.cam A.camera }) k4.1 k4.2 ⟨hv.nx, by dsimp only; omega, hv.pv, hv.kd⟩ rfl (X.put h.ver k4.1 k4.2) (fun e => absurd hun e)
   have hself : vrOf (qz4x A h) h.ver = { vrOf A h.ver with stamp := min h.cam A.camera } := by
    refine (qz5x k4.1 k4.2 k4.1).trans (if_pos rfl)
   have hs := H.stay C.nn C.nv C.kinds
   have hkind : (qz45 (qz4x A h) h).kind = (vrOf A h.ver).kind := by
    unfold qz45
    rw [hself]
    dsimp only
    split
    ·rename_i e; rw [e]; rfl
    ·rfl
   refine ⟨C.ar, C.ax, hon C.ar hs (by omega), C.nn, C.nv, C.kinds, fun n a b L F p => ?_, fun n a b L F => ?_, Or.inl ⟨qz9o, ?_⟩, by simp [qz4x], fun hk => ?_, ?_⟩
   ·exact C.lone n a b (fun e => L.vers h.ver k4.1 k4.2 e.symm) L
   ·refine qzck F a ?_
    rw [hself]
    exact L.vers h.ver k4.1 k4.2
   ·intro p
    refine qz1r qz9o (fun e => ?_) (by omega) p
    exact p.2.2 (qz7d e.1)
   ·have hk0 := hk
    rw [hkind] at hk
    have hn2 : 1 <= qzam (qz4x A h) h /\ qzam (qz4x A h) h < (A.nodes.length : Int) := by
     unfold qzam
     rw [hself]
     dsimp only
     split
     ·rename_i e
      have := X.put h.ver k4.1 k4.2 e
      have := hv.nx
      omega
     ·have := hv.kd
      have := dl (by omega) (by omega) (by omega)
      omega
    have hnd := P.node _ (by omega) hn2.2
    have hnd' : ndOf (qz4x A h) (qzam (qz4x A h) h) = ndOf A (qzam (qz4x A h) h) := rfl
    have := hnd.k1 (by omega)
    have := hnd.v1
    have := hv.kd
    unfold qz45
    rw [if_neg (by rw [hself]; exact hk)]
    rw [hself, hnd']
    simp only [qzct, Bool.and_eq_true, qz1b]
    omega
   ·rw [hkind]
    have := qzc0 (A := A) (v := { vrOf A h.ver with stamp := min h.cam A.camera }) k4.1 k4.2
    have e2 : min h.cam A.camera ≠ -1 := by omega
    show _ <= (A.vers.set h.ver.toNat _).countP _
    rw [if_neg (fun h => h hun), if_pos e2] at this
    split <;> omega
 ·omega
end
section
variable {x y z u : Int} {A : Ar} {h : Hd} (P : ArP x y z u A) (X : AX A) (H : HP A h)
include P X H
theorem qz59 {node v next : Int} {gone : Bool} {kind : Int} (h0 : 0 <= node) (h1 : node < (A.nodes.length : Int)) (hn : next = -1 ∨ (1 <= next /\ next < (A.nodes.length : Int))) (hk : 0 <= kind /\ kind <= 2) (hp : kind = 1 -> 1 <= next) (hd : kind = 2 -> node ≠ 0) :
  (qz1d z A node v next gone kind = (A, -2) ∨ qz1d z A node v next gone kind = (A, -1)) ∨ (∃ A', qz1d z A node v next gone kind = (A', (A.vers.length : Int)) /\ Chg x y z u A A' (fun n => n = next ∨ n = node) /\ A'.camera = A.camera /\ A'.vers.length = A.vers.length + 1 /\ A'.nodes.length = A.nodes.length /\ (vrOf A' (A.vers.length : Int)).kind = kind) := by
 unfold qz1d
 split
 ·exact Or.inl (Or.inl rfl)
 ·split
  ·exact Or.inl (Or.inr rfl)
  ·rename_i e1 e2
   have e2 : (ndOf A node).head = v := Decidable.not_not.1 e2
   subst e2
   exact Or.inr ⟨_, rfl, Chg.swap P X h0 h1 (by omega) hn hk hp hd, rfl, by simp, by simp, congrArg Vr.kind (qz4b (l := A.vers) rfl)⟩
theorem qzbi (ha : h.at_ = 1 ∨ h.at_ = 6) : qz1x x y z u A h (qz20 x y z u A h).1 (qz20 x y z u A h).2 qz3j false := by
 have hc := H.call (by omega)
 have hsi := qzcn P X H h.key
 have H' := H
 obtain ⟨f0, f1, f2, f3, f4, f5, f6, f7, f8, f9, f10, f11, f12, f13, f14, k0, k1, k2, k3, k4, k5, k6, c, dl, n0, l, m, t⟩ := H'
 unfold qz20
 split
 ·refine qz1x.of (Chg.same P X (fun _ => False)) ?_ (fun _ _ _ _ _ _ h => h) (by exact fun n a _ L F => ⟨F.pred, F.curr, fun e => absurd e (hsi.2.2 n a L)⟩) (by exact Or.inl rfl) (by exact qz1r (h := h) (Or.inl rfl) (by omega) (by omega)) (cam0 _)
  have := hsi.1
  have := hsi.2.1
  constructor <;> dsimp only <;> first | assumption | omega | (intro _; exact hc)
 ·have e6 : h.at_ = 6 := by omega
  have t2 := t e6
  have hnx := (P.ver h.currVer k6.1 k6.2).nx
  rcases qz59 P X H (v := h.predVer) (gone := false) k1.1 k1.2 hnx (show (0:Int) <= 0 /\ (0:Int) <= 2 by omega) (by omega) (by omega) with (e | e) | ⟨A', e, C, cc, lv, ln, kk⟩
  ·rw [e]
   dsimp only
   rw [if_pos rfl]
   exact qz1x.of (Chg.same P X (fun _ => False)) (HP.rest P.nl.1 P.vl.1 (by omega) (by omega) (by omega) f11) (fun _ _ _ _ _ _ h => h) (fun n a _ _ _ => Far.rest a) (Or.inr rfl) (qz1r (Or.inr rfl) (by omega) (by omega)) (cam0 _)
  ·rw [e]
   dsimp only
   rw [if_neg (by omega), if_pos rfl]
   refine qz1x.of (Chg.same P X (fun _ => False)) ?_ (fun _ _ _ _ _ _ h => h) (by exact fun n a _ L F => ⟨F.pred, F.curr, F.x⟩) (by exact Or.inl rfl) (by exact qz1r (h := h) (Or.inl rfl) (by omega) (by omega)) (cam0 _)
   constructor <;> dsimp only <;> first | assumption | omega | (intro _; exact hc)
  ·rw [e]
   dsimp only
   rw [if_neg (by omega), if_neg (by omega)]
   refine qz1x.of C ?_ (fun n a b L F _ hb => ?_) (by exact fun n a _ L F => ⟨F.pred, F.curr, fun e => by have := F.x e; omega⟩) (by exact Or.inl rfl) (by exact qz1r (h := h) (Or.inl rfl) (by omega) (by omega)) (by rw [cc]; exact cam0 _)
   ·constructor <;> dsimp only <;> first | assumption | omega | (intro _; exact hc)
   ·rcases hb with hb | hb
    ·exact L.vers h.currVer k6.1 k6.2 hb.symm
    ·exact F.pred hb.symm
theorem qzbf : aimI h = -1 ∨ (1 <= aimI h /\ aimI h < (A.nodes.length : Int) /\ aimI h = h.curr) := by
 have := H.k2
 unfold aimI
 split <;> omega
theorem qzay : qz37 y z A h = (A, qzb h 5 0 0) ∨ ∃ A', qz37 y z A h = (A', { h with new_ := (A.nodes.length : Int), at_ := 9 }) /\ Chg x y z u A A' (fun n => n = aimI h) /\ qz8a A' (A.nodes.length : Int) /\ A'.camera = A.camera /\ A'.vers.length = A.vers.length + 1 /\ A'.nodes.length = A.nodes.length + 1 := by
 have haim := qzbf P X H
 have := H.f4
 have := H.f5
 unfold qz37
 split
 ·exact Or.inl rfl
 ·rename_i hroom
  obtain ⟨C, L⟩ := Chg.make P X (next := aimI h) (key := max h.key 0) (value := h.value) (by omega) (by omega) (by omega) (by omega) H.f5
  exact Or.inr ⟨_, rfl, C, L, rfl, by simp, by simp⟩
theorem qzba (e7 : h.at_ = 7) : qz1x x y z u A h (qz37 y z A h).1 (qz37 y z A h).2 qz3j false := by
 have hc := H.call (by omega)
 have haim := qzbf P X H
 have hnl := P.nl
 rcases qzay P X H with e | ⟨A', e, C, L, cc, lv, ln⟩
 ·rw [e]
  exact qz1x.of (Chg.same P X (fun _ => False)) (HP.rest P.nl.1 P.vl.1 (by omega) (by omega) (by omega) H.f11) (fun _ _ _ _ _ _ h => h) (fun n a _ _ _ => Far.rest a) (Or.inr rfl) (qz1r (Or.inr rfl) (by omega) (by omega)) (cam0 _)
 ·rw [e]
  have H' := H
  obtain ⟨f0, f1, f2, f3, f4, f5, f6, f7, f8, f9, f10, f11, f12, f13, f14, k0, k1, k2, k3, k4, k5, k6, c, dl, n0, l, m, t⟩ := H'
  refine ⟨C.ar, C.ax, ?_, C.nn, C.nv, C.kinds, fun n a b L' F _ => C.lone n a b (fun hb => ?_) L', fun n a b L F => ⟨F.pred, F.curr, F.x⟩, Or.inr ⟨rfl, L, ?_⟩, by rw [cc]; exact cam0 _, fun hk => absurd rfl hk, C.cnt⟩
  ·constructor <;> dsimp only <;> first | assumption | omega | (intro _; exact hc)
  ·have hb' : n = aimI h := hb
   have := F.curr
   omega
  ·exact ⟨by dsimp only; omega, by dsimp only; omega, fun e => by dsimp only at e; omega⟩
theorem qzcc (own : Priv h -> qz8a A h.new_) (e8 : h.at_ = 8) : qz1x x y z u A h (if 0 <= h.new_ then { A with vers := A.vers.set (ndOf A h.new_).head.toNat { vrOf A (ndOf A h.new_).head with next := aimI h } } else A) { h with at_ := 9 } qz3j false := by
 have hc := H.call (by omega)
 have haim := qzbf P X H
 have hnew := H.lnk (Or.inl e8)
 have hpr : Priv h := ⟨hnew, by omega, by omega⟩
 have L := own hpr
 have hd := (P.node h.new_ (by omega) H.k3.2).hd
 have hv := P.ver _ hd.1 hd.2
 rw [if_pos (by omega)]
 have C := Chg.setV P X (k := (ndOf A h.new_).head) (v := { vrOf A (ndOf A h.new_).head with next := aimI h }) hd.1 hd.2 ⟨by dsimp only; omega, hv.st, hv.pv, hv.kd⟩ rfl (fun e => absurd e L.kind) (fun e => e)
 have cc : ({ A with vers := A.vers.set (ndOf A h.new_).head.toNat { vrOf A (ndOf A h.new_).head with next := aimI h } } : Ar).camera = A.camera := rfl
 dsimp only at C
 generalize ({ A with vers := A.vers.set (ndOf A h.new_).head.toNat { vrOf A (ndOf A h.new_).head with next := aimI h } } : Ar) = A' at C cc ⊢
 have hs := H.stay C.nn C.nv C.kinds
 obtain ⟨g0, g1, g2, g3, g4, g5, g6, g7, g8, g9, g10, g11, g12, g13, g14, j0, j1, j2, j3, j4, j5, j6, c', dl', n0', l', m', t'⟩ := hs
 refine qz1x.of C ?_ (fun n a b L F _ hb => ?_) (by exact fun n a _ L F => ⟨F.pred, F.curr, F.x⟩) (by exact Or.inl rfl) (by exact qz1r (h := h) (Or.inl rfl) (by omega) (by omega)) (by rw [cc]; exact cam0 _)
 ·constructor <;> dsimp only <;> first | assumption | omega | (intro _; exact hc)
 ·have hb' : n = aimI h := hb
  have := F.curr
  omega
theorem qz98 (own : Priv h -> qz8a A h.new_) (ha : 7 <= h.at_ /\ h.at_ <= 12) : qz1x x y z u A h (qzx x y z u A h).1 (qzx x y z u A h).2 qz3j false := by
 have hc := H.call (by omega)
 have haim := qzbf P X H
 have H' := H
 obtain ⟨f0, f1, f2, f3, f4, f5, f6, f7, f8, f9, f10, f11, f12, f13, f14, k0, k1, k2, k3, k4, k5, k6, c, dl, n0, l, m, t⟩ := H'
 have hnl := P.nl
 have hvl := P.vl
 have hnx := (P.ver h.currVer k6.1 k6.2).nx
 unfold qzx
 split
 ·exact qzba P X H (by assumption)
 split
 ·exact qzcc P X H own (by assumption)
 split
 ·rename_i e9
  have hnew := l (Or.inr e9)
  have hni : newI h = h.new_ := by unfold newI; rw [if_neg (by omega)]
  rw [hni]
  rcases qz59 P X H (v := h.predVer) (next := h.new_) (gone := false) k1.1 k1.2 (by omega) (show (0:Int) <= 1 /\ (1:Int) <= 2 by omega) (by omega) (by omega) with (e | e) | ⟨A', e, C, cc, lv, ln, kk⟩
  ·rw [e]
   exact qz1x.of (Chg.same P X (fun _ => False)) (HP.rest P.nl.1 P.vl.1 (by omega) (by omega) (by omega) f11) (fun _ _ _ _ _ _ h => h) (fun n a _ _ _ => Far.rest a) (Or.inr rfl) (qz1r (Or.inr rfl) (by omega) (by omega)) (cam0 _)
  ·rw [e]
   refine qz1x.of (h' := { h with at_ := 1 }) (Chg.same P X (fun _ => False)) ?_ (fun _ _ _ _ _ _ h => h) (by exact fun n a _ L F => ⟨F.pred, F.curr, F.x⟩) (by exact Or.inl rfl) (by exact qz1r (h := h) (Or.inl rfl) (by omega) (by omega)) (cam0 _)
   constructor <;> dsimp only <;> first | assumption | omega | (intro _; exact hc)
  ·rw [e]
   dsimp only
   rw [show qz6i (A.vers.length : Int) h h.pred 4 = { h with ver := (A.vers.length : Int), x_ := h.pred, then_ := 4, at_ := 3 } by unfold qz6i; rw [if_neg (by omega), if_neg (by omega)]]
   refine qz1x.of C ?_ (fun n a b L F p hb => ?_) (by exact fun n a _ L F => ⟨F.pred, F.curr, fun e => absurd e F.pred⟩) (by exact Or.inl rfl) (by exact qz1r (h := h) (Or.inl rfl) (by omega) (by omega)) (by rw [cc]; exact cam0 _)
   ·constructor <;> dsimp only <;> first | assumption | omega | (intro _; exact hc)
   ·rcases hb with hb | hb
    ·exact (p hb.symm).2.1 ⟨rfl, by dsimp only; omega⟩
    ·exact F.pred hb.symm
 split
 ·split
  ·rename_i hg
   refine qz1x.of (Chg.setG P X (k := (qz43 x y z u h.key).toNat) (v := h.new_) (by omega)) (HP.rest (A := { A with guides := A.guides.set (qz43 x y z u h.key).toNat h.new_ }) P.nl.1 P.vl.1 (by omega) (by omega) (by omega) f11) (fun n a b L F p hb => ?_) (fun n a _ _ _ => Far.rest a) (Or.inr rfl) (fun p => by have := p.1; simp only [qzb] at this; omega) (cam0 _)
   have := (p hb.symm).1
   simp only [qzb] at this
   omega
  ·exact qz1x.of (Chg.same P X (fun _ => False)) (HP.rest P.nl.1 P.vl.1 (by omega) (by omega) (by omega) f11) (fun _ _ _ _ _ _ h => h) (fun n a _ _ _ => Far.rest a) (Or.inr rfl) (fun p => by have := p.1; simp only [qzb] at this; omega) (cam0 _)
 split
 ·rename_i e11
  have hcu := m e11
  have hmx : max h.curr 0 = h.curr := by omega
  rw [hmx]
  rcases qz59 P X H (node := h.curr) (v := h.currVer) (gone := true) (by omega) k2.2 hnx (show (0:Int) <= 2 /\ (2:Int) <= 2 by omega) (by omega) (by omega) with (e | e) | ⟨A', e, C, cc, lv, ln, kk⟩
  ·rw [e]
   exact qz1x.of (Chg.same P X (fun _ => False)) (HP.rest P.nl.1 P.vl.1 (by omega) (by omega) (by omega) f11) (fun _ _ _ _ _ _ h => h) (fun n a _ _ _ => Far.rest a) (Or.inr rfl) (qz1r (Or.inr rfl) (by omega) (by omega)) (cam0 _)
  ·rw [e]
   refine qz1x.of (h' := { h with at_ := 1 }) (Chg.same P X (fun _ => False)) ?_ (fun _ _ _ _ _ _ h => h) (by exact fun n a _ L F => ⟨F.pred, F.curr, F.x⟩) (by exact Or.inl rfl) (by exact qz1r (h := h) (Or.inl rfl) (by omega) (by omega)) (cam0 _)
   constructor <;> dsimp only <;> first | assumption | omega | (intro _; exact hc)
  ·rw [e]
   dsimp only
   rw [show qz6i (A.vers.length : Int) h h.curr 5 = { h with ver := (A.vers.length : Int), x_ := h.curr, then_ := 5, at_ := 3 } by unfold qz6i; rw [if_neg (by omega), if_neg (by omega)]]
   refine qz1x.of C ?_ (fun n a b L F p hb => ?_) (by exact fun n a _ L F => ⟨F.pred, F.curr, fun e => absurd e F.curr⟩) (by exact Or.inl rfl) (by exact qz1r (h := h) (Or.inl rfl) (by omega) (by omega)) (by rw [cc]; exact cam0 _)
   ·constructor <;> dsimp only <;> first | assumption | omega | (intro _; exact hc)
   ·rcases hb with hb | hb
    ·exact L.vers h.currVer k6.1 k6.2 hb.symm
    ·exact F.curr hb.symm
 split
 ·rcases qz59 P X H (v := h.predVer) (gone := false) k1.1 k1.2 hnx (show (0:Int) <= 0 /\ (0:Int) <= 2 by omega) (by omega) (by omega) with (e | e) | ⟨A', e, C, cc, lv, ln, kk⟩
  ·rw [e]
   exact qz1x.of (Chg.same P X (fun _ => False)) (HP.rest P.nl.1 P.vl.1 (by omega) (qzcz P (by omega) (by omega)) (by omega) f11) (fun _ _ _ _ _ _ h => h) (fun n a _ _ _ => Far.rest a) (Or.inr rfl) (qz1r (Or.inr rfl) (by omega) (by omega)) (cam0 _)
  ·rw [e]
   exact qz1x.of (Chg.same P X (fun _ => False)) (HP.rest P.nl.1 P.vl.1 (by omega) (qzcz P (by omega) (by omega)) (by omega) f11) (fun _ _ _ _ _ _ h => h) (fun n a _ _ _ => Far.rest a) (Or.inr rfl) (qz1r (Or.inr rfl) (by omega) (by omega)) (cam0 _)
  ·rw [e]
   refine qz1x.of C (HP.rest C.ar.nl.1 C.ar.vl.1 (by omega) (qzcz C.ar (by omega) (by omega)) (by omega) f11) (fun n a b L F p hb => ?_) (fun n a _ _ _ => Far.rest a) (Or.inr rfl) (qz1r (Or.inr rfl) (by omega) (by omega)) (by rw [cc]; exact cam0 _)
   rcases hb with hb | hb
   ·exact L.vers h.currVer k6.1 k6.2 hb.symm
   ·exact F.pred hb.symm
 ·omega
end
section
variable {x y z u : Int} {A : Ar} {h : Hd} (P : ArP x y z u A) (X : AX A) (H : HP A h)
include P X H
theorem qz8g (me : Int) (ha : 13 <= h.at_ /\ h.at_ <= 18) : qz1x x y z u A h (qzo A h me false).1 (qzo A h me false).2.1 qz3j (qzo A h me false).2.2 := by
 have hc := H.call (by omega)
 have hcam := P.cam
 have H' := H
 obtain ⟨f0, f1, f2, f3, f4, f5, f6, f7, f8, f9, f10, f11, f12, f13, f14, k0, k1, k2, k3, k4, k5, k6, c, dl, n0, l, m, t⟩ := H'
 unfold qzo
 split
 ·refine qz1x.of (Chg.same P X (fun _ => False)) ?_ (fun _ _ _ _ _ _ h => h) (by exact fun n a _ L F => ⟨F.pred, F.curr, F.x⟩) (by exact Or.inl rfl) (by exact qz1r (h := h) (Or.inl rfl) (by omega) (by omega)) (cam0 _)
  constructor <;> dsimp only <;> first | assumption | omega | (intro _; exact hc)
 split
 ·refine qz1x.of (Chg.setS P X (by omega)) ?_ (fun _ _ _ _ _ _ h => h) (by exact fun n a _ L F => ⟨F.pred, F.curr, F.x⟩) (by exact Or.inl rfl) (by exact qz1r (h := h) (Or.inl rfl) (by omega) (by omega)) (cam0 _)
  constructor <;> dsimp only <;> first | assumption | omega | (intro _; exact hc)
 split
 ·split
  ·refine qz1x.of (Chg.same P X (fun _ => False)) ?_ (fun _ _ _ _ _ _ h => h) (by exact fun n a _ L F => ⟨F.pred, F.curr, F.x⟩) (by exact Or.inl rfl) (by exact qz1r (h := h) (Or.inl rfl) (by omega) (by omega)) (cam0 _)
   constructor <;> dsimp only <;> first | assumption | omega | (intro _; exact hc)
  ·refine qz1x.of (Chg.same P X (fun _ => False)) ?_ (fun _ _ _ _ _ _ h => h) (by exact fun n a _ L F => ⟨F.pred, F.curr, F.x⟩) (by exact Or.inl rfl) (by exact qz1r (h := h) (Or.inl rfl) (by omega) (by omega)) (cam0 _)
   constructor <;> dsimp only <;> first | assumption | omega | (intro _; exact hc)
 split
 ·split
  ·rename_i e
   exact qz1x.of (Chg.tick P X (by omega)) (HP.rest (A := { A with camera := A.camera + 1 }) P.nl.1 P.vl.1 (by omega) (by omega) (by omega) (by dsimp only; omega)) (fun _ _ _ _ _ _ h => h) (fun n a _ _ _ => Far.rest a) (Or.inr rfl) (qz1r (Or.inr rfl) (by omega) (by omega)) (by simp)
  ·exact qz1x.of (Chg.same P X (fun _ => False)) (HP.rest P.nl.1 P.vl.1 (by omega) (by omega) (by omega) (by dsimp only; omega)) (fun _ _ _ _ _ _ h => h) (fun n a _ _ _ => Far.rest a) (Or.inr rfl) (qz1r (Or.inr rfl) (by omega) (by omega)) (cam0 _)
 split
 ·exact qz1x.of (Chg.setS P X (by omega)) ((HP.rest (A := A) (h := h) (rp := 6) (ot := 0) (sm := 0) P.nl.1 P.vl.1 (by omega) (by omega) (by omega) f11).stay (Nat.le_refl _) (Nat.le_refl _) (fun _ _ _ => rfl)) (fun _ _ _ _ _ _ h => h) (by exact fun n a _ _ _ => Far.rest a) (by exact Or.inr rfl) (by exact qz1r (h := h) (Or.inr rfl) (by omega) (by omega)) (cam0 _)
 split
 ·exact qz1x.of (Chg.setS P X (by omega)) ((HP.rest (A := A) (h := { h with held := -1 }) (rp := 4) (ot := 0) (sm := 0) P.nl.1 P.vl.1 (by omega) (by omega) (by omega) (by dsimp only; omega)).stay (Nat.le_refl _) (Nat.le_refl _) (fun _ _ _ => rfl)) (fun _ _ _ _ _ _ h => h) (by exact fun n a _ _ _ => Far.rest a) (by exact Or.inr rfl) (by exact qz1r (h := h) (Or.inr rfl) (by omega) (by omega)) (cam0 _)
 ·omega
theorem qzby (ha : h.at_ = 19) : qz1x x y z u A h A (qz8h A h) qz3j false := by
 have hc := H.call (by omega)
 have hpv := (P.ver h.ver H.k4.1 H.k4.2).pv
 have hk4 := H.k4
 have H2 : 0 <= (vrOf A h.ver).prev -> HP A { h with ver := (vrOf A h.ver).prev } := fun hp => by
  have H' := H
  obtain ⟨f0, f1, f2, f3, f4, f5, f6, f7, f8, f9, f10, f11, f12, f13, f14, k0, k1, k2, k3, k4, k5, k6, c, dl, n0, l, m, t⟩ := H'
  constructor <;> dsimp only <;> first | assumption | omega
 unfold qz8h
 split
 ·exact qz1x.of (Chg.same P X (fun _ => False)) (HP.rest P.nl.1 P.vl.1 (by omega) (by omega) (by omega) H.f11) (fun _ _ _ _ _ _ h => h) (fun n a _ _ _ => Far.rest a) (Or.inr rfl) (qz1r (Or.inr rfl) (by omega) (by omega)) (cam0 _)
 ·rename_i hp
  split
  ·refine qz1x.of (h := h) (Chg.same P X (fun _ => False)) (qzd9 P (H2 (by omega)) (by dsimp only; omega)) (fun _ _ _ _ _ _ h => h) (fun n a _ L F => qzbz ⟨F.pred, F.curr, F.x⟩ a (L.vers _ (by dsimp only; omega) (by dsimp only; omega))) (qzaj (h := { h with ver := (vrOf A h.ver).prev })) (qz1r (h := h) (qzaj (h := { h with ver := (vrOf A h.ver).prev })) (by omega) (by omega)) (cam0 _)
  ·exact qz1x.of (h := h) (Chg.same P X (fun _ => False)) (H2 (by omega)) (fun _ _ _ _ _ _ h => h) (fun n a _ L F => ⟨F.pred, F.curr, F.x⟩) (Or.inl rfl) (qz1r (h := h) (Or.inl rfl) (by omega) (by omega)) (cam0 _)
theorem qzbq (ha : h.at_ = 21) : qz1x x y z u A h A (qz6k A h) qz3j false := by
 have hc := H.call (by omega)
 have hnl := P.nl
 have hl : 0 <= qzau A h /\ qzau A h <= 100 := by
  have := H.f13
  unfold qzau
  split
  ·rename_i e
   have := P.slot _ (qzaw (l := A.slots) (d := 0) (k := h.index.toNat) (by have := H.f14; omega))
   omega
  ·omega
 have H' := H
 obtain ⟨f0, f1, f2, f3, f4, f5, f6, f7, f8, f9, f10, f11, f12, f13, f14, k0, k1, k2, k3, k4, k5, k6, c, dl, n0, l, m, t⟩ := H'
 unfold qz6k
 split
 ·refine qz1x.of (Chg.same P X (fun _ => False)) ?_ (fun _ _ _ _ _ _ h => h) (by exact fun n a _ L F => ⟨F.pred, F.curr, fun _ => rfl⟩) (by exact Or.inl rfl) (by exact qz1r (h := h) (Or.inl rfl) (by omega) (by omega)) (cam0 _)
  constructor <;> dsimp only <;> first | assumption | omega | (intro _; exact hc)
 ·refine qz1x.of (Chg.same P X (fun _ => False)) ?_ (fun _ _ _ _ _ _ h => h) (by exact fun n a _ L F => ⟨F.pred, F.curr, F.x⟩) (by exact Or.inl rfl) (by exact qz1r (h := h) (Or.inl rfl) (by omega) (by omega)) (cam0 _)
  constructor <;> dsimp only <;> first | assumption | omega | (intro _; exact hc)
theorem qzce (ha : h.at_ = 20 ∨ h.at_ = 22 ∨ h.at_ = 23) : qz1x x y z u A h (qz4a A h).1 (qz4a A h).2 qz3j false := by
 have hc := H.call (by omega)
 have hcam := P.cam
 have hv := P.ver h.ver H.k4.1 H.k4.2
 have hpv := hv.pv
 have H' := H
 obtain ⟨f0, f1, f2, f3, f4, f5, f6, f7, f8, f9, f10, f11, f12, f13, f14, k0, k1, k2, k3, k4, k5, k6, c, dl, n0, l, m, t⟩ := H'
 unfold qz4a
 split
 ·refine qz1x.of (Chg.same P X (fun _ => False)) ?_ (fun _ _ _ _ _ _ h => h) (by exact fun n a _ L F => ⟨F.pred, F.curr, F.x⟩) (by exact Or.inl rfl) (by exact qz1r (h := h) (Or.inl rfl) (by omega) (by omega)) (cam0 _)
  constructor <;> dsimp only <;> first | assumption | omega | (intro _; exact hc)
 split
 ·split
  ·exact qz1x.of (Chg.same P X (fun _ => False)) (qzas P H (by omega)) (fun _ _ _ _ _ _ h => h) (fun n a _ L F => qz86 F a) qz5j (qz1r qz5j (by omega) (by omega)) (cam0 _)
  ·split
   ·refine qz1x.of (Chg.same P X (fun _ => False)) ?_ (fun _ _ _ _ _ _ h => h) (by exact fun n a _ L F => ⟨F.pred, F.curr, F.x⟩) (by exact Or.inl rfl) (by exact qz1r (h := h) (Or.inl rfl) (by omega) (by omega)) (cam0 _)
    constructor <;> dsimp only <;> first | assumption | omega | (intro _; exact hc)
   ·refine qz1x.of (Chg.same P X (fun _ => False)) ?_ (fun _ _ _ _ _ _ h => h) (by exact fun n a _ L F => ⟨F.pred, F.curr, F.x⟩) (by exact Or.inl rfl) (by exact qz1r (h := h) (Or.inl rfl) (by omega) (by omega)) (cam0 _)
    constructor <;> dsimp only <;> first | assumption | omega | (intro _; exact hc)
 split
 ·split
  ·exact qz1x.of (Chg.same P X (fun _ => False)) (qzas P H (by omega)) (fun _ _ _ _ _ _ h => h) (fun n a _ L F => qz86 F a) qz5j (qz1r qz5j (by omega) (by omega)) (cam0 _)
  ·have C := Chg.setV P X (k := h.ver) (v := { vrOf A h.ver with prev := -1 }) k4.1 k4.2 ⟨hv.nx, hv.st, by dsimp only; omega, hv.kd⟩ rfl (X.put h.ver k4.1 k4.2) (fun e => e)
   have C' : Chg x y z u A (qz84 A h) (fun n => n = (vrOf A h.ver).next) := C
   have cc : (qz84 A h).camera = A.camera := rfl
   dsimp only
   generalize qz84 A h = A' at C' cc ⊢
   have hs := H.stay C'.nn C'.nv C'.kinds
   have hs2 : HP A' { h with out := min (h.out + 1) 1000000 } := by
    obtain ⟨g0, g1, g2, g3, g4, g5, g6, g7, g8, g9, g10, g11, g12, g13, g14, j0, j1, j2, j3, j4, j5, j6, c', dl', n0', l', m', t'⟩ := hs
    constructor <;> dsimp only <;> first | assumption | omega
   refine qz1x.of (h := h) C' (qzas C'.ar hs2 (by dsimp only; omega)) (fun n a b L F _ hb => L.vers h.ver k4.1 k4.2 hb.symm) (fun n a _ L F => qz86 ⟨F.pred, F.curr, F.x⟩ a) (qz5j (h := { h with out := min (h.out + 1) 1000000 })) (qz1r (h := h) (qz5j (h := { h with out := min (h.out + 1) 1000000 })) (by omega) (by omega)) (by rw [cc]; exact cam0 _)
 ·omega
theorem qzd2 (own : Priv h -> qz8a A h.new_) (me clock : Int) (hck : 0 <= clock /\ clock <= 20000) (h1 : 1 <= h.at_) : qz1x x y z u A h (qz15 x y z u A h qz3j false me clock).1 (qz15 x y z u A h qz3j false me clock).2.1 (qz15 x y z u A h qz3j false me clock).2.2.1 (qz15 x y z u A h qz3j false me clock).2.2.2 := by
 have hf := H.f0
 unfold qz15
 split
 ·exact qzbi P X H (by assumption)
 split
 ·exact qzbo P X H me clock hck (by omega) (by omega)
 split
 ·exact qz98 P X H own (by omega)
 split
 ·exact qz8g P X H me (by omega)
 split
 ·exact qzby P X H (by assumption)
 split
 ·exact qzbq P X H (by assumption)
 ·exact qzce P X H (by omega)
end
end
section
open Go.ChangeShapes Go.WideShapes Go.ChangeAt Go.RowKit Go.Sort
attribute [local go_sem ↓] Go.wp_at_zero Go.wp_at_succ
structure ClP (x : Int) (c : Cl) : Prop where
 pr : inB c.proc 0 (x - 1) = true
 ft : qz2c c.code c.key c.value = true
 bg : inB c.begin 0 20000 = true
 en : inB c.end_ 0 20000 = true
 rp : inB c.reply 0 7 = true
 ot : inB c.out 0 1000000 = true
 sm : inB c.sum 0 1000000 = true
 hl : inB c.held 0 100 = true
structure WdP (x y z u : Int) (W : Wd) : Prop where
 ar : qz1o x y z u W.A = true
 hl : (W.hands.length : Int) = x
 cl : W.calls.length <= 4000
 dl : W.deeds.length <= 400
 tl : (W.ticks.length : Int) = W.A.camera
 nw : 0 <= W.now /\ W.now <= 20000
 hand : ∀ i (h : i < W.hands.length), qz3c x y z u W.hands[i] = true /\ qz2f W.A W.hands[i] = true
 call : ∀ i (h : i < W.calls.length), ClP x W.calls[i]
 deed : ∀ i (h : i < W.deeds.length), qzct W.deeds[i] = true
 tick : ∀ i (h : i < W.ticks.length), inB W.ticks[i] 0 20000 = true
 tinc : ∀ i (h : i + 1 < W.ticks.length), W.ticks[i] < W.ticks[i + 1]
theorem qzbl : (Try.prog.info? 141).map (fun i => i.size) = some 10 := by kernel_rfl
theorem qza0 (d : Dd) (h : qzct d = true) (w : World) : Calls Try.prog 105 #[.agg #[.int .i64 d.kind, .int .i64 d.key, .int .i64 d.value, .int .i64 d.stamp, .int .i64 d.clock]] w fun e w' => e = .returned (.bool true) /\ Below w.heap.size w w' := by
 have K0 := (Below.refl w.heap.size w).alloc (Nat.le_refl _) (.cells #[.int .i64 d.kind, .int .i64 d.key, .int .i64 d.value, .int .i64 d.stamp, .int .i64 d.clock] 144)
 simp only [qzct, Bool.and_eq_true] at h
 obtain ⟨⟨⟨⟨h1, h2⟩, h3⟩, h4⟩, h5⟩ := h
 go_enter Try.func105, Try.ntmps105
 go_wp2_with (first | (go_at_call 43; refine (qzg _ _ _ _).mono ?_; rintro e w' ⟨rfl, hw⟩; obtain rfl := hw.symm) | (go_at_call 42; refine (qzs _ _).mono ?_; rintro e w' ⟨rfl, hw⟩; obtain rfl := hw.symm) | (go_at_call 62; refine (qz16 _ _).mono ?_; rintro e w' ⟨rfl, hw⟩; obtain rfl := hw.symm) | (go_at_call 102; refine (qz1g _ _).mono ?_; rintro e w' ⟨rfl, hw⟩; obtain rfl := hw.symm))
 go_ret
 exact ⟨rfl, K0⟩
theorem qz9p (x y z u : Int) (W : Wd) (a0 a1 a2 a3 a4 a5 a6 a7 : Option Addr) (c0 c1 c2 c3 c4 c5 c6 c7 : Nat) (c : Cl) (h : ClP x c) (hx : 1 <= x /\ x <= 8) (w : World) : Calls Try.prog 104 #[.agg #[.int .i64 x, .int .i64 y, .int .i64 z, .int .i64 u, .int .i64 W.A.camera, .slice a0 W.A.slots.length c0, .slice a1 W.A.guides.length c1, .slice a2 W.A.nodes.length c2, .slice a3 W.A.vers.length c3, .slice a4 W.hands.length c4, .slice a5 W.calls.length c5, .slice a6 W.deeds.length c6, .slice a7 W.ticks.length c7, .int .i64 W.now], .agg #[.int .i64 c.proc, .int .i64 c.code, .int .i64 c.key, .int .i64 c.value, .int .i64 c.begin, .int .i64 c.end_, .int .i64 c.reply, .int .i64 c.out, .int .i64 c.sum, .int .i64 c.held]] w fun e w' => e = .returned (.bool true) /\ Below w.heap.size w w' := by
 have K0 := ((Below.refl w.heap.size w).alloc (Nat.le_refl _) (.cells #[.int .i64 x, .int .i64 y, .int .i64 z, .int .i64 u, .int .i64 W.A.camera, .slice a0 W.A.slots.length c0, .slice a1 W.A.guides.length c1, .slice a2 W.A.nodes.length c2, .slice a3 W.A.vers.length c3, .slice a4 W.hands.length c4, .slice a5 W.calls.length c5, .slice a6 W.deeds.length c6, .slice a7 W.ticks.length c7, .int .i64 W.now] 43)).alloc (by simp) (.cells #[.int .i64 c.proc, .int .i64 c.code, .int .i64 c.key, .int .i64 c.value, .int .i64 c.begin, .int .i64 c.end_, .int .i64 c.reply, .int .i64 c.out, .int .i64 c.sum, .int .i64 c.held] 141)
 obtain ⟨h1, h2, h3, h4, h5, h6, h7, h8⟩ := h
 go_enter Try.func104, Try.ntmps104
 go_wp2_with (first | (go_at_call 43; refine (qzg _ _ _ _).mono ?_; rintro e w' ⟨rfl, hw⟩; obtain rfl := hw.symm) | (go_at_call 11; refine (qz1u _ _ _ _).mono ?_; rintro e w' ⟨rfl, hw⟩; obtain rfl := hw.symm) | (go_at_call 62; refine (qz16 _ _).mono ?_; rintro e w' ⟨rfl, hw⟩; obtain rfl := hw.symm) | (go_at_call 102; refine (qz1g _ _).mono ?_; rintro e w' ⟨rfl, hw⟩; obtain rfl := hw.symm))
 go_ret
 exact ⟨rfl, K0⟩
theorem qz9g (B : Nat) (x y z u : Int) (W : Wd) (a0 a1 a2 a3 a4 a5 a6 a7 : Option Addr) (c0 c1 c2 c3 c4 c5 c6 c7 : Nat) (w : World) (hB : B <= w.heap.size) (hW : W.size <= 1000000) (I : WdIs B w (.slice a0 W.A.slots.length c0) (.slice a1 W.A.guides.length c1) (.slice a2 W.A.nodes.length c2) (.slice a3 W.A.vers.length c3) (.slice a4 W.hands.length c4) (.slice a5 W.calls.length c5) (.slice a6 W.deeds.length c6) (.slice a7 W.ticks.length c7) W) (hP : WdP x y z u W) :
  Calls Try.prog 89 #[.agg #[.int .i64 x, .int .i64 y, .int .i64 z, .int .i64 u, .int .i64 W.A.camera, .slice a0 W.A.slots.length c0, .slice a1 W.A.guides.length c1, .slice a2 W.A.nodes.length c2, .slice a3 W.A.vers.length c3, .slice a4 W.hands.length c4, .slice a5 W.calls.length c5, .slice a6 W.deeds.length c6, .slice a7 W.ticks.length c7, .int .i64 W.now]] w fun e w' => e = .returned (.bool true) /\ Below w.heap.size w w' := by
 have hA : W.A.size <= 1048576 := by unfold Wd.size at hW; omega
 unfold Wd.size at hW
 have hpl := (qz2v hP.ar).1
 have hx := ((qz28 x y z u).1 hpl).1
 have X0 := qzd w [.int .i64 x, .int .i64 y, .int .i64 z, .int .i64 u, .int .i64 W.A.camera, .slice a0 W.A.slots.length c0, .slice a1 W.A.guides.length c1, .slice a2 W.A.nodes.length c2, .slice a3 W.A.vers.length c3, .slice a4 W.hands.length c4, .slice a5 W.calls.length c5, .slice a6 W.deeds.length c6, .slice a7 W.ticks.length c7, .int .i64 W.now] 43
 have K0 := (Below.refl w.heap.size w).alloc (Nat.le_refl _) (.cells #[.int .i64 x, .int .i64 y, .int .i64 z, .int .i64 u, .int .i64 W.A.camera, .slice a0 W.A.slots.length c0, .slice a1 W.A.guides.length c1, .slice a2 W.A.nodes.length c2, .slice a3 W.A.vers.length c3, .slice a4 W.hands.length c4, .slice a5 W.calls.length c5, .slice a6 W.deeds.length c6, .slice a7 W.ticks.length c7, .int .i64 W.now] 43)
 have I0 := I.below (K0.mono hB)
 have hz0 : (w.alloc (.cells #[.int .i64 x, .int .i64 y, .int .i64 z, .int .i64 u, .int .i64 W.A.camera, .slice a0 W.A.slots.length c0, .slice a1 W.A.guides.length c1, .slice a2 W.A.nodes.length c2, .slice a3 W.A.vers.length c3, .slice a4 W.hands.length c4, .slice a5 W.calls.length c5, .slice a6 W.deeds.length c6, .slice a7 W.ticks.length c7, .int .i64 W.now] 43)).heap.size = w.heap.size + 1 := by simp
 go_enter Try.func89, Try.ntmps89
 go_wp2_with fail
 generalize hw0 : w.alloc (.cells #[.int .i64 x, .int .i64 y, .int .i64 z, .int .i64 u, .int .i64 W.A.camera, .slice a0 W.A.slots.length c0, .slice a1 W.A.guides.length c1, .slice a2 W.A.nodes.length c2, .slice a3 W.A.vers.length c3, .slice a4 W.hands.length c4, .slice a5 W.calls.length c5, .slice a6 W.deeds.length c6, .slice a7 W.ticks.length c7, .int .i64 W.now] 43) = w0 at *
 clear hw0
 refine (qz6g B W.A x y z u a0 a1 a2 a3 c0 c1 c2 c3 w0 (by omega) hA I0.ar).mono ?_
 rintro e w1 ⟨rfl, b1⟩
 rw [hP.ar]
 have X1 := qz0 X0 b1 (by omega)
 have K1 := K0.trans (b1.mono (by omega))
 have I1 := I0.below (b1.mono (by omega))
 have hz1 := b1.size
 clear X0 K0 I0 b1 I
 obtain ⟨x0, x1, x2, x3, x4, x5, x6, x7, x8, x9, x10, x11, x12, x13⟩ := qzc2 X1
 have t1 : ((W.hands.length : Int) != x) = false := by simp [hP.hl]
 have t2 : ((W.ticks.length : Int) != W.A.camera) = false := by simp [hP.tl]
 have t3 := hP.cl
 have t4 := hP.dl
 have t3' : ¬ ((4000 : Int) < (W.calls.length : Int)) := by omega
 have t4' : ¬ ((400 : Int) < (W.deeds.length : Int)) := by omega
 have t5 : inB W.now 0 20000 = true := (qz1b _ _ _).2 hP.nw
 go_wp2_with (go_at_call 102; refine (qz1g _ _).mono ?_; rintro e w' ⟨rfl, hw⟩; obtain rfl := hw.symm)
 clear x0 x1 x2 x3 x4 x5 x6 x7 x8 x9 x10 x11 x12 x13 t1 t2 t3' t4' t5
 go_loopw [3] (fun i wr => ∃ k : Nat, k <= W.hands.length /\ i = .int .i64 k /\ Below w1.heap.size w1 wr) (fun i _ => W.hands.length - (intOf i).toNat)
 case atStart => exact ⟨0, Nat.zero_le _, rfl, Below.refl _ _⟩
 case round =>
  obtain ⟨k, hk, rfl, bel⟩ := hrel
  have Xr := qz0 X1 bel (by omega)
  obtain ⟨x0, x1, x2, x3, x4, x5, x6, x7, x8, x9, x10, x11, x12, x13⟩ := qzc2 Xr
  have KK := K1.trans (bel.mono (show w.heap.size <= w1.heap.size by omega))
  by_cases hlt : k < W.hands.length
  ·have hlt' : (k : Int) < (W.hands.length : Int) := by omega
   have hk0 : (0 : Int) <= (k : Int) := by omega
   obtain ⟨bb, off, rfl, hbb, Rh⟩ := qz14.at I1.h (by omega)
   have Eh := qz0 (qzu (f := hdC) (sz := 22) (fun _ => rfl) Rh k hlt) (bel.mono (by omega)) hbb
   clear Rh
   obtain ⟨hh1, hh2⟩ := hP.hand k hlt
   generalize hhd : W.hands[k] = h at *
   clear hhd
   go_upto_region 6 with fail
   have y0 : ∀ (dq : Nat) (os : Array Obj), (grow (redrawn wr dq) os).cell? ⟨w.heap.size, 0, none⟩ = some (.int .i64 x) := fun dq os => cell_regrown x0 dq os
   have y1 : ∀ (dq : Nat) (os : Array Obj), (grow (redrawn wr dq) os).cell? ⟨w.heap.size, 1, none⟩ = some (.int .i64 y) := fun dq os => cell_regrown x1 dq os
   have y2 : ∀ (dq : Nat) (os : Array Obj), (grow (redrawn wr dq) os).cell? ⟨w.heap.size, 2, none⟩ = some (.int .i64 z) := fun dq os => cell_regrown x2 dq os
   have y3 : ∀ (dq : Nat) (os : Array Obj), (grow (redrawn wr dq) os).cell? ⟨w.heap.size, 3, none⟩ = some (.int .i64 u) := fun dq os => cell_regrown x3 dq os
   have y4 : ∀ (dq : Nat) (os : Array Obj), (grow (redrawn wr dq) os).cell? ⟨w.heap.size, 4, none⟩ = some (.int .i64 W.A.camera) := fun dq os => cell_regrown x4 dq os
   have y5 : ∀ (dq : Nat) (os : Array Obj), (grow (redrawn wr dq) os).cell? ⟨w.heap.size, 5, none⟩ = some (.slice a0 W.A.slots.length c0) := fun dq os => cell_regrown x5 dq os
   have y6 : ∀ (dq : Nat) (os : Array Obj), (grow (redrawn wr dq) os).cell? ⟨w.heap.size, 6, none⟩ = some (.slice a1 W.A.guides.length c1) := fun dq os => cell_regrown x6 dq os
   have y7 : ∀ (dq : Nat) (os : Array Obj), (grow (redrawn wr dq) os).cell? ⟨w.heap.size, 7, none⟩ = some (.slice a2 W.A.nodes.length c2) := fun dq os => cell_regrown x7 dq os
   have y8 : ∀ (dq : Nat) (os : Array Obj), (grow (redrawn wr dq) os).cell? ⟨w.heap.size, 8, none⟩ = some (.slice a3 W.A.vers.length c3) := fun dq os => cell_regrown x8 dq os
   have y9 : ∀ (dq : Nat) (os : Array Obj), (grow (redrawn wr dq) os).cell? ⟨w.heap.size, 9, none⟩ = some (.slice (some ⟨bb, off, none⟩) W.hands.length c4) := fun dq os => cell_regrown x9 dq os
   have hBr : B <= wr.heap.size := Nat.le_trans (by omega) bel.size
   have Ir := I1.ar.below (bel.mono (by omega))
   have cH : ∀ (dq : Nat) (os : Array Obj), Calls Try.prog 79 #[.agg #[.int .i64 x, .int .i64 y, .int .i64 z, .int .i64 u], .agg (hdC h).toArray] (grow (redrawn wr dq) os) fun e w'' => e = .returned (.bool true) /\ ∃ q : Regrown, w'' = grow (redrawn wr q.d) q.os := fun dq os => by
    have hcl := qz5b x y z u h (grow (redrawn wr dq) os)
    rw [hh1] at hcl
    exact Calls.regrown_of hcl
   have cK : ∀ (dq : Nat) (os : Array Obj), Calls Try.prog 103 #[.agg #[.int .i64 W.A.camera, .slice a0 W.A.slots.length c0, .slice a1 W.A.guides.length c1, .slice a2 W.A.nodes.length c2, .slice a3 W.A.vers.length c3], .agg (hdC h).toArray] (grow (redrawn wr dq) os) fun e w'' => e = .returned (.bool true) /\ ∃ q : Regrown, w'' = grow (redrawn wr q.d) q.os := fun dq os => by
    have hbq := below_regrown wr dq os
    have hcl := qz9t W.A h a0 a1 a2 a3 c0 c1 c2 c3 (grow (redrawn wr dq) os) hA
    rw [hh2] at hcl
    exact Calls.regrown_of hcl
   refine wp_region_quiet_below (by kernel_rfl) (by kernel_rfl) ?_
   repeat (first | (refine qz1m rfl 27 (.tmp 61) rfl bb (off + k * 22) rfl (hdC h) _ (fun w' hw' => by obtain ⟨⟨dq, os⟩, rfl⟩ := hw'; exact qz0 Eh (below_regrown wr dq os) (Nat.lt_of_lt_of_le hbb hBr)) Try.underlying27 rfl (qz1 h) ?_; simp only [Act.put, List.setIfInBounds_toArray, List.set_cons_succ, List.set_cons_zero]) | (refine qz3v rfl 27 (.tmp 71) rfl bb (off + k * 22) rfl (hdC h) _ (fun w' hw' => by obtain ⟨⟨dq, os⟩, rfl⟩ := hw'; exact qz0 Eh (below_regrown wr dq os) (Nat.lt_of_lt_of_le hbb hBr)) Try.underlying27 rfl (qz1 h) ?_; simp only [Act.put, List.setIfInBounds_toArray, List.set_cons_succ, List.set_cons_zero]) | go_big_quiet_step (first | exact cH _ _ | exact cK _ _))
   refine wpQuiet_nil ?_
   intro _ hw'
   obtain ⟨⟨dq, osq⟩, hw''⟩ := hw'
   subst hw''
   have bel2 := bel.trans ((below_regrown wr dq osq).mono bel.size)
   generalize grow (redrawn wr dq) osq = wb at *
   clear cH cK y0 y1 y2 y3 y4 y5 y6 y7 y8 y9 Eh hh1 hh2 Ir x0 x1 x2 x3 x4 x5 x6 x7 x8 x9 x10 x11 x12 x13 Xr
   go_wp2
   go_roundw
   case rel => exact ⟨k + 1, by omega, by go_num, bel2⟩
   case measure => simp [intOf]; omega
  ·have bel0 := bel
   clear bel
   obtain ⟨wo, rfl⟩ : ∃ wo : World, wo = wr := ⟨_, rfl⟩
   go_wp2
   clear x0 x1 x2 x3 x4 x5 x6 x7 x8 x9 x10 x11 x12 x13 KK hlt Xr
   go_loopw [4] (fun i wr => ∃ k : Nat, k <= W.calls.length /\ i = .int .i64 k /\ Below w1.heap.size w1 wr) (fun i _ => W.calls.length - (intOf i).toNat)
   case atStart => exact ⟨0, Nat.zero_le _, rfl, bel0⟩
   case round =>
    obtain ⟨k, hk, rfl, bel⟩ := hrel
    have Xr := qz0 X1 bel (by omega)
    obtain ⟨x0, x1, x2, x3, x4, x5, x6, x7, x8, x9, x10, x11, x12, x13⟩ := qzc2 Xr
    have KK := K1.trans (bel.mono (show w.heap.size <= w1.heap.size by omega))
    by_cases hlt : k < W.calls.length
    ·have hlt' : (k : Int) < (W.calls.length : Int) := by omega
     have hk0 : (0 : Int) <= (k : Int) := by omega
     obtain ⟨bb, off, rfl, hbb, Rh⟩ := qz14.at I1.c (by omega)
     have Eh := qz0 (qzu (f := clC) (sz := 10) (fun _ => rfl) Rh k hlt) (bel.mono (by omega)) hbb
     clear Rh
     have hh1 := hP.call k hlt
     generalize hhd : W.calls[k] = c at *
     clear hhd
     go_upto_region 11 with fail
     have y10 : ∀ (dq : Nat) (os : Array Obj), (grow (redrawn wr dq) os).cell? ⟨w.heap.size, 10, none⟩ = some (.slice (some ⟨bb, off, none⟩) W.calls.length c5) := fun dq os => cell_regrown x10 dq os
     have hBr : B <= wr.heap.size := Nat.le_trans (by omega) bel.size
     have cC : ∀ (dq : Nat) (os : Array Obj), Calls Try.prog 104 #[.agg #[.int .i64 x, .int .i64 y, .int .i64 z, .int .i64 u, .int .i64 W.A.camera, .slice a0 W.A.slots.length c0, .slice a1 W.A.guides.length c1, .slice a2 W.A.nodes.length c2, .slice a3 W.A.vers.length c3, .slice a4 W.hands.length c4, .slice (some ⟨bb, off, none⟩) W.calls.length c5, .slice a6 W.deeds.length c6, .slice a7 W.ticks.length c7, .int .i64 W.now], .agg #[.int .i64 c.proc, .int .i64 c.code, .int .i64 c.key, .int .i64 c.value, .int .i64 c.begin, .int .i64 c.end_, .int .i64 c.reply, .int .i64 c.out, .int .i64 c.sum, .int .i64 c.held]] (grow (redrawn wr dq) os) fun e w'' => e = .returned (.bool true) /\ ∃ q : Regrown, w'' = grow (redrawn wr q.d) q.os := fun dq os => Calls.regrown_of (qz9p x y z u W a0 a1 a2 a3 a4 (some ⟨bb, off, none⟩) a6 a7 c0 c1 c2 c3 c4 c5 c6 c7 c hh1 hx _)
     refine wp_region_quiet_below (by kernel_rfl) (by kernel_rfl) ?_
     repeat (first | (refine qz1m rfl 43 (.tmp 1) rfl w.heap.size 0 rfl [.int .i64 x, .int .i64 y, .int .i64 z, .int .i64 u, .int .i64 W.A.camera, .slice a0 W.A.slots.length c0, .slice a1 W.A.guides.length c1, .slice a2 W.A.nodes.length c2, .slice a3 W.A.vers.length c3, .slice a4 W.hands.length c4, .slice (some ⟨bb, off, none⟩) W.calls.length c5, .slice a6 W.deeds.length c6, .slice a7 W.ticks.length c7, .int .i64 W.now] _ (fun w' hw' => by obtain ⟨⟨dq, os⟩, rfl⟩ := hw'; exact qz0 Xr (below_regrown wr dq os) (Nat.lt_of_lt_of_le (by omega) bel.size)) Try.underlying43 rfl qzm ?_; simp only [Act.put, List.setIfInBounds_toArray, List.set_cons_succ, List.set_cons_zero]) | (refine qz1m rfl 141 (.tmp 87) rfl bb (off + k * 10) rfl [.int .i64 c.proc, .int .i64 c.code, .int .i64 c.key, .int .i64 c.value, .int .i64 c.begin, .int .i64 c.end_, .int .i64 c.reply, .int .i64 c.out, .int .i64 c.sum, .int .i64 c.held] _ (fun w' hw' => by obtain ⟨⟨dq, os⟩, rfl⟩ := hw'; exact qz0 Eh (below_regrown wr dq os) (Nat.lt_of_lt_of_le hbb hBr)) Try.underlying141 rfl qzbl ?_; simp only [Act.put, List.setIfInBounds_toArray, List.set_cons_succ, List.set_cons_zero]) | go_big_quiet_step (exact cC _ _))
     refine wpQuiet_nil ?_
     intro _ hw'
     obtain ⟨⟨dq, osq⟩, hw''⟩ := hw'
     subst hw''
     have bel2 := bel.trans ((below_regrown wr dq osq).mono bel.size)
     generalize grow (redrawn wr dq) osq = wb at *
     clear cC y10 Eh hh1 x0 x1 x2 x3 x4 x5 x6 x7 x8 x9 x10 x11 x12 x13 Xr
     go_wp2
     go_roundw
     case rel => exact ⟨k + 1, by omega, by go_num, bel2⟩
     case measure => simp [intOf]; omega
    ·have bel0 := bel
     clear bel
     obtain ⟨wo, rfl⟩ : ∃ wo : World, wo = wr := ⟨_, rfl⟩
     go_wp2
     clear x0 x1 x2 x3 x4 x5 x6 x7 x8 x9 x10 x11 x12 x13 KK hlt Xr
     go_loopw [5] (fun i wr => ∃ k : Nat, k <= W.deeds.length /\ i = .int .i64 k /\ Below w1.heap.size w1 wr) (fun i _ => W.deeds.length - (intOf i).toNat)
     case atStart => exact ⟨0, Nat.zero_le _, rfl, bel0⟩
     case round =>
      obtain ⟨k, hk, rfl, bel⟩ := hrel
      have Xr := qz0 X1 bel (by omega)
      obtain ⟨x0, x1, x2, x3, x4, x5, x6, x7, x8, x9, x10, x11, x12, x13⟩ := qzc2 Xr
      have KK := K1.trans (bel.mono (show w.heap.size <= w1.heap.size by omega))
      by_cases hlt : k < W.deeds.length
      ·have hlt' : (k : Int) < (W.deeds.length : Int) := by omega
       have hk0 : (0 : Int) <= (k : Int) := by omega
       obtain ⟨bb, off, rfl, hbb, Rh⟩ := qz14.at I1.d (by omega)
       have Eh := qz0 (qzu (f := ddC) (sz := 5) (fun _ => rfl) Rh k hlt) (bel.mono (by omega)) hbb
       clear Rh
       have hh1 := hP.deed k hlt
       generalize hhd : W.deeds[k] = d at *
       clear hhd
       go_wp2_with (first | (refine wpList_load_mid rfl 144 (.tmp 101) rfl bb (off + k * 5) rfl [.int .i64 d.kind, .int .i64 d.key, .int .i64 d.value, .int .i64 d.stamp, .int .i64 d.clock] _ ?hd5 Try.underlying144 rfl (qz57 d) ?_))
       case hd5 => exact Eh
       refine (qza0 d hh1 _).mono ?_
       rintro e wb ⟨rfl, bq⟩
       have bel2 := bel.trans (bq.mono bel.size)
       clear bq Eh hh1 x0 x1 x2 x3 x4 x5 x6 x7 x8 x9 x10 x11 x12 x13 Xr
       go_wp2
       go_roundw
       case rel => exact ⟨k + 1, by omega, by go_num, bel2⟩
       case measure => simp [intOf]; omega
      ·have bel0 := bel
       clear bel
       obtain ⟨wo, rfl⟩ : ∃ wo : World, wo = wr := ⟨_, rfl⟩
       go_wp2
       clear x0 x1 x2 x3 x4 x5 x6 x7 x8 x9 x10 x11 x12 x13 KK hlt Xr
       go_loopw [6] (fun i wr => ∃ k : Nat, k <= W.ticks.length /\ i = .int .i64 k /\ Below w1.heap.size w1 wr) (fun i _ => W.ticks.length - (intOf i).toNat)
       case atStart => exact ⟨0, Nat.zero_le _, rfl, bel0⟩
       case round =>
        obtain ⟨k, hk, rfl, bel⟩ := hrel
        have Xr := qz0 X1 bel (by omega)
        obtain ⟨x0, x1, x2, x3, x4, x5, x6, x7, x8, x9, x10, x11, x12, x13⟩ := qzc2 Xr
        have KK := K1.trans (bel.mono (show w.heap.size <= w1.heap.size by omega))
        by_cases hlt : k < W.ticks.length
        ·have hlt' : (k : Int) < (W.ticks.length : Int) := by omega
         have hk0 : (0 : Int) <= (k : Int) := by omega
         obtain ⟨bb, off, rfl, hbb, Rh⟩ := qz14.at I1.t (by omega)
         have Rr := qz0 Rh (bel.mono (by omega)) hbb
         clear Rh
         have hh1 := hP.tick k hlt
         have g1 : wr.cell? ⟨bb, off + k, none⟩ = some (.int .i64 W.ticks[k]) := Rr k (.int .i64 W.ticks[k]) (by have := qz1q (f := intC) (sz := 1) (fun _ => rfl) W.ticks k hlt 0 (by omega); simpa [intC] using this)
         have hBr : B <= wr.heap.size := Nat.le_trans (by omega) bel.size
         rcases Nat.eq_zero_or_pos k with hk1 | hk1
         ·subst hk1
          generalize hhd : W.ticks[0] = tk at *
          clear hhd Rr
          go_upto_region 21 with fail
          have y12 : ∀ (dq : Nat) (os : Array Obj), (grow (redrawn wr dq) os).cell? ⟨w.heap.size, 12, none⟩ = some (.slice (some ⟨bb, off, none⟩) W.ticks.length c7) := fun dq os => cell_regrown x12 dq os
          have ya : ∀ (dq : Nat) (os : Array Obj), (grow (redrawn wr dq) os).cell? ⟨bb, off + 0, none⟩ = some (.int .i64 tk) := fun dq os => cell_regrown g1 dq os
          have ya' : ∀ (dq : Nat) (os : Array Obj), (grow (redrawn wr dq) os).cell? ⟨bb, off, none⟩ = some (.int .i64 tk) := fun dq os => by simpa using ya dq os
          have cT : ∀ (dq : Nat) (os : Array Obj), Calls Try.prog 102 #[.int .i64 tk] (grow (redrawn wr dq) os) fun e w'' => e = .returned (.bool true) /\ ∃ q : Regrown, w'' = grow (redrawn wr q.d) q.os := fun dq os => by
           have hcl := (qz1g tk (grow (redrawn wr dq) os)).mono (fun e w' h => (⟨h.1, by rw [h.2]; exact Below.refl _ _⟩ : e = .returned (.bool (inB tk 0 20000)) /\ Below (grow (redrawn wr dq) os).heap.size (grow (redrawn wr dq) os) w'))
           rw [hh1] at hcl
           exact Calls.regrown_of hcl
          refine wp_region_quiet_below (by kernel_rfl) (by kernel_rfl) ?_
          repeat (go_big_quiet_step (exact cT _ _))
          refine wpQuiet_nil ?_
          intro _ hw'
          obtain ⟨⟨dq, osq⟩, hw''⟩ := hw'
          subst hw''
          have bel2 := bel.trans ((below_regrown wr dq osq).mono bel.size)
          generalize grow (redrawn wr dq) osq = wb at *
          clear cT y12 ya ya' g1 hh1 x0 x1 x2 x3 x4 x5 x6 x7 x8 x9 x10 x11 x12 x13 Xr
          go_wp2
          go_roundw
          case rel => exact ⟨1, by omega, by go_num, bel2⟩
          case measure => simp [intOf]; omega
         ·obtain ⟨j, rfl⟩ : ∃ j, k = j + 1 := ⟨k - 1, by omega⟩
          have hinc := hP.tinc j hlt
          have g0 : wr.cell? ⟨bb, off + j, none⟩ = some (.int .i64 W.ticks[j]) := Rr j (.int .i64 W.ticks[j]) (by have := qz1q (f := intC) (sz := 1) (fun _ => rfl) W.ticks j (by omega) 0 (by omega); simpa [intC] using this)
          clear Rr
          generalize hhd : W.ticks[j + 1] = tk at *
          generalize hhe : W.ticks[j] = tj at *
          clear hhd hhe
          have hpos : (0 : Int) < ((j + 1 : Nat) : Int) := by omega
          have hj1 : ((j + 1 : Nat) : Int) - 1 = (j : Int) := by omega
          have hj0 : (0 : Int) <= (j : Int) := by omega
          have hjl : (j : Int) < (W.ticks.length : Int) := by omega
          have hle : ¬ (tk <= tj) := by omega
          go_upto_region 21 with fail
          have y12 : ∀ (dq : Nat) (os : Array Obj), (grow (redrawn wr dq) os).cell? ⟨w.heap.size, 12, none⟩ = some (.slice (some ⟨bb, off, none⟩) W.ticks.length c7) := fun dq os => cell_regrown x12 dq os
          have ya : ∀ (dq : Nat) (os : Array Obj), (grow (redrawn wr dq) os).cell? ⟨bb, off + (j + 1), none⟩ = some (.int .i64 tk) := fun dq os => cell_regrown g1 dq os
          have yb : ∀ (dq : Nat) (os : Array Obj), (grow (redrawn wr dq) os).cell? ⟨bb, off + j, none⟩ = some (.int .i64 tj) := fun dq os => cell_regrown g0 dq os
          have cT : ∀ (dq : Nat) (os : Array Obj), Calls Try.prog 102 #[.int .i64 tk] (grow (redrawn wr dq) os) fun e w'' => e = .returned (.bool true) /\ ∃ q : Regrown, w'' = grow (redrawn wr q.d) q.os := fun dq os => by
           have hcl := (qz1g tk (grow (redrawn wr dq) os)).mono (fun e w' h => (⟨h.1, by rw [h.2]; exact Below.refl _ _⟩ : e = .returned (.bool (inB tk 0 20000)) /\ Below (grow (redrawn wr dq) os).heap.size (grow (redrawn wr dq) os) w'))
           rw [hh1] at hcl
           exact Calls.regrown_of hcl
          refine wp_region_quiet_below (by kernel_rfl) (by kernel_rfl) ?_
          repeat (go_big_quiet_step (exact cT _ _))
          refine wpQuiet_nil ?_
          intro _ hw'
          obtain ⟨⟨dq, osq⟩, hw''⟩ := hw'
          subst hw''
          have bel2 := bel.trans ((below_regrown wr dq osq).mono bel.size)
          generalize grow (redrawn wr dq) osq = wb at *
          clear cT y12 ya yb g1 g0 hh1 x0 x1 x2 x3 x4 x5 x6 x7 x8 x9 x10 x11 x12 x13 Xr
          go_wp2
          go_roundw
          case rel => exact ⟨j + 1 + 1, by omega, by go_num, bel2⟩
          case measure => simp [intOf]; omega
        ·have bel0 := bel
         clear bel
         obtain ⟨wo, rfl⟩ : ∃ wo : World, wo = wr := ⟨_, rfl⟩
         go_wp2
         clear x0 x1 x2 x3 x4 x5 x6 x7 x8 x9 x10 x11 x12 x13 KK hlt Xr
         go_wp2
         go_ret
         exact ⟨rfl, K1.trans (bel0.mono (by omega))⟩
end
section
def qzbk (ops : Array Oper) (k : Nat) : Bool := (List.range k).all fun i => match ops[i]? with | some o => o.after.all fun e => !Region.binds .any e || decide (e.on < i) | none => true
theorem qzc7 {ops : Array Oper} {k : Nat} (h : qzbk ops k = true) (i : Nat) (hik : i < k) (o : Oper) (ho : ops[i]? = some o) : ∀ e ∈ o.after, Region.binds .any e = true -> e.on < i := by
 intro e he hbd
 have h1 := (List.all_eq_true.1 h) i (List.mem_range.2 hik)
 simp only [ho] at h1
 have h2 := Array.all_eq_true_iff_forall_mem.1 h1 e he
 rw [hbd] at h2
 exact of_decide_eq_true (by simpa using h2)
end
end Go.Proofs.Ytclkglkhhnapiaa
