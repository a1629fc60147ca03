/-
  What the law's proof goes by, part 28.
-/
import Derived.Test.YthjkdnlmopafkaaFnBlank00
import Derived.Test.YthjkdnlmopafkaaFnBlank25
namespace Go.Proofs.Ythjkdnlmopafkaa
open Go.ChangeShapes Go.WideShapes Go.ChangeAt Go.RowKit
set_option maxRecDepth 100000
set_option maxHeartbeats 16000000
set_option linter.unusedVariables false
set_option linter.unusedSimpArgs false
set_option linter.unnecessarySimpa false
set_option linter.unusedSectionVars false
section
structure NdP (nv n : Int) (x : Nd) : Prop where
 k0 : n = 0 -> x.key = -1 /\ x.value = 0
 k1 : n ≠ 0 -> 0 <= x.key /\ x.key <= 63
 v1 : 0 <= x.value /\ x.value <= 9999
 hd : 0 <= x.head /\ x.head < nv
structure VrP (nn cam i : Int) (v : Vr) : Prop where
 nx : v.next = -1 ∨ (1 <= v.next /\ v.next < nn)
 st : -1 <= v.stamp /\ v.stamp <= cam
 pv : -1 <= v.prev /\ v.prev < i
 kd : 0 <= v.kind /\ v.kind <= 2
structure ArP (x y z u : Int) (A : Ar) : Prop where
 pl : qz38 x y z u = true
 cam : 0 <= Q6e /\ Q6e <= 100
 sl : (Q6o : Int) = x
 gl : (Q6p : Int) = u
 nl : 1 <= (Q69 : Int) /\ (Q69 : Int) <= y
 vl : 1 <= (Q6a : Int) /\ (Q6a : Int) <= z
 slot : ∀ s ∈ A.slots, -1 <= s /\ s <= 100
 guide : ∀ g ∈ A.guides, 0 <= g /\ g < (Q69 : Int)
 node : ∀ n : Int, 0 <= n -> n < (Q69 : Int) -> NdP Q6a n (ndOf A n)
 ver : ∀ v : Int, 0 <= v -> v < (Q6a : Int) -> VrP Q69 Q6e v (vrOf A v)
theorem qz78 {α : Type} {l : List α} {d : α} {i : Nat} (h : i < l.length) : l.getD i d = l[i] := by simp [List.getD_eq_getElem?_getD, h]
theorem qz4r {l : List Int} {P : Int -> Prop} : (∀ s ∈ l, P s) ↔ ∀ i (h : i < l.length), P l[i] := by
 constructor
 ·intro h i hi
  exact h _ (List.getElem_mem hi)
 ·intro h s hs
  obtain ⟨i, hi, rfl⟩ := List.getElem_of_mem hs
  exact h i hi
theorem qz8r (x y z u : Int) (A : Ar) : qz17 x y z u A = true ↔ ArP x y z u A := by
 simp only [qz17, qz81, Bool.and_eq_true, qz1x, qz1b, beq_iff_eq]
 constructor
 ·rintro ⟨⟨⟨⟨⟨⟨⟨⟨⟨h1, h2⟩, h3⟩, h4⟩, h5⟩, h6⟩, h7⟩, h8⟩, h9⟩, h10⟩
  refine ⟨h1, h2, h3, h4, h5, h6, qz4r.2 h7, qz4r.2 fun i hi => by have := h8 i hi; omega, fun n a b => ?_, fun v a b => ?_⟩
  ·have := h9 n.toNat (by omega)
   rw [ndOf, qz78 (by omega)]
   generalize A.nodes[n.toNat]'(by omega) = q at *
   unfold qz45 at this
   split at this
   ·simp only [Bool.and_eq_true, qz1b, beq_iff_eq] at this
    constructor <;> omega
   ·simp only [Bool.and_eq_true, qz1b] at this
    constructor <;> omega
  ·have := h10 v.toNat (by omega)
   rw [vrOf, qz78 (by omega)]
   generalize A.vers[v.toNat]'(by omega) = q at *
   simp only [verB, Bool.and_eq_true, Bool.or_eq_true, qz1b, beq_iff_eq] at this
   constructor <;> omega
 ·rintro ⟨h1, h2, h3, h4, h5, h6, h7, h8, h9, h10⟩
  refine ⟨⟨⟨⟨⟨⟨⟨⟨⟨h1, h2⟩, h3⟩, h4⟩, h5⟩, h6⟩, qz4r.1 h7⟩, fun i hi => by have := qz4r.1 h8 i hi; omega⟩, fun i hi => ?_⟩, fun i hi => ?_⟩
  ·have := h9 i (by omega) (by omega)
   rw [ndOf, qz78 (by simpa using hi)] at this
   simp only [Int.toNat_natCast] at this
   generalize A.nodes[i] = q at *
   obtain ⟨k0, k1, v1, hd⟩ := this
   unfold qz45
   split
   ·simp only [Bool.and_eq_true, qz1b, beq_iff_eq]
    omega
   ·simp only [Bool.and_eq_true, qz1b]
    omega
  ·have := h10 i (by omega) (by omega)
   rw [vrOf, qz78 (by simpa using hi)] at this
   simp only [Int.toNat_natCast] at this
   generalize A.vers[i] = q at *
   obtain ⟨k0, k1, v1, hd⟩ := this
   simp only [verB, Bool.and_eq_true, Bool.or_eq_true, qz1b, beq_iff_eq]
   omega
theorem qz6g {α : Type} {l : List α} {d v : α} {k i : Int} (hk : 0 <= k) (hkl : k < (l.length : Int)) (hi : 0 <= i) : (l.set k.toNat v).getD i.toNat d = if i = k then v else l.getD i.toNat d := by
 simp only [List.getD_eq_getElem?_getD, List.getElem?_set]
 by_cases e : i = k
 ·subst e
  rw [if_pos rfl, if_pos (by omega), if_pos rfl]
  rfl
 ·rw [if_neg (by omega), if_neg e]
theorem qz5m {α : Type} {l : List α} {d v : α} {i : Int} (hi : 0 <= i) (hl : i < (l.length : Int)) : (l ++ [v]).getD i.toNat d = l.getD i.toNat d := by
 simp only [List.getD_eq_getElem?_getD]
 rw [List.getElem?_append_left (by omega)]
theorem qz48 {α : Type} {l : List α} {d v : α} {i : Int} (hl : i = (l.length : Int)) : (l ++ [v]).getD i.toNat d = v := by
 subst hl
 simp
theorem qz6f {l : List Int} {k : Nat} {v s : Int} (h : s ∈ l.set k v) : s = v ∨ s ∈ l := by
 rcases List.mem_or_eq_of_mem_set h with h | h
 ·exact Or.inr h
 ·exact Or.inl h
theorem qzbx {l : List Int} {k : Nat} {d : Int} (h : k < l.length) : l.getD k d ∈ l := by
 rw [qz78 h]
 exact List.getElem_mem h
theorem NdP.mono {nv nv' n : Int} {x : Nd} (h : NdP nv n x) (hn : nv <= nv') : NdP nv' n x := ⟨h.k0, h.k1, h.v1, h.hd.1, by have := h.hd.2; omega⟩
theorem VrP.mono {nn nn' cam cam' i : Int} {v : Vr} (h : VrP nn cam i v) (hn : nn <= nn') (hc : cam <= cam') : VrP nn' cam' i v := ⟨by have := h.nx; omega, by have := h.st; omega, h.pv, h.kd⟩
theorem ArP.setV {x y z u : Int} {A : Ar} (P : ArP x y z u A) {k : Int} {v : Vr} (h0 : 0 <= k) (h1 : k < (Q6a : Int)) (hv : VrP Q69 Q6e k v) : ArP x y z u { A with vers := A.vers.set k.toNat v } := by
 obtain ⟨p1, p2, p3, p4, p5, p6, p7, p8, p9, p10⟩ := P
 refine ⟨p1, p2, p3, p4, p5, by simpa using p6, p7, p8, ?_, ?_⟩
 ·intro n a b
  have := p9 n a b
  simpa [ndOf] using this
 ·intro i a b
  have b' : i < (Q6a : Int) := by simpa using b
  show VrP _ _ _ ((A.vers.set k.toNat v).getD i.toNat _)
  rw [qz6g h0 h1 a]
  split
  ·rename_i e
   subst e
   exact hv
  ·exact p10 i a b'
theorem ArP.swap {x y z u : Int} {A : Ar} (P : ArP x y z u A) {node next : Int} {gone : Bool} {kind : Int} (h0 : 0 <= node) (h1 : node < (Q69 : Int)) (hz : (Q6a : Int) < z) (hn : next = -1 ∨ (1 <= next /\ next < (Q69 : Int))) (hk : 0 <= kind /\ kind <= 2) : ArP x y z u { A with vers := A.vers ++ [⟨next, gone, -1, (ndOf A node).head, kind⟩], nodes := A.nodes.set node.toNat { ndOf A node with head := (Q6a : Int) } } := by
 obtain ⟨p1, p2, p3, p4, p5, p6, p7, p8, p9, p10⟩ := P
 refine ⟨p1, p2, p3, p4, by simpa using p5, by simp; omega, p7, by simpa using p8, ?_, ?_⟩
 ·intro n a b
  have b' : n < (Q69 : Int) := by simpa using b
  show NdP _ _ ((A.nodes.set node.toNat _).getD n.toNat _)
  rw [qz6g h0 h1 a]
  have q := p9 n a b'
  split
  ·rename_i e
   subst e
   obtain ⟨q1, q2, q3, q4⟩ := q
   exact ⟨q1, q2, q3, by simp; omega⟩
  ·exact q.mono (by simp <;> omega)
 ·intro i a b
  have b' : i < (Q6a : Int) + 1 := by simpa using b
  show VrP _ _ _ ((A.vers ++ [_]).getD i.toNat _)
  have q := (p9 node h0 h1).hd
  by_cases e : i = (Q6a : Int)
  ·rw [qz48 e]
   subst e
   exact ⟨by simpa using hn, by simp; omega, by simp; omega, hk⟩
  ·rw [qz5m a (by omega)]
   exact (p10 i a (by omega)).mono (by simp <;> omega) (Int.le_refl _)
theorem ArP.make {x y z u : Int} {A : Ar} (P : ArP x y z u A) {next key value : Int} (hy : (Q69 : Int) < y) (hz : (Q6a : Int) < z) (hn : next = -1 ∨ (1 <= next /\ next < (Q69 : Int))) (hk : 0 <= key /\ key <= 63) (hv : 0 <= value /\ value <= 9999) : ArP x y z u { A with vers := A.vers ++ [⟨next, false, 0, -1, 0⟩], nodes := A.nodes ++ [⟨key, value, (Q6a : Int)⟩] } := by
 obtain ⟨p1, p2, p3, p4, p5, p6, p7, p8, p9, p10⟩ := P
 refine ⟨p1, p2, p3, p4, by simp; omega, by simp; omega, p7, fun g hg => by have := p8 g hg; simp; omega, ?_, ?_⟩
 ·intro n a b
  have b' : n < (Q69 : Int) + 1 := by simpa using b
  show NdP _ _ ((A.nodes ++ [_]).getD n.toNat _)
  by_cases e : n = (Q69 : Int)
  ·rw [qz48 e]
   exact ⟨fun h => by omega, fun _ => hk, hv, by simp; omega⟩
  ·rw [qz5m a (by omega)]
   exact (p9 n a (by omega)).mono (by simp <;> omega)
 ·intro i a b
  have b' : i < (Q6a : Int) + 1 := by simpa using b
  show VrP _ _ _ ((A.vers ++ [_]).getD i.toNat _)
  by_cases e : i = (Q6a : Int)
  ·rw [qz48 e]
   exact ⟨by simp; omega, by simp; omega, by simp; omega, by simp⟩
  ·rw [qz5m a (by omega)]
   exact (p10 i a (by omega)).mono (by simp <;> omega) (Int.le_refl _)
theorem ArP.setG {x y z u : Int} {A : Ar} (P : ArP x y z u A) {k : Nat} {v : Int} (hv : 0 <= v /\ v < (Q69 : Int)) : ArP x y z u { A with guides := A.guides.set k v } := by
 obtain ⟨p1, p2, p3, p4, p5, p6, p7, p8, p9, p10⟩ := P
 refine ⟨p1, p2, p3, by simpa using p4, p5, p6, p7, fun g hg => ?_, p9, p10⟩
 rcases qz6f hg with rfl | h
 ·exact hv
 ·exact p8 g h
theorem ArP.setS {x y z u : Int} {A : Ar} (P : ArP x y z u A) {k : Nat} {v : Int} (hv : -1 <= v /\ v <= 100) : ArP x y z u { A with slots := A.slots.set k v } := by
 obtain ⟨p1, p2, p3, p4, p5, p6, p7, p8, p9, p10⟩ := P
 refine ⟨p1, p2, by simpa using p3, p4, p5, p6, fun g hg => ?_, p8, p9, p10⟩
 rcases qz6f hg with rfl | h
 ·exact hv
 ·exact p7 g h
theorem ArP.tick {x y z u : Int} {A : Ar} (P : ArP x y z u A) (h : Q6e < 100) : ArP x y z u { A with camera := Q6e + 1 } := by
 obtain ⟨p1, p2, p3, p4, p5, p6, p7, p8, p9, p10⟩ := P
 refine ⟨p1, by simp; omega, p3, p4, p5, p6, p7, p8, p9, fun i a b => ?_⟩
 exact (p10 i a b).mono (Int.le_refl _) (by simp; omega)
structure HP (A : Ar) (h : Hd) : Prop where
 f0 : 0 <= h.at_ /\ h.at_ <= 23
 f1 : 0 <= h.then_ /\ h.then_ <= 7
 f2 : 0 <= h.code /\ h.code <= 8
 f3 : 0 <= h.reply /\ h.reply <= 7
 f4 : -1 <= h.key /\ h.key <= 63
 f5 : 0 <= h.value /\ h.value <= 9999
 f6 : 0 <= h.begin /\ h.begin <= 20000
 f7 : 0 <= h.camAt /\ h.camAt <= 20000
 f8 : 0 <= h.round /\ h.round <= 20000
 f9 : 0 <= h.out /\ h.out <= 1000000
 f10 : 0 <= h.sum /\ h.sum <= 1000000
 f11 : -1 <= h.held /\ h.held <= 100
 f12 : 0 <= h.cam /\ h.cam <= 100
 f13 : 0 <= h.least /\ h.least <= 100
 f14 : 0 <= h.index /\ h.index <= 60
 k0 : 0 <= h.x_ /\ h.x_ < (Q69 : Int)
 k1 : 0 <= h.pred /\ h.pred < (Q69 : Int)
 k2 : -1 <= h.curr /\ h.curr < (Q69 : Int)
 k3 : -1 <= h.new_ /\ h.new_ < (Q69 : Int)
 k4 : 0 <= h.ver /\ h.ver < (Q6a : Int)
 k5 : 0 <= h.predVer /\ h.predVer < (Q6a : Int)
 k6 : 0 <= h.currVer /\ h.currVer < (Q6a : Int)
 call : h.at_ ≠ 0 -> qz3y h.code h.key h.value = true
 del : 3 <= h.at_ -> h.at_ <= 5 -> (vrOf A h.ver).kind = 2 -> h.x_ ≠ 0
 new0 : h.new_ ≠ 0
 lnk : h.at_ = 8 ∨ h.at_ = 9 -> 1 <= h.new_
 mark : h.at_ = 11 -> 1 <= h.curr
 unl : h.at_ = 6 -> h.then_ = 2
structure AX (A : Ar) : Prop where
 put : ∀ v : Int, 0 <= v -> v < (Q6a : Int) -> (vrOf A v).kind = 1 -> 1 <= (vrOf A v).next
 head : (vrOf A (ndOf A 0).head).kind ≠ 2
def Priv (h : Hd) : Prop := 1 <= h.new_ /\ ¬ (h.then_ = 4 /\ 3 <= h.at_ /\ h.at_ <= 5) /\ h.at_ ≠ 10
structure qz9e (A : Ar) (n : Int) : Prop where
 vers : ∀ v : Int, 0 <= v -> v < (Q6a : Int) -> (vrOf A v).next ≠ n
 guides : ∀ g ∈ A.guides, g ≠ n
 kind : (vrOf A (ndOf A n).head).kind ≠ 1
structure Far (h : Hd) (n : Int) : Prop where
 pred : h.pred ≠ n
 curr : h.curr ≠ n
 x : h.x_ = n -> h.then_ = 7
theorem HP.hand {x y z u : Int} {A : Ar} {h : Hd} (P : ArP x y z u A) (H : HP A h) : qz3z x y z u h = true := by
 obtain ⟨f0, f1, f2, f3, f4, f5, f6, f7, f8, f9, f10, f11, f12, f13, f14, k0, k1, k2, k3, k4, k5, k6, _, _, _, _, _, _⟩ := H
 have := P.nl
 have := P.vl
 simp only [qz3z, qz4b, qz4h, Bool.and_eq_true, qz1b]
 exact ⟨⟨P.pl, by omega⟩, by omega⟩
theorem HP.knows {x y z u : Int} {A : Ar} {h : Hd} (P : ArP x y z u A) (H : HP A h) : qz2i A h = true := by
 obtain ⟨f0, f1, f2, f3, f4, f5, f6, f7, f8, f9, f10, f11, f12, f13, f14, k0, k1, k2, k3, k4, k5, k6, _, _, _, _, _, _⟩ := H
 simp only [qz2i, qz4s, qz6w, Bool.and_eq_true, Bool.or_eq_true, qz1b, beq_iff_eq]
 omega
theorem HP.stay {A A' : Ar} {h : Hd} (H : HP A h) (hn : Q69 <= A'.nodes.length) (hv : Q6a <= A'.vers.length) (hk : ∀ v : Int, 0 <= v -> v < (Q6a : Int) -> (vrOf A' v).kind = (vrOf A v).kind) : HP A' h := by
 obtain ⟨f0, f1, f2, f3, f4, f5, f6, f7, f8, f9, f10, f11, f12, f13, f14, k0, k1, k2, k3, k4, k5, k6, c, d, n0, l, m, t⟩ := H
 refine ⟨f0, f1, f2, f3, f4, f5, f6, f7, f8, f9, f10, f11, f12, f13, f14, by omega, by omega, by omega, by omega, by omega, by omega, by omega, c, fun a b e => ?_, n0, l, m, t⟩
 rw [hk _ k4.1 k4.2] at e
 exact d a b e
theorem HP.rest {A : Ar} {h : Hd} (hn : 1 <= (Q69 : Int)) (hv : 1 <= (Q6a : Int)) {rp ot sm : Int} (h1 : 0 <= rp /\ rp <= 7) (h2 : 0 <= ot /\ ot <= 1000000) (h3 : 0 <= sm /\ sm <= 1000000) (h4 : -1 <= h.held /\ h.held <= 100) : HP A (qz8 h rp ot sm) := by
 constructor <;> simp only [qz8] <;> first | omega | (intro hh; exact absurd rfl hh)
theorem Far.rest {h : Hd} {n rp ot sm : Int} (hn : 1 <= n) : Far (qz8 h rp ot sm) n := ⟨by simp only [qz8]; omega, by simp only [qz8]; omega, by simp only [qz8]; omega⟩
section
variable {x y z u : Int} {A : Ar} {h : Hd} (P : ArP x y z u A)
include P
theorem qzdz {n : Int} (h0 : 0 <= n) (h1 : n < (Q69 : Int)) : 0 <= (ndOf A n).value /\ (ndOf A n).value <= 1000000 := by
 have := (P.node n h0 h1).v1
 omega
theorem qzbw (H : HP A h) (ha : h.at_ ≠ 0) : HP A (qz2a A h) := by
 have hc := H.call ha
 have hn := P.nl.1
 have hv := P.vl.1
 have hval : 0 <= h.curr -> 0 <= (ndOf A h.curr).value /\ (ndOf A h.curr).value <= 1000000 := fun h0 => qzdz P h0 H.k2.2
 have hkey : h.code = 2 -> 0 <= h.key := fun e => by
  rw [e] at hc
  simp [qz3y, inB] at hc
  omega
 have hk0 : h.curr = 0 -> (ndOf A h.curr).key = -1 := fun e => ((P.node h.curr (by omega) H.k2.2).k0 e).1
 have held := H.f11
 unfold qz2a
 split
 ·split
  ·rename_i e
   exact HP.rest hn hv (by omega) (hval e.1) (by omega) held
  ·exact HP.rest hn hv (by omega) (by omega) (by omega) held
 ·split
  ·split
   ·rename_i e
    exact HP.rest hn hv (by omega) (hval e.1) (by omega) held
   ·obtain ⟨f0, f1, f2, f3, f4, f5, f6, f7, f8, f9, f10, f11, f12, f13, f14, k0, k1, k2, k3, k4, k5, k6, c, d, n0, l, m, t⟩ := H
    constructor <;> dsimp only <;> first | assumption | (split <;> omega) | (intro _; exact hc)
  ·split
   ·split
    ·rename_i e
     have := hkey (by assumption)
     obtain ⟨f0, f1, f2, f3, f4, f5, f6, f7, f8, f9, f10, f11, f12, f13, f14, k0, k1, k2, k3, k4, k5, k6, c, d, n0, l, m, t⟩ := H
     constructor <;> dsimp only <;> first | assumption | omega | (intro _; exact hc)
    ·exact HP.rest hn hv (by omega) (by omega) (by omega) held
   ·obtain ⟨f0, f1, f2, f3, f4, f5, f6, f7, f8, f9, f10, f11, f12, f13, f14, k0, k1, k2, k3, k4, k5, k6, c, d, n0, l, m, t⟩ := H
    constructor <;> dsimp only <;> first | assumption | omega | (intro _; exact hc)
end
section
variable {x y z u : Int} {A : Ar} {h : Hd} (P : ArP x y z u A)
include P
theorem qzb6 (H : HP A h) (ha : 3 <= h.at_ /\ h.at_ <= 5) {n : Int} (hn : n = -1 ∨ (1 <= n /\ n < (Q69 : Int))) : HP A (qz58 A h n) := by
 have hc := H.call (by omega)
 unfold qz58
 split
 ·refine qzbw P ?_ (by dsimp only; omega)
  obtain ⟨f0, f1, f2, f3, f4, f5, f6, f7, f8, f9, f10, f11, f12, f13, f14, k0, k1, k2, k3, k4, k5, k6, c, d, n0, l, m, t⟩ := H
  constructor <;> dsimp only <;> first | assumption | omega
 ·obtain ⟨f0, f1, f2, f3, f4, f5, f6, f7, f8, f9, f10, f11, f12, f13, f14, k0, k1, k2, k3, k4, k5, k6, c, d, n0, l, m, t⟩ := H
  constructor <;> dsimp only <;> first | assumption | omega | (intro _; exact hc)
theorem qzbf (H : HP A h) (ha : h.at_ ≠ 0) : HP A (qz4i A h) := by
 have hc := H.call ha
 unfold qz4i
 split
 ·obtain ⟨f0, f1, f2, f3, f4, f5, f6, f7, f8, f9, f10, f11, f12, f13, f14, k0, k1, k2, k3, k4, k5, k6, c, d, n0, l, m, t⟩ := H
  constructor <;> dsimp only <;> first | assumption | omega | (intro _; exact hc)
 ·exact HP.rest P.nl.1 P.vl.1 (by omega) H.f9 (by omega) H.f11
theorem qzeh (H : HP A h) (ha : h.at_ ≠ 0) : HP A (useH A h) := by
 have hc := H.call ha
 have hval := qzdz P H.k0.1 H.k0.2
 have hnx := (P.ver h.ver H.k4.1 H.k4.2).nx
 have hcnt : 0 <= (if qz4n A h then qz5v A h else h).out /\ (if qz4n A h then qz5v A h else h).out <= 1000000 /\ 0 <= (if qz4n A h then qz5v A h else h).sum /\ (if qz4n A h then qz5v A h else h).sum <= 1000000 := by
  have := H.f9
  have := H.f10
  split
  ·simp only [qz5v]; omega
  ·omega
 unfold useH
 split
 ·obtain ⟨f0, f1, f2, f3, f4, f5, f6, f7, f8, f9, f10, f11, f12, f13, f14, k0, k1, k2, k3, k4, k5, k6, c, d, n0, l, m, t⟩ := H
  constructor <;> dsimp only <;> first | assumption | omega
 ·split
  ·split
   ·exact HP.rest P.nl.1 P.vl.1 (by omega) (by omega) (by omega) H.f11
   ·exact HP.rest P.nl.1 P.vl.1 (by omega) hval (by omega) H.f11
  ·split
   ·split
    ·exact HP.rest P.nl.1 P.vl.1 (by omega) (by omega) (by omega) H.f11
    ·exact HP.rest P.nl.1 P.vl.1 (by omega) ⟨hcnt.1, hcnt.2.1⟩ hcnt.2.2 H.f11
   ·rename_i hl
    have hnx0 : 1 <= (vrOf A h.ver).next /\ (vrOf A h.ver).next < (Q69 : Int) := by
     simp only [qz5r, Bool.or_eq_true, decide_eq_true_eq, not_or] at hl
     omega
    obtain ⟨f0, f1, f2, f3, f4, f5, f6, f7, f8, f9, f10, f11, f12, f13, f14, k0, k1, k2, k3, k4, k5, k6, c, d, n0, l, m, t⟩ := H
    split
    ·simp only [qz5v]
     constructor <;> dsimp only <;> first | assumption | omega | (intro _; exact hc)
    ·constructor <;> dsimp only <;> first | assumption | omega | (intro _; exact hc)
theorem qzf2 (H : HP A h) (ha : 3 <= h.at_ /\ h.at_ <= 5) : HP A (onH A h) := by
 have hc := H.call (by omega)
 have hnx := (P.ver h.ver H.k4.1 H.k4.2).nx
 have H' := H
 obtain ⟨f0, f1, f2, f3, f4, f5, f6, f7, f8, f9, f10, f11, f12, f13, f14, k0, k1, k2, k3, k4, k5, k6, c, d, n0, l, m, t⟩ := H'
 unfold onH
 split
 ·split
  ·constructor <;> dsimp only <;> first | assumption | omega | (intro _; exact hc)
  ·refine qzb6 P ?_ (by exact ha) hnx
   constructor <;> dsimp only <;> first | assumption | omega
 split
 ·split
  ·constructor <;> dsimp only <;> first | assumption | omega | (intro _; exact hc)
  ·split
   ·refine qzbw P ?_ (by dsimp only; omega)
    constructor <;> dsimp only <;> first | assumption | omega
   ·refine qzb6 P ?_ (by exact ha) hnx
    constructor <;> dsimp only <;> first | assumption | omega
 split
 ·refine qzb6 P ?_ (by exact ha) hnx
  constructor <;> dsimp only <;> first | assumption | omega
 split
 ·constructor <;> dsimp only <;> first | assumption | omega | (intro _; exact hc)
 split
 ·constructor <;> dsimp only <;> first | assumption | omega | (intro _; exact hc)
 split
 ·split
  ·exact qzeh P H (by omega)
  ·constructor <;> dsimp only <;> first | assumption | omega | (intro _; exact hc)
 split
 ·constructor <;> dsimp only <;> first | assumption | (split <;> omega) | (intro _; exact hc)
 ·constructor <;> dsimp only <;> first | assumption | omega
end
section
variable {A : Ar} {h : Hd} {n : Int}
theorem qz9u (F : Far h n) (h1 : 1 <= n) : Far (qz2a A h) n := by
 unfold qz2a
 repeat' split
 all_goals first | exact Far.rest h1 | exact ⟨F.pred, F.curr, F.x⟩
theorem qz95 (F : Far h n) (h1 : 1 <= n) {m : Int} (hm : m ≠ n) : Far (qz58 A h m) n := by
 unfold qz58
 split
 ·exact qz9u ⟨F.pred, hm, F.x⟩ h1
 ·exact ⟨F.pred, hm, fun e => absurd e hm⟩
theorem qz99 (F : Far h n) (h1 : 1 <= n) : Far (qz4i A h) n := by
 unfold qz4i
 split
 ·exact ⟨F.pred, F.curr, fun _ => rfl⟩
 ·exact Far.rest h1
theorem qzdd (F : Far h n) (h1 : 1 <= n) (hv : (vrOf A h.ver).next ≠ n) : Far (useH A h) n := by
 unfold useH
 split
 ·exact ⟨F.pred, F.curr, F.x⟩
 ·split
  ·split <;> exact Far.rest h1
  ·split
   ·split <;> exact Far.rest h1
   ·split
    ·exact ⟨F.pred, F.curr, fun e => absurd e hv⟩
    ·exact ⟨F.pred, F.curr, fun e => absurd e hv⟩
theorem qzdu (F : Far h n) (h1 : 1 <= n) (hv : (vrOf A h.ver).next ≠ n) : Far (onH A h) n := by
 have ex := F.x
 have ep := F.pred
 have ec := F.curr
 unfold onH
 split
 ·split
  ·exact ⟨F.pred, F.curr, fun e => by dsimp only at e; omega⟩
  ·refine qz95 ?_ h1 hv
   exact ⟨by show _ ≠ n; dsimp only; omega, F.curr, F.x⟩
 split
 ·split
  ·exact ⟨F.pred, F.curr, F.x⟩
  ·split
   ·exact qz9u ⟨F.pred, F.curr, F.x⟩ h1
   ·refine qz95 ?_ h1 hv
    exact ⟨by show _ ≠ n; dsimp only; omega, F.curr, F.x⟩
 split
 ·refine qz95 ?_ h1 hv
  exact ⟨F.pred, F.curr, F.x⟩
 split
 ·exact ⟨F.pred, F.curr, F.x⟩
 split
 ·exact ⟨F.pred, F.curr, F.x⟩
 split
 ·split
  ·exact qzdd F h1 hv
  ·exact ⟨F.pred, F.curr, F.x⟩
 split
 ·exact ⟨F.pred, F.curr, F.x⟩
 ·exact ⟨F.pred, F.curr, F.x⟩
def NewS (h h' : Hd) : Prop := h'.new_ = h.new_ ∨ h'.new_ = -1
theorem qz9q : NewS h (qz2a A h) := by
 unfold qz2a
 repeat' split
 all_goals first | exact Or.inl rfl | exact Or.inr rfl
theorem qz92 {m : Int} : NewS h (qz58 A h m) := by
 unfold qz58
 split
 ·exact qz9q (h := { h with curr := m })
 ·exact Or.inl rfl
theorem qz5l : NewS h (qz4i A h) := by
 unfold qz4i
 repeat' split
 all_goals first | exact Or.inl rfl | exact Or.inr rfl
theorem qzbu : NewS h (useH A h) := by
 unfold useH
 repeat' split
 all_goals first | exact Or.inl rfl | exact Or.inr rfl
theorem qzal : NewS h (onH A h) := by
 unfold onH
 repeat' split
 all_goals first | exact Or.inl rfl | exact Or.inr rfl | exact qzbu | exact qz9q (h := { h with currVer := h.ver }) | exact qz92 (h := { h with pred := h.x_, predVer := h.ver }) | exact qz92 (h := { h with predVer := h.ver }) | exact qz92 (h := { h with currVer := h.ver, pred := max h.curr 0, predVer := h.ver })
theorem qz7x (e : h.then_ = 4) : (onH A h).at_ = 10 := by
 unfold onH
 rw [if_neg (by omega), if_neg (by omega), if_neg (by omega), if_pos e]
end
end
end Go.Proofs.Ythjkdnlmopafkaa
