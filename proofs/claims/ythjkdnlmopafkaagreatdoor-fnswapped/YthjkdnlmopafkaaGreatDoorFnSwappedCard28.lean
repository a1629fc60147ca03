/-
  What the law's proof goes by, part 29.
-/
import Derived.Test.YthjkdnlmopafkaaGreatDoorFnSwappedCard00
import Derived.Test.YthjkdnlmopafkaaGreatDoorFnSwappedCard27
namespace Go.Proofs.YthjkdnlmopafkaaGreatDoor
open Go.ChangeShapes Go.WideShapes Go.ChangeAt Go.RowKit
set_option maxRecDepth 100000
set_option maxHeartbeats 16000000
set_option linter.unusedVariables false
set_option linter.unusedSimpArgs false
set_option linter.unnecessarySimpa false
set_option linter.unusedSectionVars false
section
def stN (A : Ar) : Nat := A.vers.countP (fun v => v.stamp != -1)
theorem qzgw (A : Ar) : stN A <= Q6r := List.countP_le_length
theorem qzfg {A : Ar} {k : Int} {v : Vr} (h0 : 0 <= k) (h1 : k < (Q6r : Int)) : (A.vers.set k.toNat v).countP (fun v => v.stamp != -1) + (if (vrOf A k).stamp ≠ -1 then 1 else 0) = stN A + (if v.stamp ≠ -1 then 1 else 0) := by
 have hl : k.toNat < Q6r := by omega
 have e : vrOf A k = A.vers[k.toNat] := qz82 hl
 unfold stN
 rw [List.countP_set hl, e]
 have hp : A.vers[k.toNat].stamp ≠ -1 -> 0 < A.vers.countP (fun v => v.stamp != -1) := fun h => List.countP_pos_iff.2 ⟨_, List.getElem_mem hl, by simpa using h⟩
 generalize A.vers.countP (fun v => v.stamp != -1) = c at *
 generalize A.vers[k.toNat] = q at *
 by_cases e1 : q.stamp = -1 <;> by_cases e2 : v.stamp = -1 <;> simp [e1, e2] at hp ⊢ <;> omega
theorem qzfa {A : Ar} {v : Vr} : stN A <= (A.vers ++ [v]).countP (fun v => v.stamp != -1) := by
 unfold stN
 rw [List.countP_append]
 omega
structure Chg (x y z u : Int) (A A' : Ar) (bad : Int -> Prop) : Prop where
 ar : ArP x y z u A'
 ax : AX A'
 nn : Q6q <= A'.nodes.length
 nv : Q6r <= A'.vers.length
 kinds : ∀ v : Int, 0 <= v -> v < (Q6r : Int) -> (vrOf A' v).kind = (vrOf A v).kind
 lone : ∀ n : Int, 1 <= n -> n < (Q6q : Int) -> ¬ bad n -> qzas A n -> qzas A' n
 cnt : stN A <= stN A'
section
variable {x y z u : Int} {A : Ar} (P : ArP x y z u A) (X : AX A)
include P X
theorem Chg.same (bad : Int -> Prop) : Chg x y z u A A bad := ⟨P, X, Q6v _, Q6v _, fun _ _ _ => rfl, fun _ _ _ _ h => h, Q6v _⟩
theorem Chg.setV {k : Int} {v : Vr} (h0 : 0 <= k) (h1 : k < (Q6r : Int)) (hv : VrP Q6q Q6w k v) (hk : v.kind = (vrOf A k).kind) (hn : v.kind = 1 -> 1 <= v.next) (hs : (vrOf A k).stamp ≠ -1 -> v.stamp ≠ -1) : Chg x y z u A { A with vers := A.vers.set k.toNat v } (fun n => n = v.next) := by
 have hget : ∀ i : Int, 0 <= i -> vrOf { A with vers := A.vers.set k.toNat v } i = if i = k then v else vrOf A i := fun i hi => qz6n h0 h1 hi
 have hkind : ∀ i : Int, 0 <= i -> (vrOf { A with vers := A.vers.set k.toNat v } i).kind = (vrOf A i).kind := fun i hi => by
  rw [hget i hi]
  split
  ·rename_i e; subst e; exact hk
  ·rfl
 refine ⟨P.setV h0 h1 hv, ⟨fun i a b e => ?_, ?_⟩, Q6v _, by simp, fun i a _ => hkind i a, fun n n1 n2 hb L => ⟨fun i a b => ?_, L.guides, ?_⟩, ?_⟩
 ·rw [hget i a] at e ⊢
  have b' : i < (Q6r : Int) := by simpa using b
  split at e
  ·rename_i e'; rw [if_pos e']; exact hn e
  ·rename_i e'; rw [if_neg e']; exact X.put i a b' e
 ·have hd := (P.node 0 (Int.le_refl _) (by have := P.nl; omega)).hd
  show (vrOf _ (ndOf A 0).head).kind ≠ 2
  rw [hkind _ hd.1]
  exact X.head
 ·rw [hget i a]
  have b' : i < (Q6r : Int) := by simpa using b
  split
  ·exact fun e => hb e.symm
  ·exact L.vers i a b'
 ·have hd := (P.node n (by omega) n2).hd
  show (vrOf _ (ndOf A n).head).kind ≠ 1
  rw [hkind _ hd.1]
  exact L.kind
 ·have := qzfg (v := v) h0 h1
  show stN A <= (A.vers.set k.toNat v).countP _
  by_cases e1 : (vrOf A k).stamp = -1 <;> by_cases e2 : v.stamp = -1 <;> simp [e1, e2] at this hs <;> omega
theorem Chg.swap {node next : Int} {gone : Bool} {kind : Int} (h0 : 0 <= node) (h1 : node < (Q6q : Int)) (hz : (Q6r : Int) < z) (hn : next = -1 ∨ (1 <= next /\ next < (Q6q : Int))) (hk : 0 <= kind /\ kind <= 2) (hp : kind = 1 -> 1 <= next) (hd : kind = 2 -> node ≠ 0) :
  Chg x y z u A { A with vers := A.vers ++ [⟨next, gone, -1, (ndOf A node).head, kind⟩], nodes := A.nodes.set node.toNat { ndOf A node with head := (Q6r : Int) } } (fun n => n = next ∨ n = node) := by
 generalize hA : ({ A with vers := A.vers ++ [⟨next, gone, -1, (ndOf A node).head, kind⟩], nodes := A.nodes.set node.toNat { ndOf A node with head := (Q6r : Int) } } : Ar) = A'
 have hv1 : ∀ i : Int, 0 <= i -> i < (Q6r : Int) -> vrOf A' i = vrOf A i := fun i a b => by rw [<- hA]; exact qz5z a b
 have hv2 : vrOf A' (Q6r : Int) = ⟨next, gone, -1, (ndOf A node).head, kind⟩ := by rw [<- hA]; exact qz4k rfl
 have hn1 : ∀ i : Int, 0 <= i -> ndOf A' i = if i = node then { ndOf A node with head := (Q6r : Int) } else ndOf A i := fun i a => by rw [<- hA]; exact qz6n h0 h1 a
 have hl : A'.vers.length = Q6r + 1 := by rw [<- hA]; simp
 have hln : A'.nodes.length = Q6q := by rw [<- hA]; simp
 have hg : A'.guides = A.guides := by rw [<- hA]
 refine ⟨by rw [<- hA]; exact P.swap h0 h1 hz hn hk, ⟨fun i a b e => ?_, ?_⟩, by omega, by omega, fun i a b => by rw [hv1 i a b], fun n n1 n2 hb L => ⟨fun i a b => ?_, by rw [hg]; exact L.guides, ?_⟩, ?_⟩
 ·by_cases ei : i = (Q6r : Int)
  ·subst ei; rw [hv2] at e ⊢; exact hp e
  ·rw [hv1 i a (by omega)] at e ⊢; exact X.put i a (by omega) e
 ·rw [hn1 0 (Int.le_refl _)]
  split
  ·rename_i e; rw [hv2]; intro hh; exact hd hh e.symm
  ·have hd := (P.node 0 (Int.le_refl _) (by have := P.nl; omega)).hd
   rw [hv1 _ hd.1 hd.2]; exact X.head
 ·by_cases ei : i = (Q6r : Int)
  ·subst ei; rw [hv2]; exact fun e => hb (Or.inl e.symm)
  ·rw [hv1 i a (by omega)]; exact L.vers i a (by omega)
 ·rw [hn1 n (by omega), if_neg (fun e => hb (Or.inr e))]
  have hd := (P.node n (by omega) n2).hd
  rw [hv1 _ hd.1 hd.2]; exact L.kind
 ·rw [<- hA]; exact qzfa
theorem Chg.make {next key value : Int} (hy : (Q6q : Int) < y) (hz : (Q6r : Int) < z) (hn : next = -1 ∨ (1 <= next /\ next < (Q6q : Int))) (hk : 0 <= key /\ key <= 63) (hv : 0 <= value /\ value <= 9999) :
  Chg x y z u A { A with vers := A.vers ++ [⟨next, false, 0, -1, 0⟩], nodes := A.nodes ++ [⟨key, value, (Q6r : Int)⟩] } (fun n => n = next) /\ qzas { A with vers := A.vers ++ [⟨next, false, 0, -1, 0⟩], nodes := A.nodes ++ [⟨key, value, (Q6r : Int)⟩] } (Q6q : Int) := by
 generalize hA : ({ A with vers := A.vers ++ [⟨next, false, 0, -1, 0⟩], nodes := A.nodes ++ [⟨key, value, (Q6r : Int)⟩] } : Ar) = A'
 have hv1 : ∀ i : Int, 0 <= i -> i < (Q6r : Int) -> vrOf A' i = vrOf A i := fun i a b => by rw [<- hA]; exact qz5z a b
 have hv2 : vrOf A' (Q6r : Int) = ⟨next, false, 0, -1, 0⟩ := by rw [<- hA]; exact qz4k rfl
 have hn1 : ∀ i : Int, 0 <= i -> i < (Q6q : Int) -> ndOf A' i = ndOf A i := fun i a b => by rw [<- hA]; exact qz5z a b
 have hn2 : ndOf A' (Q6q : Int) = ⟨key, value, (Q6r : Int)⟩ := by rw [<- hA]; exact qz4k rfl
 have hl : A'.vers.length = Q6r + 1 := by rw [<- hA]; simp
 have hln : A'.nodes.length = Q6q + 1 := by rw [<- hA]; simp
 have hg : A'.guides = A.guides := by rw [<- hA]
 refine ⟨⟨by rw [<- hA]; exact P.make hy hz hn hk hv, ⟨fun i a b e => ?_, ?_⟩, by omega, by omega, fun i a b => by rw [hv1 i a b], fun n n1 n2 hb L => ⟨fun i a b => ?_, by rw [hg]; exact L.guides, ?_⟩, ?_⟩, ⟨fun i a b => ?_, ?_, ?_⟩⟩
 ·by_cases ei : i = (Q6r : Int)
  ·subst ei; rw [hv2] at e; simp at e
  ·rw [hv1 i a (by omega)] at e ⊢; exact X.put i a (by omega) e
 ·have hd := (P.node 0 (Int.le_refl _) (by have := P.nl; omega)).hd
  rw [hn1 0 (Int.le_refl _) (by have := P.nl; omega), hv1 _ hd.1 hd.2]; exact X.head
 ·by_cases ei : i = (Q6r : Int)
  ·subst ei; rw [hv2]; exact fun e => hb e.symm
  ·rw [hv1 i a (by omega)]; exact L.vers i a (by omega)
 ·have hd := (P.node n (by omega) n2).hd
  rw [hn1 n (by omega) n2, hv1 _ hd.1 hd.2]; exact L.kind
 ·rw [<- hA]; exact qzfa
 ·by_cases ei : i = (Q6r : Int)
  ·subst ei; rw [hv2]; simp only; omega
  ·rw [hv1 i a (by omega)]; have := (P.ver i a (by omega)).nx; omega
 ·rw [hg]; intro g hg'; have := P.guide g hg'; omega
 ·rw [hn2]; simp only; rw [hv2]; simp
theorem Chg.setG {k : Nat} {v : Int} (hv : 0 <= v /\ v < (Q6q : Int)) : Chg x y z u A { A with guides := A.guides.set k v } (fun n => n = v) :=
 ⟨P.setG hv, ⟨X.put, X.head⟩, Q6v _, Q6v _, fun _ _ _ => rfl, fun n _ _ hb L => ⟨L.vers, fun g hg => by
  rcases qz6p hg with rfl | h
  ·exact fun e => hb e.symm
  ·exact L.guides g h, L.kind⟩, Q6v _⟩
theorem Chg.setS {k : Nat} {v : Int} (hv : -1 <= v /\ v <= 100) : Chg x y z u A { A with slots := A.slots.set k v } (fun _ => False) :=
 ⟨P.setS hv, ⟨X.put, X.head⟩, Q6v _, Q6v _, fun _ _ _ => rfl, fun n _ _ hb L => ⟨L.vers, L.guides, L.kind⟩, Q6v _⟩
theorem Chg.tick (h : Q6w < 100) : Chg x y z u A { A with camera := Q6w + 1 } (fun _ => False) :=
 ⟨P.tick h, ⟨X.put, X.head⟩, Q6v _, Q6v _, fun _ _ _ => rfl, fun n _ _ hb L => ⟨L.vers, L.guides, L.kind⟩, Q6v _⟩
end
def qzgb (d : Dd) : Bool := inB d.kind 1 2 && inB d.key 0 63 && inB d.value 0 9999 && inB d.stamp 0 100 && inB d.clock 0 20000
structure qz20 (x y z u : Int) (A : Ar) (h : Hd) (A' : Ar) (h' : Hd) (d : Dd) (tk : Bool) : Prop where
 ar : ArP x y z u A'
 ax : AX A'
 hp : HP A' h'
 nn : Q6q <= A'.nodes.length
 nv : Q6r <= A'.vers.length
 kinds : ∀ v : Int, 0 <= v -> v < (Q6r : Int) -> (vrOf A' v).kind = (vrOf A v).kind
 lone : ∀ n : Int, 1 <= n -> n < (Q6q : Int) -> qzas A n -> Far h n -> (h.new_ = n -> Priv h') -> qzas A' n
 far : ∀ n : Int, 1 <= n -> n < (Q6q : Int) -> qzas A n -> Far h n -> Far h' n
 new : (NewS h h' /\ (Priv h' -> Priv h)) ∨ (h'.new_ = (Q6q : Int) /\ qzas A' h'.new_ /\ Far h' h'.new_)
 cam : A'.camera = Q6w + (if tk then 1 else 0)
 deed : d.kind ≠ 0 -> qzgb d = true
 cnt : stN A + (if d.kind ≠ 0 then 1 else 0) <= stN A'
theorem cam0 (a : Int) : a = a + (if false = true then 1 else 0) := by simp
theorem qz1v {h h' : Hd} (hn : NewS h h') (ha : ¬ (h.then_ = 4 /\ 3 <= h.at_ /\ h.at_ <= 5)) (h10 : h.at_ ≠ 10) : Priv h' -> Priv h := fun p => ⟨by have := p.1; rcases hn with e | e <;> omega, ha, h10⟩
theorem qz20.of {x y z u : Int} {A A' : Ar} {h h' : Hd} {bad : Int -> Prop} (C : Chg x y z u A A' bad) (hp : HP A' h') (hbad : ∀ n : Int, 1 <= n -> n < (Q6q : Int) -> qzas A n -> Far h n -> (h.new_ = n -> Priv h') -> ¬ bad n)
  (hfar : ∀ n : Int, 1 <= n -> n < (Q6q : Int) -> qzas A n -> Far h n -> Far h' n) (hnew : NewS h h') (hpr : Priv h' -> Priv h) {tk : Bool} (hc : A'.camera = Q6w + (if tk then 1 else 0)) : qz20 x y z u A h A' h' qz3u tk :=
 ⟨C.ar, C.ax, hp, C.nn, C.nv, C.kinds, fun n a b L F p => C.lone n a b (hbad n a b L F p) L, hfar, Or.inl ⟨hnew, hpr⟩, hc, fun hk => absurd rfl hk, C.cnt⟩
section
variable {x y z u : Int} {A : Ar} {h : Hd} (P : ArP x y z u A) (X : AX A) (H : HP A h)
include P X H
theorem qzfy (key : Int) : 0 <= qz4o x y z u A key /\ qz4o x y z u A key < (Q6q : Int) /\ ∀ n : Int, 1 <= n -> qzas A n -> qz4o x y z u A key ≠ n := by
 have hn := P.nl
 unfold qz4o
 split
 ·rename_i e
  have hg : (qz3y x y z u key).toNat < Q75 := by
   have hp := P.pl
   have := (qz2n x y z u).1 hp
   have hgl := P.gl
   have e1 := e.1
   unfold qz3y at e1 ⊢
   split at e1
   ·rename_i hh
    rw [if_pos hh]
    simp only [Bool.and_eq_true, qz13] at hh
    have : key * u / 64 <= u - 1 + 1 := by
     have : key * u <= 64 * u := by
      have := Int.mul_le_mul_of_nonneg_right (show key <= 64 by omega) (show 0 <= u by omega)
      exact this
     have := Int.ediv_le_ediv (show (0:Int) < 64 by omega) this
     rw [Int.mul_ediv_cancel_left u (by omega)] at this
     omega
    omega
   ·omega
  have hm := qzdy (d := 0) hg
  have := P.guide _ hm
  exact ⟨this.1, this.2, fun n _ L => L.guides _ hm⟩
 ·exact ⟨Int.le_refl _, by omega, fun n a _ => by omega⟩
theorem qzf1 (me clock : Int) (hck : 0 <= clock /\ clock <= 20000) (h2 : 2 <= h.at_) (h5 : h.at_ <= 5) : qz20 x y z u A h (qz25 A h qz3u clock).1 (qz25 A h qz3u clock).2.1 (qz25 A h qz3u clock).2.2 false := by
 have hc := H.call (by omega)
 have hcam := P.cam
 have H' := H
 obtain ⟨f0, f1, f2, f3, f4, f5, f6, f7, f8, f9, f10, f11, f12, f13, f14, k0, k1, k2, k3, k4, k5, k6, c, dl, n0, l, m, t⟩ := H'
 have hv := P.ver h.ver k4.1 k4.2
 have hon : ∀ {A' : Ar}, ArP x y z u A' -> HP A' h -> 3 <= h.at_ -> HP A' (onH A' h) := fun P' H' h3 => qzi1 P' H' ⟨h3, h5⟩
 unfold qz25
 split
 ·rename_i e
  have hd := (P.node h.x_ k0.1 k0.2).hd
  refine qz20.of (Chg.same P X (fun _ => False)) ?_ (fun _ _ _ _ _ _ h => h) (by exact fun n _ _ _ F => ⟨F.pred, F.curr, F.x⟩) (by exact Or.inl rfl) (by exact qz1v (h := h) (Or.inl rfl) (by omega) (by omega)) (cam0 _)
  constructor <;> dsimp only <;> first | assumption | omega | (intro _; exact hc) | skip
  intro _ _ e2 e3
  rw [e3] at e2
  exact X.head e2
 split
 ·split
  ·refine qz20.of (Chg.same P X (fun _ => False)) (hon P H (by omega)) (fun _ _ _ _ _ _ h => h) (fun n a _ L F => qzg3 F a (L.vers _ k4.1 k4.2)) qzc3 ?_ (cam0 _)
   intro p
   refine qz1v qzc3 (fun e => ?_) (by omega) p
   exact p.2.2 (qz8u e.1)
  ·refine qz20.of (Chg.same P X (fun _ => False)) ?_ (fun _ _ _ _ _ _ h => h) (by exact fun n _ _ _ F => ⟨F.pred, F.curr, F.x⟩) (by exact Or.inl rfl) ?_ (cam0 _)
   ·constructor <;> dsimp only <;> first | assumption | omega | (intro _; exact hc) | (intro _ _; exact dl (by omega) (by omega))
   ·intro p
    refine qz1v (h' := { h with at_ := 4 }) (Or.inl rfl) (fun e => p.2.1 ⟨e.1, by dsimp only; omega⟩) (by omega) p
 split
 ·refine qz20.of (Chg.same P X (fun _ => False)) ?_ (fun _ _ _ _ _ _ h => h) (by exact fun n _ _ _ F => ⟨F.pred, F.curr, F.x⟩) (by exact Or.inl rfl) ?_ (cam0 _)
  ·constructor <;> dsimp only <;> first | assumption | omega | (intro _; exact hc) | (intro _ _; exact dl (by omega) (by omega))
  ·intro p
   refine qz1v (h' := { h with cam := Q6w, camAt := clock, at_ := 5 }) (Or.inl rfl) (fun e => p.2.1 ⟨e.1, by dsimp only; omega⟩) (by omega) p
 split
 ·split
  ·refine qz20.of (Chg.same P X (fun _ => False)) (hon P H (by omega)) (fun _ _ _ _ _ _ h => h) (fun n a _ L F => qzg3 F a (L.vers _ k4.1 k4.2)) qzc3 ?_ (cam0 _)
   intro p
   refine qz1v qzc3 (fun e => ?_) (by omega) p
   exact p.2.2 (qz8u e.1)
  ·rename_i hst
   have hun : (vrOf A h.ver).stamp = -1 := by
    simp only [qz32, Bool.and_eq_true, qz13, bne_iff_ne, ne_eq, not_and, Decidable.not_not] at hst
    exact hst (by omega)
   have C := Chg.setV P X (k := h.ver) (v := { vrOf A h.ver with stamp := min h.cam Q6w }) k4.1 k4.2 ⟨hv.nx, by dsimp only; omega, hv.pv, hv.kd⟩ rfl (X.put h.ver k4.1 k4.2) (fun e => absurd hun e)
   have hself : vrOf (qz5e A h) h.ver = { vrOf A h.ver with stamp := min h.cam Q6w } := by
    refine (qz6n k4.1 k4.2 k4.1).trans (if_pos rfl)
   have hs := H.stay C.nn C.nv C.kinds
   have hkind : (qz4i (qz5e A h) h).kind = (vrOf A h.ver).kind := by
    unfold qz4i
    rw [hself]
    dsimp only
    split
    ·rename_i e; rw [e]; rfl
    ·rfl
   refine ⟨C.ar, C.ax, hon C.ar hs (by omega), C.nn, C.nv, C.kinds, fun n a b L F p => ?_, fun n a b L F => ?_, Or.inl ⟨qzc3, ?_⟩, by simp [qz5e], fun hk => ?_, ?_⟩
   ·exact C.lone n a b (fun e => L.vers h.ver k4.1 k4.2 e.symm) L
   ·refine qzg3 F a ?_
    rw [hself]
    exact L.vers h.ver k4.1 k4.2
   ·intro p
    refine qz1v qzc3 (fun e => ?_) (by omega) p
    exact p.2.2 (qz8u e.1)
   ·have hk0 := hk
    rw [hkind] at hk
    have hn2 : 1 <= qze0 (qz5e A h) h /\ qze0 (qz5e A h) h < (Q6q : Int) := by
     unfold qze0
     rw [hself]
     dsimp only
     split
     ·rename_i e
      have := X.put h.ver k4.1 k4.2 e
      have := hv.nx
      omega
     ·have := hv.kd
      have := dl (by omega) (by omega) (by omega)
      omega
    have hnd := P.node _ (by omega) hn2.2
    have hnd' : ndOf (qz5e A h) (qze0 (qz5e A h) h) = ndOf A (qze0 (qz5e A h) h) := rfl
    have := hnd.k1 (by omega)
    have := hnd.v1
    have := hv.kd
    unfold qz4i
    rw [if_neg (by rw [hself]; exact hk)]
    rw [hself, hnd']
    simp only [qzgb, Bool.and_eq_true, qz13]
    omega
   ·rw [hkind]
    have := qzfg (A := A) (v := { vrOf A h.ver with stamp := min h.cam Q6w }) k4.1 k4.2
    have e2 : min h.cam Q6w ≠ -1 := by omega
    show _ <= (A.vers.set h.ver.toNat _).countP _
    rw [if_neg (fun h => h hun), if_pos e2] at this
    split <;> omega
 ·omega
end
section
variable {x y z u : Int} {A : Ar} {h : Hd} (P : ArP x y z u A) (X : AX A) (H : HP A h)
include P X H
theorem qz5m {node v next : Int} {gone : Bool} {kind : Int} (h0 : 0 <= node) (h1 : node < (Q6q : Int)) (hn : next = -1 ∨ (1 <= next /\ next < (Q6q : Int))) (hk : 0 <= kind /\ kind <= 2) (hp : kind = 1 -> 1 <= next) (hd : kind = 2 -> node ≠ 0) :
  (qz14 z A node v next gone kind = (A, -2) ∨ qz14 z A node v next gone kind = (A, -1)) ∨ (∃ A', qz14 z A node v next gone kind = (A', (Q6r : Int)) /\ Chg x y z u A A' (fun n => n = next ∨ n = node) /\ A'.camera = Q6w /\ A'.vers.length = Q6r + 1 /\ A'.nodes.length = Q6q /\ (vrOf A' (Q6r : Int)).kind = kind) := by
 unfold qz14
 split
 ·exact Or.inl (Or.inl rfl)
 ·split
  ·exact Or.inl (Or.inr rfl)
  ·rename_i e1 e2
   have e2 : (ndOf A node).head = v := Decidable.not_not.1 e2
   subst e2
   exact Or.inr ⟨_, rfl, Chg.swap P X h0 h1 (by omega) hn hk hp hd, rfl, by simp, by simp, congrArg Vr.kind (qz4k (l := A.vers) rfl)⟩
theorem qzes (ha : h.at_ = 1 ∨ h.at_ = 6) : qz20 x y z u A h (qz22 x y z u A h).1 (qz22 x y z u A h).2 qz3u false := by
 have hc := H.call (by omega)
 have hsi := qzfy P X H h.key
 have H' := H
 obtain ⟨f0, f1, f2, f3, f4, f5, f6, f7, f8, f9, f10, f11, f12, f13, f14, k0, k1, k2, k3, k4, k5, k6, c, dl, n0, l, m, t⟩ := H'
 unfold qz22
 split
 ·refine qz20.of (Chg.same P X (fun _ => False)) ?_ (fun _ _ _ _ _ _ h => h) (by exact fun n a _ L F => ⟨F.pred, F.curr, fun e => absurd e (hsi.2.2 n a L)⟩) (by exact Or.inl rfl) (by exact qz1v (h := h) (Or.inl rfl) (by omega) (by omega)) (cam0 _)
  have := hsi.1
  have := hsi.2.1
  constructor <;> dsimp only <;> first | assumption | omega | (intro _; exact hc)
 ·have e6 : h.at_ = 6 := by omega
  have t2 := t e6
  have hnx := (P.ver h.currVer k6.1 k6.2).nx
  rcases qz5m P X H (v := h.predVer) (gone := false) k1.1 k1.2 hnx (show (0:Int) <= 0 /\ (0:Int) <= 2 by omega) (by omega) (by omega) with (e | e) | ⟨A', e, C, cc, lv, ln, kk⟩
  ·rw [e]
   dsimp only
   rw [if_pos rfl]
   exact qz20.of (Chg.same P X (fun _ => False)) (HP.rest P.nl.1 P.vl.1 (by omega) (by omega) (by omega) f11) (fun _ _ _ _ _ _ h => h) (fun n a _ _ _ => Far.rest a) (Or.inr rfl) (qz1v (Or.inr rfl) (by omega) (by omega)) (cam0 _)
  ·rw [e]
   dsimp only
   rw [if_neg (by omega), if_pos rfl]
   refine qz20.of (Chg.same P X (fun _ => False)) ?_ (fun _ _ _ _ _ _ h => h) (by exact fun n a _ L F => ⟨F.pred, F.curr, F.x⟩) (by exact Or.inl rfl) (by exact qz1v (h := h) (Or.inl rfl) (by omega) (by omega)) (cam0 _)
   constructor <;> dsimp only <;> first | assumption | omega | (intro _; exact hc)
  ·rw [e]
   dsimp only
   rw [if_neg (by omega), if_neg (by omega)]
   refine qz20.of C ?_ (fun n a b L F _ hb => ?_) (by exact fun n a _ L F => ⟨F.pred, F.curr, fun e => by have := F.x e; omega⟩) (by exact Or.inl rfl) (by exact qz1v (h := h) (Or.inl rfl) (by omega) (by omega)) (by rw [cc]; exact cam0 _)
   ·constructor <;> dsimp only <;> first | assumption | omega | (intro _; exact hc)
   ·rcases hb with hb | hb
    ·exact L.vers h.currVer k6.1 k6.2 hb.symm
    ·exact F.pred hb.symm
theorem qze3 : aimI h = -1 ∨ (1 <= aimI h /\ aimI h < (Q6q : Int) /\ aimI h = h.curr) := by
 have := H.k2
 unfold aimI
 split <;> omega
theorem qzdo : qz3b y z A h = (A, qz9 h 5 0 0) ∨ ∃ A', qz3b y z A h = (A', { h with new_ := (Q6q : Int), at_ := 9 }) /\ Chg x y z u A A' (fun n => n = aimI h) /\ qzas A' (Q6q : Int) /\ A'.camera = Q6w /\ A'.vers.length = Q6r + 1 /\ A'.nodes.length = Q6q + 1 := by
 have haim := qze3 P X H
 have := H.f4
 have := H.f5
 unfold qz3b
 split
 ·exact Or.inl rfl
 ·rename_i hroom
  obtain ⟨C, L⟩ := Chg.make P X (next := aimI h) (key := max h.key 0) (value := h.value) (by omega) (by omega) (by omega) (by omega) H.f5
  exact Or.inr ⟨_, rfl, C, L, rfl, by simp, by simp⟩
theorem qzef (e7 : h.at_ = 7) : qz20 x y z u A h (qz3b y z A h).1 (qz3b y z A h).2 qz3u false := by
 have hc := H.call (by omega)
 have haim := qze3 P X H
 have hnl := P.nl
 rcases qzdo P X H with e | ⟨A', e, C, L, cc, lv, ln⟩
 ·rw [e]
  exact qz20.of (Chg.same P X (fun _ => False)) (HP.rest P.nl.1 P.vl.1 (by omega) (by omega) (by omega) H.f11) (fun _ _ _ _ _ _ h => h) (fun n a _ _ _ => Far.rest a) (Or.inr rfl) (qz1v (Or.inr rfl) (by omega) (by omega)) (cam0 _)
 ·rw [e]
  have H' := H
  obtain ⟨f0, f1, f2, f3, f4, f5, f6, f7, f8, f9, f10, f11, f12, f13, f14, k0, k1, k2, k3, k4, k5, k6, c, dl, n0, l, m, t⟩ := H'
  refine ⟨C.ar, C.ax, ?_, C.nn, C.nv, C.kinds, fun n a b L' F _ => C.lone n a b (fun hb => ?_) L', fun n a b L F => ⟨F.pred, F.curr, F.x⟩, Or.inr ⟨rfl, L, ?_⟩, by rw [cc]; exact cam0 _, fun hk => absurd rfl hk, C.cnt⟩
  ·constructor <;> dsimp only <;> first | assumption | omega | (intro _; exact hc)
  ·have hb' : n = aimI h := hb
   have := F.curr
   omega
  ·exact ⟨by dsimp only; omega, by dsimp only; omega, fun e => by dsimp only at e; omega⟩
theorem qzfn (own : Priv h -> qzas A h.new_) (e8 : h.at_ = 8) : qz20 x y z u A h (if 0 <= h.new_ then { A with vers := A.vers.set (ndOf A h.new_).head.toNat { vrOf A (ndOf A h.new_).head with next := aimI h } } else A) { h with at_ := 9 } qz3u false := by
 have hc := H.call (by omega)
 have haim := qze3 P X H
 have hnew := H.lnk (Or.inl e8)
 have hpr : Priv h := ⟨hnew, by omega, by omega⟩
 have L := own hpr
 have hd := (P.node h.new_ (by omega) H.k3.2).hd
 have hv := P.ver _ hd.1 hd.2
 rw [if_pos (by omega)]
 have C := Chg.setV P X (k := (ndOf A h.new_).head) (v := { vrOf A (ndOf A h.new_).head with next := aimI h }) hd.1 hd.2 ⟨by dsimp only; omega, hv.st, hv.pv, hv.kd⟩ rfl (fun e => absurd e L.kind) (fun e => e)
 have cc : ({ A with vers := A.vers.set (ndOf A h.new_).head.toNat { vrOf A (ndOf A h.new_).head with next := aimI h } } : Ar).camera = Q6w := rfl
 dsimp only at C
 generalize ({ A with vers := A.vers.set (ndOf A h.new_).head.toNat { vrOf A (ndOf A h.new_).head with next := aimI h } } : Ar) = A' at C cc ⊢
 have hs := H.stay C.nn C.nv C.kinds
 obtain ⟨g0, g1, g2, g3, g4, g5, g6, g7, g8, g9, g10, g11, g12, g13, g14, j0, j1, j2, j3, j4, j5, j6, c', dl', n0', l', m', t'⟩ := hs
 refine qz20.of C ?_ (fun n a b L F _ hb => ?_) (by exact fun n a _ L F => ⟨F.pred, F.curr, F.x⟩) (by exact Or.inl rfl) (by exact qz1v (h := h) (Or.inl rfl) (by omega) (by omega)) (by rw [cc]; exact cam0 _)
 ·constructor <;> dsimp only <;> first | assumption | omega | (intro _; exact hc)
 ·have hb' : n = aimI h := hb
  have := F.curr
  omega
theorem qzc4 (own : Priv h -> qzas A h.new_) (ha : 7 <= h.at_ /\ h.at_ <= 12) : qz20 x y z u A h (qzw x y z u A h).1 (qzw x y z u A h).2 qz3u false := by
 have hc := H.call (by omega)
 have haim := qze3 P X H
 have H' := H
 obtain ⟨f0, f1, f2, f3, f4, f5, f6, f7, f8, f9, f10, f11, f12, f13, f14, k0, k1, k2, k3, k4, k5, k6, c, dl, n0, l, m, t⟩ := H'
 have hnl := P.nl
 have hvl := P.vl
 have hnx := (P.ver h.currVer k6.1 k6.2).nx
 unfold qzw
 split
 ·exact qzef P X H (by assumption)
 split
 ·exact qzfn P X H own (by assumption)
 split
 ·rename_i e9
  have hnew := l (Or.inr e9)
  have hni : newI h = h.new_ := by unfold newI; rw [if_neg (by omega)]
  rw [hni]
  rcases qz5m P X H (v := h.predVer) (next := h.new_) (gone := false) k1.1 k1.2 (by omega) (show (0:Int) <= 1 /\ (1:Int) <= 2 by omega) (by omega) (by omega) with (e | e) | ⟨A', e, C, cc, lv, ln, kk⟩
  ·rw [e]
   exact qz20.of (Chg.same P X (fun _ => False)) (HP.rest P.nl.1 P.vl.1 (by omega) (by omega) (by omega) f11) (fun _ _ _ _ _ _ h => h) (fun n a _ _ _ => Far.rest a) (Or.inr rfl) (qz1v (Or.inr rfl) (by omega) (by omega)) (cam0 _)
  ·rw [e]
   refine qz20.of (h' := { h with at_ := 1 }) (Chg.same P X (fun _ => False)) ?_ (fun _ _ _ _ _ _ h => h) (by exact fun n a _ L F => ⟨F.pred, F.curr, F.x⟩) (by exact Or.inl rfl) (by exact qz1v (h := h) (Or.inl rfl) (by omega) (by omega)) (cam0 _)
   constructor <;> dsimp only <;> first | assumption | omega | (intro _; exact hc)
  ·rw [e]
   dsimp only
   rw [show qz79 (A.vers.length : Int) h h.pred 4 = { h with ver := (A.vers.length : Int), x_ := h.pred, then_ := 4, at_ := 3 } by unfold qz79; rw [if_neg (by omega), if_neg (by omega)]]
   refine qz20.of C ?_ (fun n a b L F p hb => ?_) (by exact fun n a _ L F => ⟨F.pred, F.curr, fun e => absurd e F.pred⟩) (by exact Or.inl rfl) (by exact qz1v (h := h) (Or.inl rfl) (by omega) (by omega)) (by rw [cc]; exact cam0 _)
   ·constructor <;> dsimp only <;> first | assumption | omega | (intro _; exact hc)
   ·rcases hb with hb | hb
    ·exact (p hb.symm).2.1 ⟨rfl, by dsimp only; omega⟩
    ·exact F.pred hb.symm
 split
 ·split
  ·rename_i hg
   refine qz20.of (Chg.setG P X (k := (qz4j x y z u h.key).toNat) (v := h.new_) (by omega)) (HP.rest (A := { A with guides := A.guides.set (qz4j x y z u h.key).toNat h.new_ }) P.nl.1 P.vl.1 (by omega) (by omega) (by omega) f11) (fun n a b L F p hb => ?_) (fun n a _ _ _ => Far.rest a) (Or.inr rfl) (fun p => by have := p.1; simp only [qz9] at this; omega) (cam0 _)
   have := (p hb.symm).1
   simp only [qz9] at this
   omega
  ·exact qz20.of (Chg.same P X (fun _ => False)) (HP.rest P.nl.1 P.vl.1 (by omega) (by omega) (by omega) f11) (fun _ _ _ _ _ _ h => h) (fun n a _ _ _ => Far.rest a) (Or.inr rfl) (fun p => by have := p.1; simp only [qz9] at this; omega) (cam0 _)
 split
 ·rename_i e11
  have hcu := m e11
  have hmx : max h.curr 0 = h.curr := by omega
  rw [hmx]
  rcases qz5m P X H (node := h.curr) (v := h.currVer) (gone := true) (by omega) k2.2 hnx (show (0:Int) <= 2 /\ (2:Int) <= 2 by omega) (by omega) (by omega) with (e | e) | ⟨A', e, C, cc, lv, ln, kk⟩
  ·rw [e]
   exact qz20.of (Chg.same P X (fun _ => False)) (HP.rest P.nl.1 P.vl.1 (by omega) (by omega) (by omega) f11) (fun _ _ _ _ _ _ h => h) (fun n a _ _ _ => Far.rest a) (Or.inr rfl) (qz1v (Or.inr rfl) (by omega) (by omega)) (cam0 _)
  ·rw [e]
   refine qz20.of (h' := { h with at_ := 1 }) (Chg.same P X (fun _ => False)) ?_ (fun _ _ _ _ _ _ h => h) (by exact fun n a _ L F => ⟨F.pred, F.curr, F.x⟩) (by exact Or.inl rfl) (by exact qz1v (h := h) (Or.inl rfl) (by omega) (by omega)) (cam0 _)
   constructor <;> dsimp only <;> first | assumption | omega | (intro _; exact hc)
  ·rw [e]
   dsimp only
   rw [show qz79 (A.vers.length : Int) h h.curr 5 = { h with ver := (A.vers.length : Int), x_ := h.curr, then_ := 5, at_ := 3 } by unfold qz79; rw [if_neg (by omega), if_neg (by omega)]]
   refine qz20.of C ?_ (fun n a b L F p hb => ?_) (by exact fun n a _ L F => ⟨F.pred, F.curr, fun e => absurd e F.curr⟩) (by exact Or.inl rfl) (by exact qz1v (h := h) (Or.inl rfl) (by omega) (by omega)) (by rw [cc]; exact cam0 _)
   ·constructor <;> dsimp only <;> first | assumption | omega | (intro _; exact hc)
   ·rcases hb with hb | hb
    ·exact L.vers h.currVer k6.1 k6.2 hb.symm
    ·exact F.curr hb.symm
 split
 ·rcases qz5m P X H (v := h.predVer) (gone := false) k1.1 k1.2 hnx (show (0:Int) <= 0 /\ (0:Int) <= 2 by omega) (by omega) (by omega) with (e | e) | ⟨A', e, C, cc, lv, ln, kk⟩
  ·rw [e]
   exact qz20.of (Chg.same P X (fun _ => False)) (HP.rest P.nl.1 P.vl.1 (by omega) (qzh1 P (by omega) (by omega)) (by omega) f11) (fun _ _ _ _ _ _ h => h) (fun n a _ _ _ => Far.rest a) (Or.inr rfl) (qz1v (Or.inr rfl) (by omega) (by omega)) (cam0 _)
  ·rw [e]
   exact qz20.of (Chg.same P X (fun _ => False)) (HP.rest P.nl.1 P.vl.1 (by omega) (qzh1 P (by omega) (by omega)) (by omega) f11) (fun _ _ _ _ _ _ h => h) (fun n a _ _ _ => Far.rest a) (Or.inr rfl) (qz1v (Or.inr rfl) (by omega) (by omega)) (cam0 _)
  ·rw [e]
   refine qz20.of C (HP.rest C.ar.nl.1 C.ar.vl.1 (by omega) (qzh1 C.ar (by omega) (by omega)) (by omega) f11) (fun n a b L F p hb => ?_) (fun n a _ _ _ => Far.rest a) (Or.inr rfl) (qz1v (Or.inr rfl) (by omega) (by omega)) (by rw [cc]; exact cam0 _)
   rcases hb with hb | hb
   ·exact L.vers h.currVer k6.1 k6.2 hb.symm
   ·exact F.pred hb.symm
 ·omega
end
section
variable {x y z u : Int} {A : Ar} {h : Hd} (P : ArP x y z u A) (X : AX A) (H : HP A h)
include P X H
theorem qzat (me : Int) (ha : 13 <= h.at_ /\ h.at_ <= 18) : qz20 x y z u A h (qzo A h me false).1 (qzo A h me false).2.1 qz3u (qzo A h me false).2.2 := by
 have hc := H.call (by omega)
 have hcam := P.cam
 have H' := H
 obtain ⟨f0, f1, f2, f3, f4, f5, f6, f7, f8, f9, f10, f11, f12, f13, f14, k0, k1, k2, k3, k4, k5, k6, c, dl, n0, l, m, t⟩ := H'
 unfold qzo
 split
 ·refine qz20.of (Chg.same P X (fun _ => False)) ?_ (fun _ _ _ _ _ _ h => h) (by exact fun n a _ L F => ⟨F.pred, F.curr, F.x⟩) (by exact Or.inl rfl) (by exact qz1v (h := h) (Or.inl rfl) (by omega) (by omega)) (cam0 _)
  constructor <;> dsimp only <;> first | assumption | omega | (intro _; exact hc)
 split
 ·refine qz20.of (Chg.setS P X (by omega)) ?_ (fun _ _ _ _ _ _ h => h) (by exact fun n a _ L F => ⟨F.pred, F.curr, F.x⟩) (by exact Or.inl rfl) (by exact qz1v (h := h) (Or.inl rfl) (by omega) (by omega)) (cam0 _)
  constructor <;> dsimp only <;> first | assumption | omega | (intro _; exact hc)
 split
 ·split
  ·refine qz20.of (Chg.same P X (fun _ => False)) ?_ (fun _ _ _ _ _ _ h => h) (by exact fun n a _ L F => ⟨F.pred, F.curr, F.x⟩) (by exact Or.inl rfl) (by exact qz1v (h := h) (Or.inl rfl) (by omega) (by omega)) (cam0 _)
   constructor <;> dsimp only <;> first | assumption | omega | (intro _; exact hc)
  ·refine qz20.of (Chg.same P X (fun _ => False)) ?_ (fun _ _ _ _ _ _ h => h) (by exact fun n a _ L F => ⟨F.pred, F.curr, F.x⟩) (by exact Or.inl rfl) (by exact qz1v (h := h) (Or.inl rfl) (by omega) (by omega)) (cam0 _)
   constructor <;> dsimp only <;> first | assumption | omega | (intro _; exact hc)
 split
 ·split
  ·rename_i e
   exact qz20.of (Chg.tick P X (by omega)) (HP.rest (A := { A with camera := Q6w + 1 }) P.nl.1 P.vl.1 (by omega) (by omega) (by omega) (by dsimp only; omega)) (fun _ _ _ _ _ _ h => h) (fun n a _ _ _ => Far.rest a) (Or.inr rfl) (qz1v (Or.inr rfl) (by omega) (by omega)) (by simp)
  ·exact qz20.of (Chg.same P X (fun _ => False)) (HP.rest P.nl.1 P.vl.1 (by omega) (by omega) (by omega) (by dsimp only; omega)) (fun _ _ _ _ _ _ h => h) (fun n a _ _ _ => Far.rest a) (Or.inr rfl) (qz1v (Or.inr rfl) (by omega) (by omega)) (cam0 _)
 split
 ·exact qz20.of (Chg.setS P X (by omega)) ((HP.rest (A := A) (h := h) (rp := 6) (ot := 0) (sm := 0) P.nl.1 P.vl.1 (by omega) (by omega) (by omega) f11).stay (Q6v _) (Q6v _) (fun _ _ _ => rfl)) (fun _ _ _ _ _ _ h => h) (by exact fun n a _ _ _ => Far.rest a) (by exact Or.inr rfl) (by exact qz1v (h := h) (Or.inr rfl) (by omega) (by omega)) (cam0 _)
 split
 ·exact qz20.of (Chg.setS P X (by omega)) ((HP.rest (A := A) (h := { h with held := -1 }) (rp := 4) (ot := 0) (sm := 0) P.nl.1 P.vl.1 (by omega) (by omega) (by omega) (by dsimp only; omega)).stay (Q6v _) (Q6v _) (fun _ _ _ => rfl)) (fun _ _ _ _ _ _ h => h) (by exact fun n a _ _ _ => Far.rest a) (by exact Or.inr rfl) (by exact qz1v (h := h) (Or.inr rfl) (by omega) (by omega)) (cam0 _)
 ·omega
theorem qzel (ha : h.at_ = 19) : qz20 x y z u A h A (qzb0 A h) qz3u false := by
 have hc := H.call (by omega)
 have hpv := (P.ver h.ver H.k4.1 H.k4.2).pv
 have hk4 := H.k4
 have H2 : 0 <= (vrOf A h.ver).prev -> HP A { h with ver := (vrOf A h.ver).prev } := fun hp => by
  have H' := H
  obtain ⟨f0, f1, f2, f3, f4, f5, f6, f7, f8, f9, f10, f11, f12, f13, f14, k0, k1, k2, k3, k4, k5, k6, c, dl, n0, l, m, t⟩ := H'
  constructor <;> dsimp only <;> first | assumption | omega
 unfold qzb0
 split
 ·exact qz20.of (Chg.same P X (fun _ => False)) (HP.rest P.nl.1 P.vl.1 (by omega) (by omega) (by omega) H.f11) (fun _ _ _ _ _ _ h => h) (fun n a _ _ _ => Far.rest a) (Or.inr rfl) (qz1v (Or.inr rfl) (by omega) (by omega)) (cam0 _)
 ·rename_i hp
  split
  ·refine qz20.of (h := h) (Chg.same P X (fun _ => False)) (qzgo P (H2 (by omega)) (by dsimp only; omega)) (fun _ _ _ _ _ _ h => h) (fun n a _ L F => qzfh ⟨F.pred, F.curr, F.x⟩ a (L.vers _ (by dsimp only; omega) (by dsimp only; omega))) (qzd9 (h := { h with ver := (vrOf A h.ver).prev })) (qz1v (h := h) (qzd9 (h := { h with ver := (vrOf A h.ver).prev })) (by omega) (by omega)) (cam0 _)
  ·exact qz20.of (h := h) (Chg.same P X (fun _ => False)) (H2 (by omega)) (fun _ _ _ _ _ _ h => h) (fun n a _ L F => ⟨F.pred, F.curr, F.x⟩) (Or.inl rfl) (qz1v (h := h) (Or.inl rfl) (by omega) (by omega)) (cam0 _)
theorem qzec (ha : h.at_ = 21) : qz20 x y z u A h A (qz80 A h) qz3u false := by
 have hc := H.call (by omega)
 have hnl := P.nl
 have hl : 0 <= qzdx A h /\ qzdx A h <= 100 := by
  have := H.f13
  unfold qzdx
  split
  ·rename_i e
   have := P.slot _ (qzdy (l := A.slots) (d := 0) (k := h.index.toNat) (by have := H.f14; omega))
   omega
  ·omega
 have H' := H
 obtain ⟨f0, f1, f2, f3, f4, f5, f6, f7, f8, f9, f10, f11, f12, f13, f14, k0, k1, k2, k3, k4, k5, k6, c, dl, n0, l, m, t⟩ := H'
 unfold qz80
 split
 ·refine qz20.of (Chg.same P X (fun _ => False)) ?_ (fun _ _ _ _ _ _ h => h) (by exact fun n a _ L F => ⟨F.pred, F.curr, fun _ => rfl⟩) (by exact Or.inl rfl) (by exact qz1v (h := h) (Or.inl rfl) (by omega) (by omega)) (cam0 _)
  constructor <;> dsimp only <;> first | assumption | omega | (intro _; exact hc)
 ·refine qz20.of (Chg.same P X (fun _ => False)) ?_ (fun _ _ _ _ _ _ h => h) (by exact fun n a _ L F => ⟨F.pred, F.curr, F.x⟩) (by exact Or.inl rfl) (by exact qz1v (h := h) (Or.inl rfl) (by omega) (by omega)) (cam0 _)
  constructor <;> dsimp only <;> first | assumption | omega | (intro _; exact hc)
theorem qzfk (ha : h.at_ = 20 ∨ h.at_ = 22 ∨ h.at_ = 23) : qz20 x y z u A h (qz4g A h).1 (qz4g A h).2 qz3u false := by
 have hc := H.call (by omega)
 have hcam := P.cam
 have hv := P.ver h.ver H.k4.1 H.k4.2
 have hpv := hv.pv
 have H' := H
 obtain ⟨f0, f1, f2, f3, f4, f5, f6, f7, f8, f9, f10, f11, f12, f13, f14, k0, k1, k2, k3, k4, k5, k6, c, dl, n0, l, m, t⟩ := H'
 unfold qz4g
 split
 ·refine qz20.of (Chg.same P X (fun _ => False)) ?_ (fun _ _ _ _ _ _ h => h) (by exact fun n a _ L F => ⟨F.pred, F.curr, F.x⟩) (by exact Or.inl rfl) (by exact qz1v (h := h) (Or.inl rfl) (by omega) (by omega)) (cam0 _)
  constructor <;> dsimp only <;> first | assumption | omega | (intro _; exact hc)
 split
 ·split
  ·exact qz20.of (Chg.same P X (fun _ => False)) (qzdb P H (by omega)) (fun _ _ _ _ _ _ h => h) (fun n a _ L F => qzam F a) qz62 (qz1v qz62 (by omega) (by omega)) (cam0 _)
  ·split
   ·refine qz20.of (Chg.same P X (fun _ => False)) ?_ (fun _ _ _ _ _ _ h => h) (by exact fun n a _ L F => ⟨F.pred, F.curr, F.x⟩) (by exact Or.inl rfl) (by exact qz1v (h := h) (Or.inl rfl) (by omega) (by omega)) (cam0 _)
    constructor <;> dsimp only <;> first | assumption | omega | (intro _; exact hc)
   ·refine qz20.of (Chg.same P X (fun _ => False)) ?_ (fun _ _ _ _ _ _ h => h) (by exact fun n a _ L F => ⟨F.pred, F.curr, F.x⟩) (by exact Or.inl rfl) (by exact qz1v (h := h) (Or.inl rfl) (by omega) (by omega)) (cam0 _)
    constructor <;> dsimp only <;> first | assumption | omega | (intro _; exact hc)
 split
 ·split
  ·exact qz20.of (Chg.same P X (fun _ => False)) (qzdb P H (by omega)) (fun _ _ _ _ _ _ h => h) (fun n a _ L F => qzam F a) qz62 (qz1v qz62 (by omega) (by omega)) (cam0 _)
  ·have C := Chg.setV P X (k := h.ver) (v := { vrOf A h.ver with prev := -1 }) k4.1 k4.2 ⟨hv.nx, hv.st, by dsimp only; omega, hv.kd⟩ rfl (X.put h.ver k4.1 k4.2) (fun e => e)
   have C' : Chg x y z u A (qzaa A h) (fun n => n = (vrOf A h.ver).next) := C
   have cc : (qzaa A h).camera = Q6w := rfl
   dsimp only
   generalize qzaa A h = A' at C' cc ⊢
   have hs := H.stay C'.nn C'.nv C'.kinds
   have hs2 : HP A' { h with out := min (h.out + 1) 1000000 } := by
    obtain ⟨g0, g1, g2, g3, g4, g5, g6, g7, g8, g9, g10, g11, g12, g13, g14, j0, j1, j2, j3, j4, j5, j6, c', dl', n0', l', m', t'⟩ := hs
    constructor <;> dsimp only <;> first | assumption | omega
   refine qz20.of (h := h) C' (qzdb C'.ar hs2 (by dsimp only; omega)) (fun n a b L F _ hb => L.vers h.ver k4.1 k4.2 hb.symm) (fun n a _ L F => qzam ⟨F.pred, F.curr, F.x⟩ a) (qz62 (h := { h with out := min (h.out + 1) 1000000 })) (qz1v (h := h) (qz62 (h := { h with out := min (h.out + 1) 1000000 })) (by omega) (by omega)) (by rw [cc]; exact cam0 _)
 ·omega
theorem qzgv (own : Priv h -> qzas A h.new_) (me clock : Int) (hck : 0 <= clock /\ clock <= 20000) (h1 : 1 <= h.at_) : qz20 x y z u A h Q4e.1 Q4e.2.1 Q4e.2.2.1 Q4e.2.2.2 := by
 have hf := H.f0
 unfold qz18
 split
 ·exact qzes P X H (by assumption)
 split
 ·exact qzf1 P X H me clock hck (by omega) (by omega)
 split
 ·exact qzc4 P X H own (by omega)
 split
 ·exact qzat P X H me (by omega)
 split
 ·exact qzel P X H (by assumption)
 split
 ·exact qzec P X H (by assumption)
 ·exact qzfk P X H (by omega)
end
end
end Go.Proofs.YthjkdnlmopafkaaGreatDoor
