/-
  What the law's proof goes by, part 29.
-/
import Derived.Test.YthjkdnlmopafkaaFnBlank00
import Derived.Test.YthjkdnlmopafkaaFnBlank27
namespace Go.Proofs.Ythjkdnlmopafkaa
open Go.ChangeShapes Go.WideShapes Go.ChangeAt Go.RowKit
set_option maxRecDepth 100000
set_option maxHeartbeats 16000000
set_option linter.unusedVariables false
set_option linter.unusedSimpArgs false
set_option linter.unnecessarySimpa false
set_option linter.unusedSectionVars false
section
def stN (A : Ar) : Nat := A.vers.countP (fun v => v.stamp != -1)
theorem qze5 (A : Ar) : stN A <= Q6a := List.countP_le_length
theorem qzd7 {A : Ar} {k : Int} {v : Vr} (h0 : 0 <= k) (h1 : k < (Q6a : Int)) : (A.vers.set k.toNat v).countP (fun v => v.stamp != -1) + (if (vrOf A k).stamp ≠ -1 then 1 else 0) = stN A + (if v.stamp ≠ -1 then 1 else 0) := by
 have hl : k.toNat < Q6a := by omega
 have e : vrOf A k = A.vers[k.toNat] := qz78 hl
 unfold stN
 rw [List.countP_set hl, e]
 have hp : A.vers[k.toNat].stamp ≠ -1 -> 0 < A.vers.countP (fun v => v.stamp != -1) := fun h => List.countP_pos_iff.2 ⟨_, List.getElem_mem hl, by simpa using h⟩
 generalize A.vers.countP (fun v => v.stamp != -1) = c at *
 generalize A.vers[k.toNat] = q at *
 by_cases e1 : q.stamp = -1 <;> by_cases e2 : v.stamp = -1 <;> simp [e1, e2] at hp ⊢ <;> omega
theorem qzd9 {A : Ar} {v : Vr} : stN A <= (A.vers ++ [v]).countP (fun v => v.stamp != -1) := by
 unfold stN
 rw [List.countP_append]
 omega
structure Chg (x y z u : Int) (A A' : Ar) (bad : Int -> Prop) : Prop where
 ar : ArP x y z u A'
 ax : AX A'
 nn : Q69 <= A'.nodes.length
 nv : Q6a <= A'.vers.length
 kinds : ∀ v : Int, 0 <= v -> v < (Q6a : Int) -> (vrOf A' v).kind = (vrOf A v).kind
 lone : ∀ n : Int, 1 <= n -> n < (Q69 : Int) -> ¬ bad n -> qz9e A n -> qz9e A' n
 cnt : stN A <= stN A'
section
variable {x y z u : Int} {A : Ar} (P : ArP x y z u A) (X : AX A)
include P X
theorem Chg.same (bad : Int -> Prop) : Chg x y z u A A bad := ⟨P, X, Q6f _, Q6f _, fun _ _ _ => rfl, fun _ _ _ _ h => h, Q6f _⟩
theorem Chg.setV {k : Int} {v : Vr} (h0 : 0 <= k) (h1 : k < (Q6a : Int)) (hv : VrP Q69 Q6e k v) (hk : v.kind = (vrOf A k).kind) (hn : v.kind = 1 -> 1 <= v.next) (hs : (vrOf A k).stamp ≠ -1 -> v.stamp ≠ -1) : Chg x y z u A { A with vers := A.vers.set k.toNat v } (fun n => n = v.next) := by
 have hget : ∀ i : Int, 0 <= i -> vrOf { A with vers := A.vers.set k.toNat v } i = if i = k then v else vrOf A i := fun i hi => qz6g h0 h1 hi
 have hkind : ∀ i : Int, 0 <= i -> (vrOf { A with vers := A.vers.set k.toNat v } i).kind = (vrOf A i).kind := fun i hi => by
  rw [hget i hi]
  split
  ·rename_i e; subst e; exact hk
  ·rfl
 refine ⟨P.setV h0 h1 hv, ⟨fun i a b e => ?_, ?_⟩, Q6f _, by simp, fun i a _ => hkind i a, fun n n1 n2 hb L => ⟨fun i a b => ?_, L.guides, ?_⟩, ?_⟩
 ·rw [hget i a] at e ⊢
  have b' : i < (Q6a : Int) := by simpa using b
  split at e
  ·rename_i e'; rw [if_pos e']; exact hn e
  ·rename_i e'; rw [if_neg e']; exact X.put i a b' e
 ·have hd := (P.node 0 (Int.le_refl _) (by have := P.nl; omega)).hd
  show (vrOf _ (ndOf A 0).head).kind ≠ 2
  rw [hkind _ hd.1]
  exact X.head
 ·rw [hget i a]
  have b' : i < (Q6a : Int) := by simpa using b
  split
  ·exact fun e => hb e.symm
  ·exact L.vers i a b'
 ·have hd := (P.node n (by omega) n2).hd
  show (vrOf _ (ndOf A n).head).kind ≠ 1
  rw [hkind _ hd.1]
  exact L.kind
 ·have := qzd7 (v := v) h0 h1
  show stN A <= (A.vers.set k.toNat v).countP _
  by_cases e1 : (vrOf A k).stamp = -1 <;> by_cases e2 : v.stamp = -1 <;> simp [e1, e2] at this hs <;> omega
theorem Chg.swap {node next : Int} {gone : Bool} {kind : Int} (h0 : 0 <= node) (h1 : node < (Q69 : Int)) (hz : (Q6a : Int) < z) (hn : next = -1 ∨ (1 <= next /\ next < (Q69 : Int))) (hk : 0 <= kind /\ kind <= 2) (hp : kind = 1 -> 1 <= next) (hd : kind = 2 -> node ≠ 0) :
  Chg x y z u A { A with vers := A.vers ++ [⟨next, gone, -1, (ndOf A node).head, kind⟩], nodes := A.nodes.set node.toNat { ndOf A node with head := (Q6a : Int) } } (fun n => n = next ∨ n = node) := by
 generalize hA : ({ A with vers := A.vers ++ [⟨next, gone, -1, (ndOf A node).head, kind⟩], nodes := A.nodes.set node.toNat { ndOf A node with head := (Q6a : Int) } } : Ar) = A'
 have hv1 : ∀ i : Int, 0 <= i -> i < (Q6a : Int) -> vrOf A' i = vrOf A i := fun i a b => by rw [<- hA]; exact qz5m a b
 have hv2 : vrOf A' (Q6a : Int) = ⟨next, gone, -1, (ndOf A node).head, kind⟩ := by rw [<- hA]; exact qz48 rfl
 have hn1 : ∀ i : Int, 0 <= i -> ndOf A' i = if i = node then { ndOf A node with head := (Q6a : Int) } else ndOf A i := fun i a => by rw [<- hA]; exact qz6g h0 h1 a
 have hl : A'.vers.length = Q6a + 1 := by rw [<- hA]; simp
 have hln : A'.nodes.length = Q69 := by rw [<- hA]; simp
 have hg : A'.guides = A.guides := by rw [<- hA]
 refine ⟨by rw [<- hA]; exact P.swap h0 h1 hz hn hk, ⟨fun i a b e => ?_, ?_⟩, by omega, by omega, fun i a b => by rw [hv1 i a b], fun n n1 n2 hb L => ⟨fun i a b => ?_, by rw [hg]; exact L.guides, ?_⟩, ?_⟩
 ·by_cases ei : i = (Q6a : Int)
  ·subst ei; rw [hv2] at e ⊢; exact hp e
  ·rw [hv1 i a (by omega)] at e ⊢; exact X.put i a (by omega) e
 ·rw [hn1 0 (Int.le_refl _)]
  split
  ·rename_i e; rw [hv2]; intro hh; exact hd hh e.symm
  ·have hd := (P.node 0 (Int.le_refl _) (by have := P.nl; omega)).hd
   rw [hv1 _ hd.1 hd.2]; exact X.head
 ·by_cases ei : i = (Q6a : Int)
  ·subst ei; rw [hv2]; exact fun e => hb (Or.inl e.symm)
  ·rw [hv1 i a (by omega)]; exact L.vers i a (by omega)
 ·rw [hn1 n (by omega), if_neg (fun e => hb (Or.inr e))]
  have hd := (P.node n (by omega) n2).hd
  rw [hv1 _ hd.1 hd.2]; exact L.kind
 ·rw [<- hA]; exact qzd9
theorem Chg.make {next key value : Int} (hy : (Q69 : Int) < y) (hz : (Q6a : Int) < z) (hn : next = -1 ∨ (1 <= next /\ next < (Q69 : Int))) (hk : 0 <= key /\ key <= 63) (hv : 0 <= value /\ value <= 9999) :
  Chg x y z u A { A with vers := A.vers ++ [⟨next, false, 0, -1, 0⟩], nodes := A.nodes ++ [⟨key, value, (Q6a : Int)⟩] } (fun n => n = next) /\ qz9e { A with vers := A.vers ++ [⟨next, false, 0, -1, 0⟩], nodes := A.nodes ++ [⟨key, value, (Q6a : Int)⟩] } (Q69 : Int) := by
 generalize hA : ({ A with vers := A.vers ++ [⟨next, false, 0, -1, 0⟩], nodes := A.nodes ++ [⟨key, value, (Q6a : Int)⟩] } : Ar) = A'
 have hv1 : ∀ i : Int, 0 <= i -> i < (Q6a : Int) -> vrOf A' i = vrOf A i := fun i a b => by rw [<- hA]; exact qz5m a b
 have hv2 : vrOf A' (Q6a : Int) = ⟨next, false, 0, -1, 0⟩ := by rw [<- hA]; exact qz48 rfl
 have hn1 : ∀ i : Int, 0 <= i -> i < (Q69 : Int) -> ndOf A' i = ndOf A i := fun i a b => by rw [<- hA]; exact qz5m a b
 have hn2 : ndOf A' (Q69 : Int) = ⟨key, value, (Q6a : Int)⟩ := by rw [<- hA]; exact qz48 rfl
 have hl : A'.vers.length = Q6a + 1 := by rw [<- hA]; simp
 have hln : A'.nodes.length = Q69 + 1 := by rw [<- hA]; simp
 have hg : A'.guides = A.guides := by rw [<- hA]
 refine ⟨⟨by rw [<- hA]; exact P.make hy hz hn hk hv, ⟨fun i a b e => ?_, ?_⟩, by omega, by omega, fun i a b => by rw [hv1 i a b], fun n n1 n2 hb L => ⟨fun i a b => ?_, by rw [hg]; exact L.guides, ?_⟩, ?_⟩, ⟨fun i a b => ?_, ?_, ?_⟩⟩
 ·by_cases ei : i = (Q6a : Int)
  ·subst ei; rw [hv2] at e; simp at e
  ·rw [hv1 i a (by omega)] at e ⊢; exact X.put i a (by omega) e
 ·have hd := (P.node 0 (Int.le_refl _) (by have := P.nl; omega)).hd
  rw [hn1 0 (Int.le_refl _) (by have := P.nl; omega), hv1 _ hd.1 hd.2]; exact X.head
 ·by_cases ei : i = (Q6a : Int)
  ·subst ei; rw [hv2]; exact fun e => hb e.symm
  ·rw [hv1 i a (by omega)]; exact L.vers i a (by omega)
 ·have hd := (P.node n (by omega) n2).hd
  rw [hn1 n (by omega) n2, hv1 _ hd.1 hd.2]; exact L.kind
 ·rw [<- hA]; exact qzd9
 ·by_cases ei : i = (Q6a : Int)
  ·subst ei; rw [hv2]; simp only; omega
  ·rw [hv1 i a (by omega)]; have := (P.ver i a (by omega)).nx; omega
 ·rw [hg]; intro g hg'; have := P.guide g hg'; omega
 ·rw [hn2]; simp only; rw [hv2]; simp
theorem Chg.setG {k : Nat} {v : Int} (hv : 0 <= v /\ v < (Q69 : Int)) : Chg x y z u A { A with guides := A.guides.set k v } (fun n => n = v) :=
 ⟨P.setG hv, ⟨X.put, X.head⟩, Q6f _, Q6f _, fun _ _ _ => rfl, fun n _ _ hb L => ⟨L.vers, fun g hg => by
  rcases qz6f hg with rfl | h
  ·exact fun e => hb e.symm
  ·exact L.guides g h, L.kind⟩, Q6f _⟩
theorem Chg.setS {k : Nat} {v : Int} (hv : -1 <= v /\ v <= 100) : Chg x y z u A { A with slots := A.slots.set k v } (fun _ => False) :=
 ⟨P.setS hv, ⟨X.put, X.head⟩, Q6f _, Q6f _, fun _ _ _ => rfl, fun n _ _ hb L => ⟨L.vers, L.guides, L.kind⟩, Q6f _⟩
theorem Chg.tick (h : Q6e < 100) : Chg x y z u A { A with camera := Q6e + 1 } (fun _ => False) :=
 ⟨P.tick h, ⟨X.put, X.head⟩, Q6f _, Q6f _, fun _ _ _ => rfl, fun n _ _ hb L => ⟨L.vers, L.guides, L.kind⟩, Q6f _⟩
end
def qzdy (d : Dd) : Bool := inB d.kind 1 2 && inB d.key 0 63 && inB d.value 0 9999 && inB d.stamp 0 100 && inB d.clock 0 20000
structure qz1s (x y z u : Int) (A : Ar) (h : Hd) (A' : Ar) (h' : Hd) (d : Dd) (tk : Bool) : Prop where
 ar : ArP x y z u A'
 ax : AX A'
 hp : HP A' h'
 nn : Q69 <= A'.nodes.length
 nv : Q6a <= A'.vers.length
 kinds : ∀ v : Int, 0 <= v -> v < (Q6a : Int) -> (vrOf A' v).kind = (vrOf A v).kind
 lone : ∀ n : Int, 1 <= n -> n < (Q69 : Int) -> qz9e A n -> Far h n -> (h.new_ = n -> Priv h') -> qz9e A' n
 far : ∀ n : Int, 1 <= n -> n < (Q69 : Int) -> qz9e A n -> Far h n -> Far h' n
 new : (NewS h h' /\ (Priv h' -> Priv h)) ∨ (h'.new_ = (Q69 : Int) /\ qz9e A' h'.new_ /\ Far h' h'.new_)
 cam : A'.camera = Q6e + (if tk then 1 else 0)
 deed : d.kind ≠ 0 -> qzdy d = true
 cnt : stN A + (if d.kind ≠ 0 then 1 else 0) <= stN A'
theorem cam0 (a : Int) : a = a + (if false = true then 1 else 0) := by simp
theorem qz1m {h h' : Hd} (hn : NewS h h') (ha : ¬ (h.then_ = 4 /\ 3 <= h.at_ /\ h.at_ <= 5)) (h10 : h.at_ ≠ 10) : Priv h' -> Priv h := fun p => ⟨by have := p.1; rcases hn with e | e <;> omega, ha, h10⟩
theorem qz1s.of {x y z u : Int} {A A' : Ar} {h h' : Hd} {bad : Int -> Prop} (C : Chg x y z u A A' bad) (hp : HP A' h') (hbad : ∀ n : Int, 1 <= n -> n < (Q69 : Int) -> qz9e A n -> Far h n -> (h.new_ = n -> Priv h') -> ¬ bad n)
  (hfar : ∀ n : Int, 1 <= n -> n < (Q69 : Int) -> qz9e A n -> Far h n -> Far h' n) (hnew : NewS h h') (hpr : Priv h' -> Priv h) {tk : Bool} (hc : A'.camera = Q6e + (if tk then 1 else 0)) : qz1s x y z u A h A' h' qz3n tk :=
 ⟨C.ar, C.ax, hp, C.nn, C.nv, C.kinds, fun n a b L F p => C.lone n a b (hbad n a b L F p) L, hfar, Or.inl ⟨hnew, hpr⟩, hc, fun hk => absurd rfl hk, C.cnt⟩
section
variable {x y z u : Int} {A : Ar} {h : Hd} (P : ArP x y z u A) (X : AX A) (H : HP A h)
include P X H
theorem qzds (key : Int) : 0 <= qz4a x y z u A key /\ qz4a x y z u A key < (Q69 : Int) /\ ∀ n : Int, 1 <= n -> qz9e A n -> qz4a x y z u A key ≠ n := by
 have hn := P.nl
 unfold qz4a
 split
 ·rename_i e
  have hg : (qz41 x y z u key).toNat < Q6p := by
   have hp := P.pl
   have := (qz1r x y z u).1 hp
   have hgl := P.gl
   have e1 := e.1
   unfold qz41 at e1 ⊢
   split at e1
   ·rename_i hh
    rw [if_pos hh]
    simp only [Bool.and_eq_true, qz1b] at hh
    have : key * u / 64 <= u - 1 + 1 := by
     have : key * u <= 64 * u := by
      have := Int.mul_le_mul_of_nonneg_right (show key <= 64 by omega) (show 0 <= u by omega)
      exact this
     have := Int.ediv_le_ediv (show (0:Int) < 64 by omega) this
     rw [Int.mul_ediv_cancel_left u (by omega)] at this
     omega
    omega
   ·omega
  have hm := qzbx (d := 0) hg
  have := P.guide _ hm
  exact ⟨this.1, this.2, fun n _ L => L.guides _ hm⟩
 ·exact ⟨Int.le_refl _, by omega, fun n a _ => by omega⟩
theorem qzd1 (me clock : Int) (hck : 0 <= clock /\ clock <= 20000) (h2 : 2 <= h.at_) (h5 : h.at_ <= 5) : qz1s x y z u A h (qz22 A h qz3n clock).1 (qz22 A h qz3n clock).2.1 (qz22 A h qz3n clock).2.2 false := by
 have hc := H.call (by omega)
 have hcam := P.cam
 have H' := H
 obtain ⟨f0, f1, f2, f3, f4, f5, f6, f7, f8, f9, f10, f11, f12, f13, f14, k0, k1, k2, k3, k4, k5, k6, c, dl, n0, l, m, t⟩ := H'
 have hv := P.ver h.ver k4.1 k4.2
 have hon : ∀ {A' : Ar}, ArP x y z u A' -> HP A' h -> 3 <= h.at_ -> HP A' (onH A' h) := fun P' H' h3 => qzf2 P' H' ⟨h3, h5⟩
 unfold qz22
 split
 ·rename_i e
  have hd := (P.node h.x_ k0.1 k0.2).hd
  refine qz1s.of (Chg.same P X (fun _ => False)) ?_ (fun _ _ _ _ _ _ h => h) (by exact fun n _ _ _ F => ⟨F.pred, F.curr, F.x⟩) (by exact Or.inl rfl) (by exact qz1m (h := h) (Or.inl rfl) (by omega) (by omega)) (cam0 _)
  constructor <;> dsimp only <;> first | assumption | omega | (intro _; exact hc) | skip
  intro _ _ e2 e3
  rw [e3] at e2
  exact X.head e2
 split
 ·split
  ·refine qz1s.of (Chg.same P X (fun _ => False)) (hon P H (by omega)) (fun _ _ _ _ _ _ h => h) (fun n a _ L F => qzdu F a (L.vers _ k4.1 k4.2)) qzal ?_ (cam0 _)
   intro p
   refine qz1m qzal (fun e => ?_) (by omega) p
   exact p.2.2 (qz7x e.1)
  ·refine qz1s.of (Chg.same P X (fun _ => False)) ?_ (fun _ _ _ _ _ _ h => h) (by exact fun n _ _ _ F => ⟨F.pred, F.curr, F.x⟩) (by exact Or.inl rfl) ?_ (cam0 _)
   ·constructor <;> dsimp only <;> first | assumption | omega | (intro _; exact hc) | (intro _ _; exact dl (by omega) (by omega))
   ·intro p
    refine qz1m (h' := { h with at_ := 4 }) (Or.inl rfl) (fun e => p.2.1 ⟨e.1, by dsimp only; omega⟩) (by omega) p
 split
 ·refine qz1s.of (Chg.same P X (fun _ => False)) ?_ (fun _ _ _ _ _ _ h => h) (by exact fun n _ _ _ F => ⟨F.pred, F.curr, F.x⟩) (by exact Or.inl rfl) ?_ (cam0 _)
  ·constructor <;> dsimp only <;> first | assumption | omega | (intro _; exact hc) | (intro _ _; exact dl (by omega) (by omega))
  ·intro p
   refine qz1m (h' := { h with cam := Q6e, camAt := clock, at_ := 5 }) (Or.inl rfl) (fun e => p.2.1 ⟨e.1, by dsimp only; omega⟩) (by omega) p
 split
 ·split
  ·refine qz1s.of (Chg.same P X (fun _ => False)) (hon P H (by omega)) (fun _ _ _ _ _ _ h => h) (fun n a _ L F => qzdu F a (L.vers _ k4.1 k4.2)) qzal ?_ (cam0 _)
   intro p
   refine qz1m qzal (fun e => ?_) (by omega) p
   exact p.2.2 (qz7x e.1)
  ·rename_i hst
   have hun : (vrOf A h.ver).stamp = -1 := by
    simp only [qz1z, Bool.and_eq_true, qz1b, bne_iff_ne, ne_eq, not_and, Decidable.not_not] at hst
    exact hst (by omega)
   have C := Chg.setV P X (k := h.ver) (v := { vrOf A h.ver with stamp := min h.cam Q6e }) k4.1 k4.2 ⟨hv.nx, by dsimp only; omega, hv.pv, hv.kd⟩ rfl (X.put h.ver k4.1 k4.2) (fun e => absurd hun e)
   have hself : vrOf (qz51 A h) h.ver = { vrOf A h.ver with stamp := min h.cam Q6e } := by
    refine (qz6g k4.1 k4.2 k4.1).trans (if_pos rfl)
   have hs := H.stay C.nn C.nv C.kinds
   have hkind : (qz44 (qz51 A h) h).kind = (vrOf A h.ver).kind := by
    unfold qz44
    rw [hself]
    dsimp only
    split
    ·rename_i e; rw [e]; rfl
    ·rfl
   refine ⟨C.ar, C.ax, hon C.ar hs (by omega), C.nn, C.nv, C.kinds, fun n a b L F p => ?_, fun n a b L F => ?_, Or.inl ⟨qzal, ?_⟩, by simp [qz51], fun hk => ?_, ?_⟩
   ·exact C.lone n a b (fun e => L.vers h.ver k4.1 k4.2 e.symm) L
   ·refine qzdu F a ?_
    rw [hself]
    exact L.vers h.ver k4.1 k4.2
   ·intro p
    refine qz1m qzal (fun e => ?_) (by omega) p
    exact p.2.2 (qz7x e.1)
   ·have hk0 := hk
    rw [hkind] at hk
    have hn2 : 1 <= qzbi (qz51 A h) h /\ qzbi (qz51 A h) h < (Q69 : Int) := by
     unfold qzbi
     rw [hself]
     dsimp only
     split
     ·rename_i e
      have := X.put h.ver k4.1 k4.2 e
      have := hv.nx
      omega
     ·have := hv.kd
      have := dl (by omega) (by omega) (by omega)
      omega
    have hnd := P.node _ (by omega) hn2.2
    have hnd' : ndOf (qz51 A h) (qzbi (qz51 A h) h) = ndOf A (qzbi (qz51 A h) h) := rfl
    have := hnd.k1 (by omega)
    have := hnd.v1
    have := hv.kd
    unfold qz44
    rw [if_neg (by rw [hself]; exact hk)]
    rw [hself, hnd']
    simp only [qzdy, Bool.and_eq_true, qz1b]
    omega
   ·rw [hkind]
    have := qzd7 (A := A) (v := { vrOf A h.ver with stamp := min h.cam Q6e }) k4.1 k4.2
    have e2 : min h.cam Q6e ≠ -1 := by omega
    show _ <= (A.vers.set h.ver.toNat _).countP _
    rw [if_neg (fun h => h hun), if_pos e2] at this
    split <;> omega
 ·omega
end
section
variable {x y z u : Int} {A : Ar} {h : Hd} (P : ArP x y z u A) (X : AX A) (H : HP A h)
include P X H
theorem qz5b {node v next : Int} {gone : Bool} {kind : Int} (h0 : 0 <= node) (h1 : node < (Q69 : Int)) (hn : next = -1 ∨ (1 <= next /\ next < (Q69 : Int))) (hk : 0 <= kind /\ kind <= 2) (hp : kind = 1 -> 1 <= next) (hd : kind = 2 -> node ≠ 0) :
  (qz18 z A node v next gone kind = (A, -2) ∨ qz18 z A node v next gone kind = (A, -1)) ∨ (∃ A', qz18 z A node v next gone kind = (A', (Q6a : Int)) /\ Chg x y z u A A' (fun n => n = next ∨ n = node) /\ A'.camera = Q6e /\ A'.vers.length = Q6a + 1 /\ A'.nodes.length = Q69 /\ (vrOf A' (Q6a : Int)).kind = kind) := by
 unfold qz18
 split
 ·exact Or.inl (Or.inl rfl)
 ·split
  ·exact Or.inl (Or.inr rfl)
  ·rename_i e1 e2
   have e2 : (ndOf A node).head = v := Decidable.not_not.1 e2
   subst e2
   exact Or.inr ⟨_, rfl, Chg.swap P X h0 h1 (by omega) hn hk hp hd, rfl, by simp, by simp, congrArg Vr.kind (qz48 (l := A.vers) rfl)⟩
theorem qzcc (ha : h.at_ = 1 ∨ h.at_ = 6) : qz1s x y z u A h (qz1y x y z u A h).1 (qz1y x y z u A h).2 qz3n false := by
 have hc := H.call (by omega)
 have hsi := qzds P X H h.key
 have H' := H
 obtain ⟨f0, f1, f2, f3, f4, f5, f6, f7, f8, f9, f10, f11, f12, f13, f14, k0, k1, k2, k3, k4, k5, k6, c, dl, n0, l, m, t⟩ := H'
 unfold qz1y
 split
 ·refine qz1s.of (Chg.same P X (fun _ => False)) ?_ (fun _ _ _ _ _ _ h => h) (by exact fun n a _ L F => ⟨F.pred, F.curr, fun e => absurd e (hsi.2.2 n a L)⟩) (by exact Or.inl rfl) (by exact qz1m (h := h) (Or.inl rfl) (by omega) (by omega)) (cam0 _)
  have := hsi.1
  have := hsi.2.1
  constructor <;> dsimp only <;> first | assumption | omega | (intro _; exact hc)
 ·have e6 : h.at_ = 6 := by omega
  have t2 := t e6
  have hnx := (P.ver h.currVer k6.1 k6.2).nx
  rcases qz5b P X H (v := h.predVer) (gone := false) k1.1 k1.2 hnx (show (0:Int) <= 0 /\ (0:Int) <= 2 by omega) (by omega) (by omega) with (e | e) | ⟨A', e, C, cc, lv, ln, kk⟩
  ·rw [e]
   dsimp only
   rw [if_pos rfl]
   exact qz1s.of (Chg.same P X (fun _ => False)) (HP.rest P.nl.1 P.vl.1 (by omega) (by omega) (by omega) f11) (fun _ _ _ _ _ _ h => h) (fun n a _ _ _ => Far.rest a) (Or.inr rfl) (qz1m (Or.inr rfl) (by omega) (by omega)) (cam0 _)
  ·rw [e]
   dsimp only
   rw [if_neg (by omega), if_pos rfl]
   refine qz1s.of (Chg.same P X (fun _ => False)) ?_ (fun _ _ _ _ _ _ h => h) (by exact fun n a _ L F => ⟨F.pred, F.curr, F.x⟩) (by exact Or.inl rfl) (by exact qz1m (h := h) (Or.inl rfl) (by omega) (by omega)) (cam0 _)
   constructor <;> dsimp only <;> first | assumption | omega | (intro _; exact hc)
  ·rw [e]
   dsimp only
   rw [if_neg (by omega), if_neg (by omega)]
   refine qz1s.of C ?_ (fun n a b L F _ hb => ?_) (by exact fun n a _ L F => ⟨F.pred, F.curr, fun e => by have := F.x e; omega⟩) (by exact Or.inl rfl) (by exact qz1m (h := h) (Or.inl rfl) (by omega) (by omega)) (by rw [cc]; exact cam0 _)
   ·constructor <;> dsimp only <;> first | assumption | omega | (intro _; exact hc)
   ·rcases hb with hb | hb
    ·exact L.vers h.currVer k6.1 k6.2 hb.symm
    ·exact F.pred hb.symm
theorem qzcr : aimI h = -1 ∨ (1 <= aimI h /\ aimI h < (Q69 : Int) /\ aimI h = h.curr) := by
 have := H.k2
 unfold aimI
 split <;> omega
theorem qzbb : qz37 y z A h = (A, qz8 h 5 0 0) ∨ ∃ A', qz37 y z A h = (A', { h with new_ := (Q69 : Int), at_ := 9 }) /\ Chg x y z u A A' (fun n => n = aimI h) /\ qz9e A' (Q69 : Int) /\ A'.camera = Q6e /\ A'.vers.length = Q6a + 1 /\ A'.nodes.length = Q69 + 1 := by
 have haim := qzcr P X H
 have := H.f4
 have := H.f5
 unfold qz37
 split
 ·exact Or.inl rfl
 ·rename_i hroom
  obtain ⟨C, L⟩ := Chg.make P X (next := aimI h) (key := max h.key 0) (value := h.value) (by omega) (by omega) (by omega) (by omega) H.f5
  exact Or.inr ⟨_, rfl, C, L, rfl, by simp, by simp⟩
theorem qzcg (e7 : h.at_ = 7) : qz1s x y z u A h (qz37 y z A h).1 (qz37 y z A h).2 qz3n false := by
 have hc := H.call (by omega)
 have haim := qzcr P X H
 have hnl := P.nl
 rcases qzbb P X H with e | ⟨A', e, C, L, cc, lv, ln⟩
 ·rw [e]
  exact qz1s.of (Chg.same P X (fun _ => False)) (HP.rest P.nl.1 P.vl.1 (by omega) (by omega) (by omega) H.f11) (fun _ _ _ _ _ _ h => h) (fun n a _ _ _ => Far.rest a) (Or.inr rfl) (qz1m (Or.inr rfl) (by omega) (by omega)) (cam0 _)
 ·rw [e]
  have H' := H
  obtain ⟨f0, f1, f2, f3, f4, f5, f6, f7, f8, f9, f10, f11, f12, f13, f14, k0, k1, k2, k3, k4, k5, k6, c, dl, n0, l, m, t⟩ := H'
  refine ⟨C.ar, C.ax, ?_, C.nn, C.nv, C.kinds, fun n a b L' F _ => C.lone n a b (fun hb => ?_) L', fun n a b L F => ⟨F.pred, F.curr, F.x⟩, Or.inr ⟨rfl, L, ?_⟩, by rw [cc]; exact cam0 _, fun hk => absurd rfl hk, C.cnt⟩
  ·constructor <;> dsimp only <;> first | assumption | omega | (intro _; exact hc)
  ·have hb' : n = aimI h := hb
   have := F.curr
   omega
  ·exact ⟨by dsimp only; omega, by dsimp only; omega, fun e => by dsimp only at e; omega⟩
theorem qzdp (own : Priv h -> qz9e A h.new_) (e8 : h.at_ = 8) : qz1s x y z u A h (if 0 <= h.new_ then { A with vers := A.vers.set (ndOf A h.new_).head.toNat { vrOf A (ndOf A h.new_).head with next := aimI h } } else A) { h with at_ := 9 } qz3n false := by
 have hc := H.call (by omega)
 have haim := qzcr P X H
 have hnew := H.lnk (Or.inl e8)
 have hpr : Priv h := ⟨hnew, by omega, by omega⟩
 have L := own hpr
 have hd := (P.node h.new_ (by omega) H.k3.2).hd
 have hv := P.ver _ hd.1 hd.2
 rw [if_pos (by omega)]
 have C := Chg.setV P X (k := (ndOf A h.new_).head) (v := { vrOf A (ndOf A h.new_).head with next := aimI h }) hd.1 hd.2 ⟨by dsimp only; omega, hv.st, hv.pv, hv.kd⟩ rfl (fun e => absurd e L.kind) (fun e => e)
 have cc : ({ A with vers := A.vers.set (ndOf A h.new_).head.toNat { vrOf A (ndOf A h.new_).head with next := aimI h } } : Ar).camera = Q6e := rfl
 dsimp only at C
 generalize ({ A with vers := A.vers.set (ndOf A h.new_).head.toNat { vrOf A (ndOf A h.new_).head with next := aimI h } } : Ar) = A' at C cc ⊢
 have hs := H.stay C.nn C.nv C.kinds
 obtain ⟨g0, g1, g2, g3, g4, g5, g6, g7, g8, g9, g10, g11, g12, g13, g14, j0, j1, j2, j3, j4, j5, j6, c', dl', n0', l', m', t'⟩ := hs
 refine qz1s.of C ?_ (fun n a b L F _ hb => ?_) (by exact fun n a _ L F => ⟨F.pred, F.curr, F.x⟩) (by exact Or.inl rfl) (by exact qz1m (h := h) (Or.inl rfl) (by omega) (by omega)) (by rw [cc]; exact cam0 _)
 ·constructor <;> dsimp only <;> first | assumption | omega | (intro _; exact hc)
 ·have hb' : n = aimI h := hb
  have := F.curr
  omega
theorem qzak (own : Priv h -> qz9e A h.new_) (ha : 7 <= h.at_ /\ h.at_ <= 12) : qz1s x y z u A h (qzu x y z u A h).1 (qzu x y z u A h).2 qz3n false := by
 have hc := H.call (by omega)
 have haim := qzcr P X H
 have H' := H
 obtain ⟨f0, f1, f2, f3, f4, f5, f6, f7, f8, f9, f10, f11, f12, f13, f14, k0, k1, k2, k3, k4, k5, k6, c, dl, n0, l, m, t⟩ := H'
 have hnl := P.nl
 have hvl := P.vl
 have hnx := (P.ver h.currVer k6.1 k6.2).nx
 unfold qzu
 split
 ·exact qzcg P X H (by assumption)
 split
 ·exact qzdp P X H own (by assumption)
 split
 ·rename_i e9
  have hnew := l (Or.inr e9)
  have hni : newI h = h.new_ := by unfold newI; rw [if_neg (by omega)]
  rw [hni]
  rcases qz5b P X H (v := h.predVer) (next := h.new_) (gone := false) k1.1 k1.2 (by omega) (show (0:Int) <= 1 /\ (1:Int) <= 2 by omega) (by omega) (by omega) with (e | e) | ⟨A', e, C, cc, lv, ln, kk⟩
  ·rw [e]
   exact qz1s.of (Chg.same P X (fun _ => False)) (HP.rest P.nl.1 P.vl.1 (by omega) (by omega) (by omega) f11) (fun _ _ _ _ _ _ h => h) (fun n a _ _ _ => Far.rest a) (Or.inr rfl) (qz1m (Or.inr rfl) (by omega) (by omega)) (cam0 _)
  ·rw [e]
   refine qz1s.of (h' := { h with at_ := 1 }) (Chg.same P X (fun _ => False)) ?_ (fun _ _ _ _ _ _ h => h) (by exact fun n a _ L F => ⟨F.pred, F.curr, F.x⟩) (by exact Or.inl rfl) (by exact qz1m (h := h) (Or.inl rfl) (by omega) (by omega)) (cam0 _)
   constructor <;> dsimp only <;> first | assumption | omega | (intro _; exact hc)
  ·rw [e]
   dsimp only
   rw [show qz6j (A.vers.length : Int) h h.pred 4 = { h with ver := (A.vers.length : Int), x_ := h.pred, then_ := 4, at_ := 3 } by unfold qz6j; rw [if_neg (by omega), if_neg (by omega)]]
   refine qz1s.of C ?_ (fun n a b L F p hb => ?_) (by exact fun n a _ L F => ⟨F.pred, F.curr, fun e => absurd e F.pred⟩) (by exact Or.inl rfl) (by exact qz1m (h := h) (Or.inl rfl) (by omega) (by omega)) (by rw [cc]; exact cam0 _)
   ·constructor <;> dsimp only <;> first | assumption | omega | (intro _; exact hc)
   ·rcases hb with hb | hb
    ·exact (p hb.symm).2.1 ⟨rfl, by dsimp only; omega⟩
    ·exact F.pred hb.symm
 split
 ·split
  ·rename_i hg
   refine qz1s.of (Chg.setG P X (k := (qz42 x y z u h.key).toNat) (v := h.new_) (by omega)) (HP.rest (A := { A with guides := A.guides.set (qz42 x y z u h.key).toNat h.new_ }) P.nl.1 P.vl.1 (by omega) (by omega) (by omega) f11) (fun n a b L F p hb => ?_) (fun n a _ _ _ => Far.rest a) (Or.inr rfl) (fun p => by have := p.1; simp only [qz8] at this; omega) (cam0 _)
   have := (p hb.symm).1
   simp only [qz8] at this
   omega
  ·exact qz1s.of (Chg.same P X (fun _ => False)) (HP.rest P.nl.1 P.vl.1 (by omega) (by omega) (by omega) f11) (fun _ _ _ _ _ _ h => h) (fun n a _ _ _ => Far.rest a) (Or.inr rfl) (fun p => by have := p.1; simp only [qz8] at this; omega) (cam0 _)
 split
 ·rename_i e11
  have hcu := m e11
  have hmx : max h.curr 0 = h.curr := by omega
  rw [hmx]
  rcases qz5b P X H (node := h.curr) (v := h.currVer) (gone := true) (by omega) k2.2 hnx (show (0:Int) <= 2 /\ (2:Int) <= 2 by omega) (by omega) (by omega) with (e | e) | ⟨A', e, C, cc, lv, ln, kk⟩
  ·rw [e]
   exact qz1s.of (Chg.same P X (fun _ => False)) (HP.rest P.nl.1 P.vl.1 (by omega) (by omega) (by omega) f11) (fun _ _ _ _ _ _ h => h) (fun n a _ _ _ => Far.rest a) (Or.inr rfl) (qz1m (Or.inr rfl) (by omega) (by omega)) (cam0 _)
  ·rw [e]
   refine qz1s.of (h' := { h with at_ := 1 }) (Chg.same P X (fun _ => False)) ?_ (fun _ _ _ _ _ _ h => h) (by exact fun n a _ L F => ⟨F.pred, F.curr, F.x⟩) (by exact Or.inl rfl) (by exact qz1m (h := h) (Or.inl rfl) (by omega) (by omega)) (cam0 _)
   constructor <;> dsimp only <;> first | assumption | omega | (intro _; exact hc)
  ·rw [e]
   dsimp only
   rw [show qz6j (A.vers.length : Int) h h.curr 5 = { h with ver := (A.vers.length : Int), x_ := h.curr, then_ := 5, at_ := 3 } by unfold qz6j; rw [if_neg (by omega), if_neg (by omega)]]
   refine qz1s.of C ?_ (fun n a b L F p hb => ?_) (by exact fun n a _ L F => ⟨F.pred, F.curr, fun e => absurd e F.curr⟩) (by exact Or.inl rfl) (by exact qz1m (h := h) (Or.inl rfl) (by omega) (by omega)) (by rw [cc]; exact cam0 _)
   ·constructor <;> dsimp only <;> first | assumption | omega | (intro _; exact hc)
   ·rcases hb with hb | hb
    ·exact L.vers h.currVer k6.1 k6.2 hb.symm
    ·exact F.curr hb.symm
 split
 ·rcases qz5b P X H (v := h.predVer) (gone := false) k1.1 k1.2 hnx (show (0:Int) <= 0 /\ (0:Int) <= 2 by omega) (by omega) (by omega) with (e | e) | ⟨A', e, C, cc, lv, ln, kk⟩
  ·rw [e]
   exact qz1s.of (Chg.same P X (fun _ => False)) (HP.rest P.nl.1 P.vl.1 (by omega) (qzdz P (by omega) (by omega)) (by omega) f11) (fun _ _ _ _ _ _ h => h) (fun n a _ _ _ => Far.rest a) (Or.inr rfl) (qz1m (Or.inr rfl) (by omega) (by omega)) (cam0 _)
  ·rw [e]
   exact qz1s.of (Chg.same P X (fun _ => False)) (HP.rest P.nl.1 P.vl.1 (by omega) (qzdz P (by omega) (by omega)) (by omega) f11) (fun _ _ _ _ _ _ h => h) (fun n a _ _ _ => Far.rest a) (Or.inr rfl) (qz1m (Or.inr rfl) (by omega) (by omega)) (cam0 _)
  ·rw [e]
   refine qz1s.of C (HP.rest C.ar.nl.1 C.ar.vl.1 (by omega) (qzdz C.ar (by omega) (by omega)) (by omega) f11) (fun n a b L F p hb => ?_) (fun n a _ _ _ => Far.rest a) (Or.inr rfl) (qz1m (Or.inr rfl) (by omega) (by omega)) (by rw [cc]; exact cam0 _)
   rcases hb with hb | hb
   ·exact L.vers h.currVer k6.1 k6.2 hb.symm
   ·exact F.pred hb.symm
 ·omega
end
section
variable {x y z u : Int} {A : Ar} {h : Hd} (P : ArP x y z u A) (X : AX A) (H : HP A h)
include P X H
theorem qz9f (me : Int) (ha : 13 <= h.at_ /\ h.at_ <= 18) : qz1s x y z u A h (qzl A h me false).1 (qzl A h me false).2.1 qz3n (qzl A h me false).2.2 := by
 have hc := H.call (by omega)
 have hcam := P.cam
 have H' := H
 obtain ⟨f0, f1, f2, f3, f4, f5, f6, f7, f8, f9, f10, f11, f12, f13, f14, k0, k1, k2, k3, k4, k5, k6, c, dl, n0, l, m, t⟩ := H'
 unfold qzl
 split
 ·refine qz1s.of (Chg.same P X (fun _ => False)) ?_ (fun _ _ _ _ _ _ h => h) (by exact fun n a _ L F => ⟨F.pred, F.curr, F.x⟩) (by exact Or.inl rfl) (by exact qz1m (h := h) (Or.inl rfl) (by omega) (by omega)) (cam0 _)
  constructor <;> dsimp only <;> first | assumption | omega | (intro _; exact hc)
 split
 ·refine qz1s.of (Chg.setS P X (by omega)) ?_ (fun _ _ _ _ _ _ h => h) (by exact fun n a _ L F => ⟨F.pred, F.curr, F.x⟩) (by exact Or.inl rfl) (by exact qz1m (h := h) (Or.inl rfl) (by omega) (by omega)) (cam0 _)
  constructor <;> dsimp only <;> first | assumption | omega | (intro _; exact hc)
 split
 ·split
  ·refine qz1s.of (Chg.same P X (fun _ => False)) ?_ (fun _ _ _ _ _ _ h => h) (by exact fun n a _ L F => ⟨F.pred, F.curr, F.x⟩) (by exact Or.inl rfl) (by exact qz1m (h := h) (Or.inl rfl) (by omega) (by omega)) (cam0 _)
   constructor <;> dsimp only <;> first | assumption | omega | (intro _; exact hc)
  ·refine qz1s.of (Chg.same P X (fun _ => False)) ?_ (fun _ _ _ _ _ _ h => h) (by exact fun n a _ L F => ⟨F.pred, F.curr, F.x⟩) (by exact Or.inl rfl) (by exact qz1m (h := h) (Or.inl rfl) (by omega) (by omega)) (cam0 _)
   constructor <;> dsimp only <;> first | assumption | omega | (intro _; exact hc)
 split
 ·split
  ·rename_i e
   exact qz1s.of (Chg.tick P X (by omega)) (HP.rest (A := { A with camera := Q6e + 1 }) P.nl.1 P.vl.1 (by omega) (by omega) (by omega) (by dsimp only; omega)) (fun _ _ _ _ _ _ h => h) (fun n a _ _ _ => Far.rest a) (Or.inr rfl) (qz1m (Or.inr rfl) (by omega) (by omega)) (by simp)
  ·exact qz1s.of (Chg.same P X (fun _ => False)) (HP.rest P.nl.1 P.vl.1 (by omega) (by omega) (by omega) (by dsimp only; omega)) (fun _ _ _ _ _ _ h => h) (fun n a _ _ _ => Far.rest a) (Or.inr rfl) (qz1m (Or.inr rfl) (by omega) (by omega)) (cam0 _)
 split
 ·exact qz1s.of (Chg.setS P X (by omega)) ((HP.rest (A := A) (h := h) (rp := 6) (ot := 0) (sm := 0) P.nl.1 P.vl.1 (by omega) (by omega) (by omega) f11).stay (Q6f _) (Q6f _) (fun _ _ _ => rfl)) (fun _ _ _ _ _ _ h => h) (by exact fun n a _ _ _ => Far.rest a) (by exact Or.inr rfl) (by exact qz1m (h := h) (Or.inr rfl) (by omega) (by omega)) (cam0 _)
 split
 ·exact qz1s.of (Chg.setS P X (by omega)) ((HP.rest (A := A) (h := { h with held := -1 }) (rp := 4) (ot := 0) (sm := 0) P.nl.1 P.vl.1 (by omega) (by omega) (by omega) (by dsimp only; omega)).stay (Q6f _) (Q6f _) (fun _ _ _ => rfl)) (fun _ _ _ _ _ _ h => h) (by exact fun n a _ _ _ => Far.rest a) (by exact Or.inr rfl) (by exact qz1m (h := h) (Or.inr rfl) (by omega) (by omega)) (cam0 _)
 ·omega
theorem qzce (ha : h.at_ = 19) : qz1s x y z u A h A (qz9c A h) qz3n false := by
 have hc := H.call (by omega)
 have hpv := (P.ver h.ver H.k4.1 H.k4.2).pv
 have hk4 := H.k4
 have H2 : 0 <= (vrOf A h.ver).prev -> HP A { h with ver := (vrOf A h.ver).prev } := fun hp => by
  have H' := H
  obtain ⟨f0, f1, f2, f3, f4, f5, f6, f7, f8, f9, f10, f11, f12, f13, f14, k0, k1, k2, k3, k4, k5, k6, c, dl, n0, l, m, t⟩ := H'
  constructor <;> dsimp only <;> first | assumption | omega
 unfold qz9c
 split
 ·exact qz1s.of (Chg.same P X (fun _ => False)) (HP.rest P.nl.1 P.vl.1 (by omega) (by omega) (by omega) H.f11) (fun _ _ _ _ _ _ h => h) (fun n a _ _ _ => Far.rest a) (Or.inr rfl) (qz1m (Or.inr rfl) (by omega) (by omega)) (cam0 _)
 ·rename_i hp
  split
  ·refine qz1s.of (h := h) (Chg.same P X (fun _ => False)) (qzeh P (H2 (by omega)) (by dsimp only; omega)) (fun _ _ _ _ _ _ h => h) (fun n a _ L F => qzdd ⟨F.pred, F.curr, F.x⟩ a (L.vers _ (by dsimp only; omega) (by dsimp only; omega))) (qzbu (h := { h with ver := (vrOf A h.ver).prev })) (qz1m (h := h) (qzbu (h := { h with ver := (vrOf A h.ver).prev })) (by omega) (by omega)) (cam0 _)
  ·exact qz1s.of (h := h) (Chg.same P X (fun _ => False)) (H2 (by omega)) (fun _ _ _ _ _ _ h => h) (fun n a _ L F => ⟨F.pred, F.curr, F.x⟩) (Or.inl rfl) (qz1m (h := h) (Or.inl rfl) (by omega) (by omega)) (cam0 _)
theorem qzcs (ha : h.at_ = 21) : qz1s x y z u A h A (qz70 A h) qz3n false := by
 have hc := H.call (by omega)
 have hnl := P.nl
 have hl : 0 <= qzby A h /\ qzby A h <= 100 := by
  have := H.f13
  unfold qzby
  split
  ·rename_i e
   have := P.slot _ (qzbx (l := A.slots) (d := 0) (k := h.index.toNat) (by have := H.f14; omega))
   omega
  ·omega
 have H' := H
 obtain ⟨f0, f1, f2, f3, f4, f5, f6, f7, f8, f9, f10, f11, f12, f13, f14, k0, k1, k2, k3, k4, k5, k6, c, dl, n0, l, m, t⟩ := H'
 unfold qz70
 split
 ·refine qz1s.of (Chg.same P X (fun _ => False)) ?_ (fun _ _ _ _ _ _ h => h) (by exact fun n a _ L F => ⟨F.pred, F.curr, fun _ => rfl⟩) (by exact Or.inl rfl) (by exact qz1m (h := h) (Or.inl rfl) (by omega) (by omega)) (cam0 _)
  constructor <;> dsimp only <;> first | assumption | omega | (intro _; exact hc)
 ·refine qz1s.of (Chg.same P X (fun _ => False)) ?_ (fun _ _ _ _ _ _ h => h) (by exact fun n a _ L F => ⟨F.pred, F.curr, F.x⟩) (by exact Or.inl rfl) (by exact qz1m (h := h) (Or.inl rfl) (by omega) (by omega)) (cam0 _)
  constructor <;> dsimp only <;> first | assumption | omega | (intro _; exact hc)
theorem qzdx (ha : h.at_ = 20 ∨ h.at_ = 22 ∨ h.at_ = 23) : qz1s x y z u A h (qz43 A h).1 (qz43 A h).2 qz3n false := by
 have hc := H.call (by omega)
 have hcam := P.cam
 have hv := P.ver h.ver H.k4.1 H.k4.2
 have hpv := hv.pv
 have H' := H
 obtain ⟨f0, f1, f2, f3, f4, f5, f6, f7, f8, f9, f10, f11, f12, f13, f14, k0, k1, k2, k3, k4, k5, k6, c, dl, n0, l, m, t⟩ := H'
 unfold qz43
 split
 ·refine qz1s.of (Chg.same P X (fun _ => False)) ?_ (fun _ _ _ _ _ _ h => h) (by exact fun n a _ L F => ⟨F.pred, F.curr, F.x⟩) (by exact Or.inl rfl) (by exact qz1m (h := h) (Or.inl rfl) (by omega) (by omega)) (cam0 _)
  constructor <;> dsimp only <;> first | assumption | omega | (intro _; exact hc)
 split
 ·split
  ·exact qz1s.of (Chg.same P X (fun _ => False)) (qzbf P H (by omega)) (fun _ _ _ _ _ _ h => h) (fun n a _ L F => qz99 F a) qz5l (qz1m qz5l (by omega) (by omega)) (cam0 _)
  ·split
   ·refine qz1s.of (Chg.same P X (fun _ => False)) ?_ (fun _ _ _ _ _ _ h => h) (by exact fun n a _ L F => ⟨F.pred, F.curr, F.x⟩) (by exact Or.inl rfl) (by exact qz1m (h := h) (Or.inl rfl) (by omega) (by omega)) (cam0 _)
    constructor <;> dsimp only <;> first | assumption | omega | (intro _; exact hc)
   ·refine qz1s.of (Chg.same P X (fun _ => False)) ?_ (fun _ _ _ _ _ _ h => h) (by exact fun n a _ L F => ⟨F.pred, F.curr, F.x⟩) (by exact Or.inl rfl) (by exact qz1m (h := h) (Or.inl rfl) (by omega) (by omega)) (cam0 _)
    constructor <;> dsimp only <;> first | assumption | omega | (intro _; exact hc)
 split
 ·split
  ·exact qz1s.of (Chg.same P X (fun _ => False)) (qzbf P H (by omega)) (fun _ _ _ _ _ _ h => h) (fun n a _ L F => qz99 F a) qz5l (qz1m qz5l (by omega) (by omega)) (cam0 _)
  ·have C := Chg.setV P X (k := h.ver) (v := { vrOf A h.ver with prev := -1 }) k4.1 k4.2 ⟨hv.nx, hv.st, by dsimp only; omega, hv.kd⟩ rfl (X.put h.ver k4.1 k4.2) (fun e => e)
   have C' : Chg x y z u A (qz8t A h) (fun n => n = (vrOf A h.ver).next) := C
   have cc : (qz8t A h).camera = Q6e := rfl
   dsimp only
   generalize qz8t A h = A' at C' cc ⊢
   have hs := H.stay C'.nn C'.nv C'.kinds
   have hs2 : HP A' { h with out := min (h.out + 1) 1000000 } := by
    obtain ⟨g0, g1, g2, g3, g4, g5, g6, g7, g8, g9, g10, g11, g12, g13, g14, j0, j1, j2, j3, j4, j5, j6, c', dl', n0', l', m', t'⟩ := hs
    constructor <;> dsimp only <;> first | assumption | omega
   refine qz1s.of (h := h) C' (qzbf C'.ar hs2 (by dsimp only; omega)) (fun n a b L F _ hb => L.vers h.ver k4.1 k4.2 hb.symm) (fun n a _ L F => qz99 ⟨F.pred, F.curr, F.x⟩ a) (qz5l (h := { h with out := min (h.out + 1) 1000000 })) (qz1m (h := h) (qz5l (h := { h with out := min (h.out + 1) 1000000 })) (by omega) (by omega)) (by rw [cc]; exact cam0 _)
 ·omega
theorem qzea (own : Priv h -> qz9e A h.new_) (me clock : Int) (hck : 0 <= clock /\ clock <= 20000) (h1 : 1 <= h.at_) : qz1s x y z u A h Q43.1 Q43.2.1 Q43.2.2.1 Q43.2.2.2 := by
 have hf := H.f0
 unfold qz10
 split
 ·exact qzcc P X H (by assumption)
 split
 ·exact qzd1 P X H me clock hck (by omega) (by omega)
 split
 ·exact qzak P X H own (by omega)
 split
 ·exact qz9f P X H me (by omega)
 split
 ·exact qzce P X H (by assumption)
 split
 ·exact qzcs P X H (by assumption)
 ·exact qzdx P X H (by omega)
end
end
end Go.Proofs.Ythjkdnlmopafkaa
