/-
  What the law's proof goes by, part 29.
-/
import Derived.Test.YthjkdnlmopafkaaGreatFnSealed00
import Derived.Test.YthjkdnlmopafkaaGreatFnSealed27
namespace Go.Proofs.YthjkdnlmopafkaaGreat
open Go.ChangeShapes Go.WideShapes Go.ChangeAt Go.RowKit
set_option maxRecDepth 100000
set_option maxHeartbeats 16000000
set_option linter.unusedVariables false
set_option linter.unusedSimpArgs false
set_option linter.unnecessarySimpa false
set_option linter.unusedSectionVars false
section
def stN (A : Ar) : Nat := A.vers.countP (fun v => v.stamp != -1)
theorem qzh0 (A : Ar) : stN A <= Q7h := List.countP_le_length
theorem qzfg {A : Ar} {k : Int} {v : Vr} (h0 : 0 <= k) (h1 : k < (Q7h : Int)) : (A.vers.set k.toNat v).countP (fun v => v.stamp != -1) + (if (vrOf A k).stamp ≠ -1 then 1 else 0) = stN A + (if v.stamp ≠ -1 then 1 else 0) := by
 have hl : k.toNat < Q7h := by omega
 have e : vrOf A k = A.vers[k.toNat] := qz8n hl
 unfold stN
 rw [List.countP_set hl, e]
 have hp : A.vers[k.toNat].stamp ≠ -1 -> 0 < A.vers.countP (fun v => v.stamp != -1) := fun h => List.countP_pos_iff.2 ⟨_, List.getElem_mem hl, by simpa using h⟩
 generalize A.vers.countP (fun v => v.stamp != -1) = c at *
 generalize A.vers[k.toNat] = q at *
 by_cases e1 : q.stamp = -1 <;> by_cases e2 : v.stamp = -1 <;> simp [e1, e2] at hp ⊢ <;> omega
theorem qzfd {A : Ar} {v : Vr} : stN A <= (A.vers ++ [v]).countP (fun v => v.stamp != -1) := by
 unfold stN
 rw [List.countP_append]
 omega
structure Chg (x y z u : Int) (A A' : Ar) (bad : Int -> Prop) : Prop where
 ar : ArP x y z u A'
 ax : AX A'
 nn : Q7f <= A'.nodes.length
 nv : Q7h <= A'.vers.length
 kinds : ∀ v : Int, 0 <= v -> v < (Q7h : Int) -> (vrOf A' v).kind = (vrOf A v).kind
 lone : ∀ n : Int, 1 <= n -> n < (Q7f : Int) -> ¬ bad n -> qzap A n -> qzap A' n
 cnt : stN A <= stN A'
section
variable {x y z u : Int} {A : Ar} (P : ArP x y z u A) (X : AX A)
include P X
theorem Chg.same (bad : Int -> Prop) : Chg x y z u A A bad := ⟨P, X, Q7l _, Q7l _, fun _ _ _ => rfl, fun _ _ _ _ h => h, Q7l _⟩
theorem Chg.setV {k : Int} {v : Vr} (h0 : 0 <= k) (h1 : k < (Q7h : Int)) (hv : VrP Q7f Q7m k v) (hk : v.kind = (vrOf A k).kind) (hn : v.kind = 1 -> 1 <= v.next) (hs : (vrOf A k).stamp ≠ -1 -> v.stamp ≠ -1) : Chg x y z u A { A with vers := A.vers.set k.toNat v } (fun n => n = v.next) := by
 have hget : ∀ i : Int, 0 <= i -> vrOf { A with vers := A.vers.set k.toNat v } i = if i = k then v else vrOf A i := fun i hi => qz7j h0 h1 hi
 have hkind : ∀ i : Int, 0 <= i -> (vrOf { A with vers := A.vers.set k.toNat v } i).kind = (vrOf A i).kind := fun i hi => by
  rw [hget i hi]
  split
  ·rename_i e; subst e; exact hk
  ·rfl
 refine ⟨P.setV h0 h1 hv, ⟨fun i a b e => ?_, ?_⟩, Q7l _, by simp, fun i a _ => hkind i a, fun n n1 n2 hb L => ⟨fun i a b => ?_, L.guides, ?_⟩, ?_⟩
 ·rw [hget i a] at e ⊢
  have b' : i < (Q7h : Int) := by simpa using b
  split at e
  ·rename_i e'; rw [if_pos e']; exact hn e
  ·rename_i e'; rw [if_neg e']; exact X.put i a b' e
 ·have hd := (P.node 0 (Int.le_refl _) (by have := P.nl; omega)).hd
  show (vrOf _ (ndOf A 0).head).kind ≠ 2
  rw [hkind _ hd.1]
  exact X.head
 ·rw [hget i a]
  have b' : i < (Q7h : Int) := by simpa using b
  split
  ·exact fun e => hb e.symm
  ·exact L.vers i a b'
 ·have hd := (P.node n (by omega) n2).hd
  show (vrOf _ (ndOf A n).head).kind ≠ 1
  rw [hkind _ hd.1]
  exact L.kind
 ·have := qzfg (v := v) h0 h1
  show stN A <= (A.vers.set k.toNat v).countP _
  by_cases e1 : (vrOf A k).stamp = -1 <;> by_cases e2 : v.stamp = -1 <;> simp [e1, e2] at this hs <;> omega
theorem Chg.swap {node next : Int} {gone : Bool} {kind : Int} (h0 : 0 <= node) (h1 : node < (Q7f : Int)) (hz : (Q7h : Int) < z) (hn : next = -1 ∨ (1 <= next /\ next < (Q7f : Int))) (hk : 0 <= kind /\ kind <= 2) (hp : kind = 1 -> 1 <= next) (hd : kind = 2 -> node ≠ 0) :
  Chg x y z u A { A with vers := A.vers ++ [⟨next, gone, -1, (ndOf A node).head, kind⟩], nodes := A.nodes.set node.toNat { ndOf A node with head := (Q7h : Int) } } (fun n => n = next ∨ n = node) := by
 generalize hA : ({ A with vers := A.vers ++ [⟨next, gone, -1, (ndOf A node).head, kind⟩], nodes := A.nodes.set node.toNat { ndOf A node with head := (Q7h : Int) } } : Ar) = A'
 have hv1 : ∀ i : Int, 0 <= i -> i < (Q7h : Int) -> vrOf A' i = vrOf A i := fun i a b => by rw [<- hA]; exact qz6c a b
 have hv2 : vrOf A' (Q7h : Int) = ⟨next, gone, -1, (ndOf A node).head, kind⟩ := by rw [<- hA]; exact qz53 rfl
 have hn1 : ∀ i : Int, 0 <= i -> ndOf A' i = if i = node then { ndOf A node with head := (Q7h : Int) } else ndOf A i := fun i a => by rw [<- hA]; exact qz7j h0 h1 a
 have hl : A'.vers.length = Q7h + 1 := by rw [<- hA]; simp
 have hln : A'.nodes.length = Q7f := by rw [<- hA]; simp
 have hg : A'.guides = A.guides := by rw [<- hA]
 refine ⟨by rw [<- hA]; exact P.swap h0 h1 hz hn hk, ⟨fun i a b e => ?_, ?_⟩, by omega, by omega, fun i a b => by rw [hv1 i a b], fun n n1 n2 hb L => ⟨fun i a b => ?_, by rw [hg]; exact L.guides, ?_⟩, ?_⟩
 ·by_cases ei : i = (Q7h : Int)
  ·subst ei; rw [hv2] at e ⊢; exact hp e
  ·rw [hv1 i a (by omega)] at e ⊢; exact X.put i a (by omega) e
 ·rw [hn1 0 (Int.le_refl _)]
  split
  ·rename_i e; rw [hv2]; intro hh; exact hd hh e.symm
  ·have hd := (P.node 0 (Int.le_refl _) (by have := P.nl; omega)).hd
   rw [hv1 _ hd.1 hd.2]; exact X.head
 ·by_cases ei : i = (Q7h : Int)
  ·subst ei; rw [hv2]; exact fun e => hb (Or.inl e.symm)
  ·rw [hv1 i a (by omega)]; exact L.vers i a (by omega)
 ·rw [hn1 n (by omega), if_neg (fun e => hb (Or.inr e))]
  have hd := (P.node n (by omega) n2).hd
  rw [hv1 _ hd.1 hd.2]; exact L.kind
 ·rw [<- hA]; exact qzfd
theorem Chg.make {next key value : Int} (hy : (Q7f : Int) < y) (hz : (Q7h : Int) < z) (hn : next = -1 ∨ (1 <= next /\ next < (Q7f : Int))) (hk : 0 <= key /\ key <= 63) (hv : 0 <= value /\ value <= 9999) :
  Chg x y z u A { A with vers := A.vers ++ [⟨next, false, 0, -1, 0⟩], nodes := A.nodes ++ [⟨key, value, (Q7h : Int)⟩] } (fun n => n = next) /\ qzap { A with vers := A.vers ++ [⟨next, false, 0, -1, 0⟩], nodes := A.nodes ++ [⟨key, value, (Q7h : Int)⟩] } (Q7f : Int) := by
 generalize hA : ({ A with vers := A.vers ++ [⟨next, false, 0, -1, 0⟩], nodes := A.nodes ++ [⟨key, value, (Q7h : Int)⟩] } : Ar) = A'
 have hv1 : ∀ i : Int, 0 <= i -> i < (Q7h : Int) -> vrOf A' i = vrOf A i := fun i a b => by rw [<- hA]; exact qz6c a b
 have hv2 : vrOf A' (Q7h : Int) = ⟨next, false, 0, -1, 0⟩ := by rw [<- hA]; exact qz53 rfl
 have hn1 : ∀ i : Int, 0 <= i -> i < (Q7f : Int) -> ndOf A' i = ndOf A i := fun i a b => by rw [<- hA]; exact qz6c a b
 have hn2 : ndOf A' (Q7f : Int) = ⟨key, value, (Q7h : Int)⟩ := by rw [<- hA]; exact qz53 rfl
 have hl : A'.vers.length = Q7h + 1 := by rw [<- hA]; simp
 have hln : A'.nodes.length = Q7f + 1 := by rw [<- hA]; simp
 have hg : A'.guides = A.guides := by rw [<- hA]
 refine ⟨⟨by rw [<- hA]; exact P.make hy hz hn hk hv, ⟨fun i a b e => ?_, ?_⟩, by omega, by omega, fun i a b => by rw [hv1 i a b], fun n n1 n2 hb L => ⟨fun i a b => ?_, by rw [hg]; exact L.guides, ?_⟩, ?_⟩, ⟨fun i a b => ?_, ?_, ?_⟩⟩
 ·by_cases ei : i = (Q7h : Int)
  ·subst ei; rw [hv2] at e; simp at e
  ·rw [hv1 i a (by omega)] at e ⊢; exact X.put i a (by omega) e
 ·have hd := (P.node 0 (Int.le_refl _) (by have := P.nl; omega)).hd
  rw [hn1 0 (Int.le_refl _) (by have := P.nl; omega), hv1 _ hd.1 hd.2]; exact X.head
 ·by_cases ei : i = (Q7h : Int)
  ·subst ei; rw [hv2]; exact fun e => hb e.symm
  ·rw [hv1 i a (by omega)]; exact L.vers i a (by omega)
 ·have hd := (P.node n (by omega) n2).hd
  rw [hn1 n (by omega) n2, hv1 _ hd.1 hd.2]; exact L.kind
 ·rw [<- hA]; exact qzfd
 ·by_cases ei : i = (Q7h : Int)
  ·subst ei; rw [hv2]; simp only; omega
  ·rw [hv1 i a (by omega)]; have := (P.ver i a (by omega)).nx; omega
 ·rw [hg]; intro g hg'; have := P.guide g hg'; omega
 ·rw [hn2]; simp only; rw [hv2]; simp
theorem Chg.setG {k : Nat} {v : Int} (hv : 0 <= v /\ v < (Q7f : Int)) : Chg x y z u A { A with guides := A.guides.set k v } (fun n => n = v) :=
 ⟨P.setG hv, ⟨X.put, X.head⟩, Q7l _, Q7l _, fun _ _ _ => rfl, fun n _ _ hb L => ⟨L.vers, fun g hg => by
  rcases qz7m hg with rfl | h
  ·exact fun e => hb e.symm
  ·exact L.guides g h, L.kind⟩, Q7l _⟩
theorem Chg.setS {k : Nat} {v : Int} (hv : -1 <= v /\ v <= 100) : Chg x y z u A { A with slots := A.slots.set k v } (fun _ => False) :=
 ⟨P.setS hv, ⟨X.put, X.head⟩, Q7l _, Q7l _, fun _ _ _ => rfl, fun n _ _ hb L => ⟨L.vers, L.guides, L.kind⟩, Q7l _⟩
theorem Chg.tick (h : Q7m < 100) : Chg x y z u A { A with camera := Q7m + 1 } (fun _ => False) :=
 ⟨P.tick h, ⟨X.put, X.head⟩, Q7l _, Q7l _, fun _ _ _ => rfl, fun n _ _ hb L => ⟨L.vers, L.guides, L.kind⟩, Q7l _⟩
end
def qzgf (d : Dd) : Bool := inB d.kind 1 2 && inB d.key 0 63 && inB d.value 0 9999 && inB d.stamp 0 100 && inB d.clock 0 20000
structure qz25 (x y z u : Int) (A : Ar) (h : Hd) (A' : Ar) (h' : Hd) (d : Dd) (tk : Bool) : Prop where
 ar : ArP x y z u A'
 ax : AX A'
 hp : HP A' h'
 nn : Q7f <= A'.nodes.length
 nv : Q7h <= A'.vers.length
 kinds : ∀ v : Int, 0 <= v -> v < (Q7h : Int) -> (vrOf A' v).kind = (vrOf A v).kind
 lone : ∀ n : Int, 1 <= n -> n < (Q7f : Int) -> qzap A n -> Far h n -> (h.new_ = n -> Priv h') -> qzap A' n
 far : ∀ n : Int, 1 <= n -> n < (Q7f : Int) -> qzap A n -> Far h n -> Far h' n
 new : (NewS h h' /\ (Priv h' -> Priv h)) ∨ (h'.new_ = (Q7f : Int) /\ qzap A' h'.new_ /\ Far h' h'.new_)
 cam : A'.camera = Q7m + (if tk then 1 else 0)
 deed : d.kind ≠ 0 -> qzgf d = true
 cnt : stN A + (if d.kind ≠ 0 then 1 else 0) <= stN A'
theorem cam0 (a : Int) : a = a + (if false = true then 1 else 0) := by simp
theorem qz1s {h h' : Hd} (hn : NewS h h') (ha : ¬ (h.then_ = 4 /\ 3 <= h.at_ /\ h.at_ <= 5)) (h10 : h.at_ ≠ 10) : Priv h' -> Priv h := fun p => ⟨by have := p.1; rcases hn with e | e <;> omega, ha, h10⟩
theorem qz25.of {x y z u : Int} {A A' : Ar} {h h' : Hd} {bad : Int -> Prop} (C : Chg x y z u A A' bad) (hp : HP A' h') (hbad : ∀ n : Int, 1 <= n -> n < (Q7f : Int) -> qzap A n -> Far h n -> (h.new_ = n -> Priv h') -> ¬ bad n)
  (hfar : ∀ n : Int, 1 <= n -> n < (Q7f : Int) -> qzap A n -> Far h n -> Far h' n) (hnew : NewS h h') (hpr : Priv h' -> Priv h) {tk : Bool} (hc : A'.camera = Q7m + (if tk then 1 else 0)) : qz25 x y z u A h A' h' qz21 tk :=
 ⟨C.ar, C.ax, hp, C.nn, C.nv, C.kinds, fun n a b L F p => C.lone n a b (hbad n a b L F p) L, hfar, Or.inl ⟨hnew, hpr⟩, hc, fun hk => absurd rfl hk, C.cnt⟩
section
variable {x y z u : Int} {A : Ar} {h : Hd} (P : ArP x y z u A) (X : AX A) (H : HP A h)
include P X H
theorem qzfu (key : Int) : 0 <= qz4y x y z u A key /\ qz4y x y z u A key < (Q7f : Int) /\ ∀ n : Int, 1 <= n -> qzap A n -> qz4y x y z u A key ≠ n := by
 have hn := P.nl
 unfold qz4y
 split
 ·rename_i e
  have hg : (qz4m x y z u key).toNat < Q7v := by
   have hp := P.pl
   have := (qz2h x y z u).1 hp
   have hgl := P.gl
   have e1 := e.1
   unfold qz4m at e1 ⊢
   split at e1
   ·rename_i hh
    rw [if_pos hh]
    simp only [Bool.and_eq_true, qz18] at hh
    have : key * u / 64 <= u - 1 + 1 := by
     have : key * u <= 64 * u := by
      have := Int.mul_le_mul_of_nonneg_right (show key <= 64 by omega) (show 0 <= u by omega)
      exact this
     have := Int.ediv_le_ediv (show (0:Int) < 64 by omega) this
     rw [Int.mul_ediv_cancel_left u (by omega)] at this
     omega
    omega
   ·omega
  have hm := qzdc (d := 0) hg
  have := P.guide _ hm
  exact ⟨this.1, this.2, fun n _ L => L.guides _ hm⟩
 ·exact ⟨Int.le_refl _, by omega, fun n a _ => by omega⟩
theorem qzem (me clock : Int) (hck : 0 <= clock /\ clock <= 20000) (h2 : 2 <= h.at_) (h5 : h.at_ <= 5) : qz25 x y z u A h (qz1m A h qz21 clock).1 (qz1m A h qz21 clock).2.1 (qz1m A h qz21 clock).2.2 false := by
 have hc := H.call (by omega)
 have hcam := P.cam
 have H' := H
 obtain ⟨f0, f1, f2, f3, f4, f5, f6, f7, f8, f9, f10, f11, f12, f13, f14, k0, k1, k2, k3, k4, k5, k6, c, dl, n0, l, m, t⟩ := H'
 have hv := P.ver h.ver k4.1 k4.2
 have hon : ∀ {A' : Ar}, ArP x y z u A' -> HP A' h -> 3 <= h.at_ -> HP A' (onH A' h) := fun P' H' h3 => qzhq P' H' ⟨h3, h5⟩
 unfold qz1m
 split
 ·rename_i e
  have hd := (P.node h.x_ k0.1 k0.2).hd
  refine qz25.of (Chg.same P X (fun _ => False)) ?_ (fun _ _ _ _ _ _ h => h) (by exact fun n _ _ _ F => ⟨F.pred, F.curr, F.x⟩) (by exact Or.inl rfl) (by exact qz1s (h := h) (Or.inl rfl) (by omega) (by omega)) (cam0 _)
  constructor <;> dsimp only <;> first | assumption | omega | (intro _; exact hc) | skip
  intro _ _ e2 e3
  rw [e3] at e2
  exact X.head e2
 split
 ·split
  ·refine qz25.of (Chg.same P X (fun _ => False)) (hon P H (by omega)) (fun _ _ _ _ _ _ h => h) (fun n a _ L F => qzg2 F a (L.vers _ k4.1 k4.2)) qzby ?_ (cam0 _)
   intro p
   refine qz1s qzby (fun e => ?_) (by omega) p
   exact p.2.2 (qz9f e.1)
  ·refine qz25.of (Chg.same P X (fun _ => False)) ?_ (fun _ _ _ _ _ _ h => h) (by exact fun n _ _ _ F => ⟨F.pred, F.curr, F.x⟩) (by exact Or.inl rfl) ?_ (cam0 _)
   ·constructor <;> dsimp only <;> first | assumption | omega | (intro _; exact hc) | (intro _ _; exact dl (by omega) (by omega))
   ·intro p
    refine qz1s (h' := { h with at_ := 4 }) (Or.inl rfl) (fun e => p.2.1 ⟨e.1, by dsimp only; omega⟩) (by omega) p
 split
 ·refine qz25.of (Chg.same P X (fun _ => False)) ?_ (fun _ _ _ _ _ _ h => h) (by exact fun n _ _ _ F => ⟨F.pred, F.curr, F.x⟩) (by exact Or.inl rfl) ?_ (cam0 _)
  ·constructor <;> dsimp only <;> first | assumption | omega | (intro _; exact hc) | (intro _ _; exact dl (by omega) (by omega))
  ·intro p
   refine qz1s (h' := { h with cam := Q7m, camAt := clock, at_ := 5 }) (Or.inl rfl) (fun e => p.2.1 ⟨e.1, by dsimp only; omega⟩) (by omega) p
 split
 ·split
  ·refine qz25.of (Chg.same P X (fun _ => False)) (hon P H (by omega)) (fun _ _ _ _ _ _ h => h) (fun n a _ L F => qzg2 F a (L.vers _ k4.1 k4.2)) qzby ?_ (cam0 _)
   intro p
   refine qz1s qzby (fun e => ?_) (by omega) p
   exact p.2.2 (qz9f e.1)
  ·rename_i hst
   have hun : (vrOf A h.ver).stamp = -1 := by
    simp only [qz1v, Bool.and_eq_true, qz18, bne_iff_ne, ne_eq, not_and, Decidable.not_not] at hst
    exact hst (by omega)
   have C := Chg.setV P X (k := h.ver) (v := { vrOf A h.ver with stamp := min h.cam Q7m }) k4.1 k4.2 ⟨hv.nx, by dsimp only; omega, hv.pv, hv.kd⟩ rfl (X.put h.ver k4.1 k4.2) (fun e => absurd hun e)
   have hself : vrOf (qz44 A h) h.ver = { vrOf A h.ver with stamp := min h.cam Q7m } := by
    refine (qz7j k4.1 k4.2 k4.1).trans (if_pos rfl)
   have hs := H.stay C.nn C.nv C.kinds
   have hkind : (qz3p (qz44 A h) h).kind = (vrOf A h.ver).kind := by
    unfold qz3p
    rw [hself]
    dsimp only
    split
    ·rename_i e; rw [e]; rfl
    ·rfl
   refine ⟨C.ar, C.ax, hon C.ar hs (by omega), C.nn, C.nv, C.kinds, fun n a b L F p => ?_, fun n a b L F => ?_, Or.inl ⟨qzby, ?_⟩, by simp [qz44], fun hk => ?_, ?_⟩
   ·exact C.lone n a b (fun e => L.vers h.ver k4.1 k4.2 e.symm) L
   ·refine qzg2 F a ?_
    rw [hself]
    exact L.vers h.ver k4.1 k4.2
   ·intro p
    refine qz1s qzby (fun e => ?_) (by omega) p
    exact p.2.2 (qz9f e.1)
   ·have hk0 := hk
    rw [hkind] at hk
    have hn2 : 1 <= qzde (qz44 A h) h /\ qzde (qz44 A h) h < (Q7f : Int) := by
     unfold qzde
     rw [hself]
     dsimp only
     split
     ·rename_i e
      have := X.put h.ver k4.1 k4.2 e
      have := hv.nx
      omega
     ·have := hv.kd
      have := dl (by omega) (by omega) (by omega)
      omega
    have hnd := P.node _ (by omega) hn2.2
    have hnd' : ndOf (qz44 A h) (qzde (qz44 A h) h) = ndOf A (qzde (qz44 A h) h) := rfl
    have := hnd.k1 (by omega)
    have := hnd.v1
    have := hv.kd
    unfold qz3p
    rw [if_neg (by rw [hself]; exact hk)]
    rw [hself, hnd']
    simp only [qzgf, Bool.and_eq_true, qz18]
    omega
   ·rw [hkind]
    have := qzfg (A := A) (v := { vrOf A h.ver with stamp := min h.cam Q7m }) k4.1 k4.2
    have e2 : min h.cam Q7m ≠ -1 := by omega
    show _ <= (A.vers.set h.ver.toNat _).countP _
    rw [if_neg (fun h => h hun), if_pos e2] at this
    split <;> omega
 ·omega
end
section
variable {x y z u : Int} {A : Ar} {h : Hd} (P : ArP x y z u A) (X : AX A) (H : HP A h)
include P X H
theorem qz5y {node v next : Int} {gone : Bool} {kind : Int} (h0 : 0 <= node) (h1 : node < (Q7f : Int)) (hn : next = -1 ∨ (1 <= next /\ next < (Q7f : Int))) (hk : 0 <= kind /\ kind <= 2) (hp : kind = 1 -> 1 <= next) (hd : kind = 2 -> node ≠ 0) :
  (qz1f z A node v next gone kind = (A, -2) ∨ qz1f z A node v next gone kind = (A, -1)) ∨ (∃ A', qz1f z A node v next gone kind = (A', (Q7h : Int)) /\ Chg x y z u A A' (fun n => n = next ∨ n = node) /\ A'.camera = Q7m /\ A'.vers.length = Q7h + 1 /\ A'.nodes.length = Q7f /\ (vrOf A' (Q7h : Int)).kind = kind) := by
 unfold qz1f
 split
 ·exact Or.inl (Or.inl rfl)
 ·split
  ·exact Or.inl (Or.inr rfl)
  ·rename_i e1 e2
   have e2 : (ndOf A node).head = v := Decidable.not_not.1 e2
   subst e2
   exact Or.inr ⟨_, rfl, Chg.swap P X h0 h1 (by omega) hn hk hp hd, rfl, by simp, by simp, congrArg Vr.kind (qz53 (l := A.vers) rfl)⟩
theorem qzfc (ha : h.at_ = 1 ∨ h.at_ = 6) : qz25 x y z u A h (qz2c x y z u A h).1 (qz2c x y z u A h).2 qz21 false := by
 have hc := H.call (by omega)
 have hsi := qzfu P X H h.key
 have H' := H
 obtain ⟨f0, f1, f2, f3, f4, f5, f6, f7, f8, f9, f10, f11, f12, f13, f14, k0, k1, k2, k3, k4, k5, k6, c, dl, n0, l, m, t⟩ := H'
 unfold qz2c
 split
 ·refine qz25.of (Chg.same P X (fun _ => False)) ?_ (fun _ _ _ _ _ _ h => h) (by exact fun n a _ L F => ⟨F.pred, F.curr, fun e => absurd e (hsi.2.2 n a L)⟩) (by exact Or.inl rfl) (by exact qz1s (h := h) (Or.inl rfl) (by omega) (by omega)) (cam0 _)
  have := hsi.1
  have := hsi.2.1
  constructor <;> dsimp only <;> first | assumption | omega | (intro _; exact hc)
 ·have e6 : h.at_ = 6 := by omega
  have t2 := t e6
  have hnx := (P.ver h.currVer k6.1 k6.2).nx
  rcases qz5y P X H (v := h.predVer) (gone := false) k1.1 k1.2 hnx (show (0:Int) <= 0 /\ (0:Int) <= 2 by omega) (by omega) (by omega) with (e | e) | ⟨A', e, C, cc, lv, ln, kk⟩
  ·rw [e]
   dsimp only
   rw [if_pos rfl]
   exact qz25.of (Chg.same P X (fun _ => False)) (HP.rest P.nl.1 P.vl.1 (by omega) (by omega) (by omega) f11) (fun _ _ _ _ _ _ h => h) (fun n a _ _ _ => Far.rest a) (Or.inr rfl) (qz1s (Or.inr rfl) (by omega) (by omega)) (cam0 _)
  ·rw [e]
   dsimp only
   rw [if_neg (by omega), if_pos rfl]
   refine qz25.of (Chg.same P X (fun _ => False)) ?_ (fun _ _ _ _ _ _ h => h) (by exact fun n a _ L F => ⟨F.pred, F.curr, F.x⟩) (by exact Or.inl rfl) (by exact qz1s (h := h) (Or.inl rfl) (by omega) (by omega)) (cam0 _)
   constructor <;> dsimp only <;> first | assumption | omega | (intro _; exact hc)
  ·rw [e]
   dsimp only
   rw [if_neg (by omega), if_neg (by omega)]
   refine qz25.of C ?_ (fun n a b L F _ hb => ?_) (by exact fun n a _ L F => ⟨F.pred, F.curr, fun e => by have := F.x e; omega⟩) (by exact Or.inl rfl) (by exact qz1s (h := h) (Or.inl rfl) (by omega) (by omega)) (by rw [cc]; exact cam0 _)
   ·constructor <;> dsimp only <;> first | assumption | omega | (intro _; exact hc)
   ·rcases hb with hb | hb
    ·exact L.vers h.currVer k6.1 k6.2 hb.symm
    ·exact F.pred hb.symm
theorem qzf2 : aimI h = -1 ∨ (1 <= aimI h /\ aimI h < (Q7f : Int) /\ aimI h = h.curr) := by
 have := H.k2
 unfold aimI
 split <;> omega
theorem qzdl : qz3o y z A h = (A, qz9 h 5 0 0) ∨ ∃ A', qz3o y z A h = (A', { h with new_ := (Q7f : Int), at_ := 9 }) /\ Chg x y z u A A' (fun n => n = aimI h) /\ qzap A' (Q7f : Int) /\ A'.camera = Q7m /\ A'.vers.length = Q7h + 1 /\ A'.nodes.length = Q7f + 1 := by
 have haim := qzf2 P X H
 have := H.f4
 have := H.f5
 unfold qz3o
 split
 ·exact Or.inl rfl
 ·rename_i hroom
  obtain ⟨C, L⟩ := Chg.make P X (next := aimI h) (key := max h.key 0) (value := h.value) (by omega) (by omega) (by omega) (by omega) H.f5
  exact Or.inr ⟨_, rfl, C, L, rfl, by simp, by simp⟩
theorem qzfb (e7 : h.at_ = 7) : qz25 x y z u A h (qz3o y z A h).1 (qz3o y z A h).2 qz21 false := by
 have hc := H.call (by omega)
 have haim := qzf2 P X H
 have hnl := P.nl
 rcases qzdl P X H with e | ⟨A', e, C, L, cc, lv, ln⟩
 ·rw [e]
  exact qz25.of (Chg.same P X (fun _ => False)) (HP.rest P.nl.1 P.vl.1 (by omega) (by omega) (by omega) H.f11) (fun _ _ _ _ _ _ h => h) (fun n a _ _ _ => Far.rest a) (Or.inr rfl) (qz1s (Or.inr rfl) (by omega) (by omega)) (cam0 _)
 ·rw [e]
  have H' := H
  obtain ⟨f0, f1, f2, f3, f4, f5, f6, f7, f8, f9, f10, f11, f12, f13, f14, k0, k1, k2, k3, k4, k5, k6, c, dl, n0, l, m, t⟩ := H'
  refine ⟨C.ar, C.ax, ?_, C.nn, C.nv, C.kinds, fun n a b L' F _ => C.lone n a b (fun hb => ?_) L', fun n a b L F => ⟨F.pred, F.curr, F.x⟩, Or.inr ⟨rfl, L, ?_⟩, by rw [cc]; exact cam0 _, fun hk => absurd rfl hk, C.cnt⟩
  ·constructor <;> dsimp only <;> first | assumption | omega | (intro _; exact hc)
  ·have hb' : n = aimI h := hb
   have := F.curr
   omega
  ·exact ⟨by dsimp only; omega, by dsimp only; omega, fun e => by dsimp only at e; omega⟩
theorem qzg9 (own : Priv h -> qzap A h.new_) (e8 : h.at_ = 8) : qz25 x y z u A h (if 0 <= h.new_ then { A with vers := A.vers.set (ndOf A h.new_).head.toNat { vrOf A (ndOf A h.new_).head with next := aimI h } } else A) { h with at_ := 9 } qz21 false := by
 have hc := H.call (by omega)
 have haim := qzf2 P X H
 have hnew := H.lnk (Or.inl e8)
 have hpr : Priv h := ⟨hnew, by omega, by omega⟩
 have L := own hpr
 have hd := (P.node h.new_ (by omega) H.k3.2).hd
 have hv := P.ver _ hd.1 hd.2
 rw [if_pos (by omega)]
 have C := Chg.setV P X (k := (ndOf A h.new_).head) (v := { vrOf A (ndOf A h.new_).head with next := aimI h }) hd.1 hd.2 ⟨by dsimp only; omega, hv.st, hv.pv, hv.kd⟩ rfl (fun e => absurd e L.kind) (fun e => e)
 have cc : ({ A with vers := A.vers.set (ndOf A h.new_).head.toNat { vrOf A (ndOf A h.new_).head with next := aimI h } } : Ar).camera = Q7m := rfl
 dsimp only at C
 generalize ({ A with vers := A.vers.set (ndOf A h.new_).head.toNat { vrOf A (ndOf A h.new_).head with next := aimI h } } : Ar) = A' at C cc ⊢
 have hs := H.stay C.nn C.nv C.kinds
 obtain ⟨g0, g1, g2, g3, g4, g5, g6, g7, g8, g9, g10, g11, g12, g13, g14, j0, j1, j2, j3, j4, j5, j6, c', dl', n0', l', m', t'⟩ := hs
 refine qz25.of C ?_ (fun n a b L F _ hb => ?_) (by exact fun n a _ L F => ⟨F.pred, F.curr, F.x⟩) (by exact Or.inl rfl) (by exact qz1s (h := h) (Or.inl rfl) (by omega) (by omega)) (by rw [cc]; exact cam0 _)
 ·constructor <;> dsimp only <;> first | assumption | omega | (intro _; exact hc)
 ·have hb' : n = aimI h := hb
  have := F.curr
  omega
theorem qzc4 (own : Priv h -> qzap A h.new_) (ha : 7 <= h.at_ /\ h.at_ <= 12) : qz25 x y z u A h (qzx x y z u A h).1 (qzx x y z u A h).2 qz21 false := by
 have hc := H.call (by omega)
 have haim := qzf2 P X H
 have H' := H
 obtain ⟨f0, f1, f2, f3, f4, f5, f6, f7, f8, f9, f10, f11, f12, f13, f14, k0, k1, k2, k3, k4, k5, k6, c, dl, n0, l, m, t⟩ := H'
 have hnl := P.nl
 have hvl := P.vl
 have hnx := (P.ver h.currVer k6.1 k6.2).nx
 unfold qzx
 split
 ·exact qzfb P X H (by assumption)
 split
 ·exact qzg9 P X H own (by assumption)
 split
 ·rename_i e9
  have hnew := l (Or.inr e9)
  have hni : newI h = h.new_ := by unfold newI; rw [if_neg (by omega)]
  rw [hni]
  rcases qz5y P X H (v := h.predVer) (next := h.new_) (gone := false) k1.1 k1.2 (by omega) (show (0:Int) <= 1 /\ (1:Int) <= 2 by omega) (by omega) (by omega) with (e | e) | ⟨A', e, C, cc, lv, ln, kk⟩
  ·rw [e]
   exact qz25.of (Chg.same P X (fun _ => False)) (HP.rest P.nl.1 P.vl.1 (by omega) (by omega) (by omega) f11) (fun _ _ _ _ _ _ h => h) (fun n a _ _ _ => Far.rest a) (Or.inr rfl) (qz1s (Or.inr rfl) (by omega) (by omega)) (cam0 _)
  ·rw [e]
   refine qz25.of (h' := { h with at_ := 1 }) (Chg.same P X (fun _ => False)) ?_ (fun _ _ _ _ _ _ h => h) (by exact fun n a _ L F => ⟨F.pred, F.curr, F.x⟩) (by exact Or.inl rfl) (by exact qz1s (h := h) (Or.inl rfl) (by omega) (by omega)) (cam0 _)
   constructor <;> dsimp only <;> first | assumption | omega | (intro _; exact hc)
  ·rw [e]
   dsimp only
   rw [show qz7w (A.vers.length : Int) h h.pred 4 = { h with ver := (A.vers.length : Int), x_ := h.pred, then_ := 4, at_ := 3 } by unfold qz7w; rw [if_neg (by omega), if_neg (by omega)]]
   refine qz25.of C ?_ (fun n a b L F p hb => ?_) (by exact fun n a _ L F => ⟨F.pred, F.curr, fun e => absurd e F.pred⟩) (by exact Or.inl rfl) (by exact qz1s (h := h) (Or.inl rfl) (by omega) (by omega)) (by rw [cc]; exact cam0 _)
   ·constructor <;> dsimp only <;> first | assumption | omega | (intro _; exact hc)
   ·rcases hb with hb | hb
    ·exact (p hb.symm).2.1 ⟨rfl, by dsimp only; omega⟩
    ·exact F.pred hb.symm
 split
 ·split
  ·rename_i hg
   refine qz25.of (Chg.setG P X (k := (qz4s x y z u h.key).toNat) (v := h.new_) (by omega)) (HP.rest (A := { A with guides := A.guides.set (qz4s x y z u h.key).toNat h.new_ }) P.nl.1 P.vl.1 (by omega) (by omega) (by omega) f11) (fun n a b L F p hb => ?_) (fun n a _ _ _ => Far.rest a) (Or.inr rfl) (fun p => by have := p.1; simp only [qz9] at this; omega) (cam0 _)
   have := (p hb.symm).1
   simp only [qz9] at this
   omega
  ·exact qz25.of (Chg.same P X (fun _ => False)) (HP.rest P.nl.1 P.vl.1 (by omega) (by omega) (by omega) f11) (fun _ _ _ _ _ _ h => h) (fun n a _ _ _ => Far.rest a) (Or.inr rfl) (fun p => by have := p.1; simp only [qz9] at this; omega) (cam0 _)
 split
 ·rename_i e11
  have hcu := m e11
  have hmx : max h.curr 0 = h.curr := by omega
  rw [hmx]
  rcases qz5y P X H (node := h.curr) (v := h.currVer) (gone := true) (by omega) k2.2 hnx (show (0:Int) <= 2 /\ (2:Int) <= 2 by omega) (by omega) (by omega) with (e | e) | ⟨A', e, C, cc, lv, ln, kk⟩
  ·rw [e]
   exact qz25.of (Chg.same P X (fun _ => False)) (HP.rest P.nl.1 P.vl.1 (by omega) (by omega) (by omega) f11) (fun _ _ _ _ _ _ h => h) (fun n a _ _ _ => Far.rest a) (Or.inr rfl) (qz1s (Or.inr rfl) (by omega) (by omega)) (cam0 _)
  ·rw [e]
   refine qz25.of (h' := { h with at_ := 1 }) (Chg.same P X (fun _ => False)) ?_ (fun _ _ _ _ _ _ h => h) (by exact fun n a _ L F => ⟨F.pred, F.curr, F.x⟩) (by exact Or.inl rfl) (by exact qz1s (h := h) (Or.inl rfl) (by omega) (by omega)) (cam0 _)
   constructor <;> dsimp only <;> first | assumption | omega | (intro _; exact hc)
  ·rw [e]
   dsimp only
   rw [show qz7w (A.vers.length : Int) h h.curr 5 = { h with ver := (A.vers.length : Int), x_ := h.curr, then_ := 5, at_ := 3 } by unfold qz7w; rw [if_neg (by omega), if_neg (by omega)]]
   refine qz25.of C ?_ (fun n a b L F p hb => ?_) (by exact fun n a _ L F => ⟨F.pred, F.curr, fun e => absurd e F.curr⟩) (by exact Or.inl rfl) (by exact qz1s (h := h) (Or.inl rfl) (by omega) (by omega)) (by rw [cc]; exact cam0 _)
   ·constructor <;> dsimp only <;> first | assumption | omega | (intro _; exact hc)
   ·rcases hb with hb | hb
    ·exact L.vers h.currVer k6.1 k6.2 hb.symm
    ·exact F.curr hb.symm
 split
 ·rcases qz5y P X H (v := h.predVer) (gone := false) k1.1 k1.2 hnx (show (0:Int) <= 0 /\ (0:Int) <= 2 by omega) (by omega) (by omega) with (e | e) | ⟨A', e, C, cc, lv, ln, kk⟩
  ·rw [e]
   exact qz25.of (Chg.same P X (fun _ => False)) (HP.rest P.nl.1 P.vl.1 (by omega) (qzgy P (by omega) (by omega)) (by omega) f11) (fun _ _ _ _ _ _ h => h) (fun n a _ _ _ => Far.rest a) (Or.inr rfl) (qz1s (Or.inr rfl) (by omega) (by omega)) (cam0 _)
  ·rw [e]
   exact qz25.of (Chg.same P X (fun _ => False)) (HP.rest P.nl.1 P.vl.1 (by omega) (qzgy P (by omega) (by omega)) (by omega) f11) (fun _ _ _ _ _ _ h => h) (fun n a _ _ _ => Far.rest a) (Or.inr rfl) (qz1s (Or.inr rfl) (by omega) (by omega)) (cam0 _)
  ·rw [e]
   refine qz25.of C (HP.rest C.ar.nl.1 C.ar.vl.1 (by omega) (qzgy C.ar (by omega) (by omega)) (by omega) f11) (fun n a b L F p hb => ?_) (fun n a _ _ _ => Far.rest a) (Or.inr rfl) (qz1s (Or.inr rfl) (by omega) (by omega)) (by rw [cc]; exact cam0 _)
   rcases hb with hb | hb
   ·exact L.vers h.currVer k6.1 k6.2 hb.symm
   ·exact F.pred hb.symm
 ·omega
end
section
variable {x y z u : Int} {A : Ar} {h : Hd} (P : ArP x y z u A) (X : AX A) (H : HP A h)
include P X H
theorem qzb0 (me : Int) (ha : 13 <= h.at_ /\ h.at_ <= 18) : qz25 x y z u A h (qzo A h me false).1 (qzo A h me false).2.1 qz21 (qzo A h me false).2.2 := by
 have hc := H.call (by omega)
 have hcam := P.cam
 have H' := H
 obtain ⟨f0, f1, f2, f3, f4, f5, f6, f7, f8, f9, f10, f11, f12, f13, f14, k0, k1, k2, k3, k4, k5, k6, c, dl, n0, l, m, t⟩ := H'
 unfold qzo
 split
 ·refine qz25.of (Chg.same P X (fun _ => False)) ?_ (fun _ _ _ _ _ _ h => h) (by exact fun n a _ L F => ⟨F.pred, F.curr, F.x⟩) (by exact Or.inl rfl) (by exact qz1s (h := h) (Or.inl rfl) (by omega) (by omega)) (cam0 _)
  constructor <;> dsimp only <;> first | assumption | omega | (intro _; exact hc)
 split
 ·refine qz25.of (Chg.setS P X (by omega)) ?_ (fun _ _ _ _ _ _ h => h) (by exact fun n a _ L F => ⟨F.pred, F.curr, F.x⟩) (by exact Or.inl rfl) (by exact qz1s (h := h) (Or.inl rfl) (by omega) (by omega)) (cam0 _)
  constructor <;> dsimp only <;> first | assumption | omega | (intro _; exact hc)
 split
 ·split
  ·refine qz25.of (Chg.same P X (fun _ => False)) ?_ (fun _ _ _ _ _ _ h => h) (by exact fun n a _ L F => ⟨F.pred, F.curr, F.x⟩) (by exact Or.inl rfl) (by exact qz1s (h := h) (Or.inl rfl) (by omega) (by omega)) (cam0 _)
   constructor <;> dsimp only <;> first | assumption | omega | (intro _; exact hc)
  ·refine qz25.of (Chg.same P X (fun _ => False)) ?_ (fun _ _ _ _ _ _ h => h) (by exact fun n a _ L F => ⟨F.pred, F.curr, F.x⟩) (by exact Or.inl rfl) (by exact qz1s (h := h) (Or.inl rfl) (by omega) (by omega)) (cam0 _)
   constructor <;> dsimp only <;> first | assumption | omega | (intro _; exact hc)
 split
 ·split
  ·rename_i e
   exact qz25.of (Chg.tick P X (by omega)) (HP.rest (A := { A with camera := Q7m + 1 }) P.nl.1 P.vl.1 (by omega) (by omega) (by omega) (by dsimp only; omega)) (fun _ _ _ _ _ _ h => h) (fun n a _ _ _ => Far.rest a) (Or.inr rfl) (qz1s (Or.inr rfl) (by omega) (by omega)) (by simp)
  ·exact qz25.of (Chg.same P X (fun _ => False)) (HP.rest P.nl.1 P.vl.1 (by omega) (by omega) (by omega) (by dsimp only; omega)) (fun _ _ _ _ _ _ h => h) (fun n a _ _ _ => Far.rest a) (Or.inr rfl) (qz1s (Or.inr rfl) (by omega) (by omega)) (cam0 _)
 split
 ·exact qz25.of (Chg.setS P X (by omega)) ((HP.rest (A := A) (h := h) (rp := 6) (ot := 0) (sm := 0) P.nl.1 P.vl.1 (by omega) (by omega) (by omega) f11).stay (Q7l _) (Q7l _) (fun _ _ _ => rfl)) (fun _ _ _ _ _ _ h => h) (by exact fun n a _ _ _ => Far.rest a) (by exact Or.inr rfl) (by exact qz1s (h := h) (Or.inr rfl) (by omega) (by omega)) (cam0 _)
 split
 ·exact qz25.of (Chg.setS P X (by omega)) ((HP.rest (A := A) (h := { h with held := -1 }) (rp := 4) (ot := 0) (sm := 0) P.nl.1 P.vl.1 (by omega) (by omega) (by omega) (by dsimp only; omega)).stay (Q7l _) (Q7l _) (fun _ _ _ => rfl)) (fun _ _ _ _ _ _ h => h) (by exact fun n a _ _ _ => Far.rest a) (by exact Or.inr rfl) (by exact qz1s (h := h) (Or.inr rfl) (by omega) (by omega)) (cam0 _)
 ·omega
theorem qzey (ha : h.at_ = 19) : qz25 x y z u A h A (qzaz A h) qz21 false := by
 have hc := H.call (by omega)
 have hpv := (P.ver h.ver H.k4.1 H.k4.2).pv
 have hk4 := H.k4
 have H2 : 0 <= (vrOf A h.ver).prev -> HP A { h with ver := (vrOf A h.ver).prev } := fun hp => by
  have H' := H
  obtain ⟨f0, f1, f2, f3, f4, f5, f6, f7, f8, f9, f10, f11, f12, f13, f14, k0, k1, k2, k3, k4, k5, k6, c, dl, n0, l, m, t⟩ := H'
  constructor <;> dsimp only <;> first | assumption | omega
 unfold qzaz
 split
 ·exact qz25.of (Chg.same P X (fun _ => False)) (HP.rest P.nl.1 P.vl.1 (by omega) (by omega) (by omega) H.f11) (fun _ _ _ _ _ _ h => h) (fun n a _ _ _ => Far.rest a) (Or.inr rfl) (qz1s (Or.inr rfl) (by omega) (by omega)) (cam0 _)
 ·rename_i hp
  split
  ·refine qz25.of (h := h) (Chg.same P X (fun _ => False)) (qzgl P (H2 (by omega)) (by dsimp only; omega)) (fun _ _ _ _ _ _ h => h) (fun n a _ L F => qzff ⟨F.pred, F.curr, F.x⟩ a (L.vers _ (by dsimp only; omega) (by dsimp only; omega))) (qzdn (h := { h with ver := (vrOf A h.ver).prev })) (qz1s (h := h) (qzdn (h := { h with ver := (vrOf A h.ver).prev })) (by omega) (by omega)) (cam0 _)
  ·exact qz25.of (h := h) (Chg.same P X (fun _ => False)) (H2 (by omega)) (fun _ _ _ _ _ _ h => h) (fun n a _ L F => ⟨F.pred, F.curr, F.x⟩) (Or.inl rfl) (qz1s (h := h) (Or.inl rfl) (by omega) (by omega)) (cam0 _)
theorem qzec (ha : h.at_ = 21) : qz25 x y z u A h A (qz8l A h) qz21 false := by
 have hc := H.call (by omega)
 have hnl := P.nl
 have hl : 0 <= qzd5 A h /\ qzd5 A h <= 100 := by
  have := H.f13
  unfold qzd5
  split
  ·rename_i e
   have := P.slot _ (qzdc (l := A.slots) (d := 0) (k := h.index.toNat) (by have := H.f14; omega))
   omega
  ·omega
 have H' := H
 obtain ⟨f0, f1, f2, f3, f4, f5, f6, f7, f8, f9, f10, f11, f12, f13, f14, k0, k1, k2, k3, k4, k5, k6, c, dl, n0, l, m, t⟩ := H'
 unfold qz8l
 split
 ·refine qz25.of (Chg.same P X (fun _ => False)) ?_ (fun _ _ _ _ _ _ h => h) (by exact fun n a _ L F => ⟨F.pred, F.curr, fun _ => rfl⟩) (by exact Or.inl rfl) (by exact qz1s (h := h) (Or.inl rfl) (by omega) (by omega)) (cam0 _)
  constructor <;> dsimp only <;> first | assumption | omega | (intro _; exact hc)
 ·refine qz25.of (Chg.same P X (fun _ => False)) ?_ (fun _ _ _ _ _ _ h => h) (by exact fun n a _ L F => ⟨F.pred, F.curr, F.x⟩) (by exact Or.inl rfl) (by exact qz1s (h := h) (Or.inl rfl) (by omega) (by omega)) (cam0 _)
  constructor <;> dsimp only <;> first | assumption | omega | (intro _; exact hc)
theorem qzfs (ha : h.at_ = 20 ∨ h.at_ = 22 ∨ h.at_ = 23) : qz25 x y z u A h (qz4r A h).1 (qz4r A h).2 qz21 false := by
 have hc := H.call (by omega)
 have hcam := P.cam
 have hv := P.ver h.ver H.k4.1 H.k4.2
 have hpv := hv.pv
 have H' := H
 obtain ⟨f0, f1, f2, f3, f4, f5, f6, f7, f8, f9, f10, f11, f12, f13, f14, k0, k1, k2, k3, k4, k5, k6, c, dl, n0, l, m, t⟩ := H'
 unfold qz4r
 split
 ·refine qz25.of (Chg.same P X (fun _ => False)) ?_ (fun _ _ _ _ _ _ h => h) (by exact fun n a _ L F => ⟨F.pred, F.curr, F.x⟩) (by exact Or.inl rfl) (by exact qz1s (h := h) (Or.inl rfl) (by omega) (by omega)) (cam0 _)
  constructor <;> dsimp only <;> first | assumption | omega | (intro _; exact hc)
 split
 ·split
  ·exact qz25.of (Chg.same P X (fun _ => False)) (qze2 P H (by omega)) (fun _ _ _ _ _ _ h => h) (fun n a _ L F => qzax F a) qz6j (qz1s qz6j (by omega) (by omega)) (cam0 _)
  ·split
   ·refine qz25.of (Chg.same P X (fun _ => False)) ?_ (fun _ _ _ _ _ _ h => h) (by exact fun n a _ L F => ⟨F.pred, F.curr, F.x⟩) (by exact Or.inl rfl) (by exact qz1s (h := h) (Or.inl rfl) (by omega) (by omega)) (cam0 _)
    constructor <;> dsimp only <;> first | assumption | omega | (intro _; exact hc)
   ·refine qz25.of (Chg.same P X (fun _ => False)) ?_ (fun _ _ _ _ _ _ h => h) (by exact fun n a _ L F => ⟨F.pred, F.curr, F.x⟩) (by exact Or.inl rfl) (by exact qz1s (h := h) (Or.inl rfl) (by omega) (by omega)) (cam0 _)
    constructor <;> dsimp only <;> first | assumption | omega | (intro _; exact hc)
 split
 ·split
  ·exact qz25.of (Chg.same P X (fun _ => False)) (qze2 P H (by omega)) (fun _ _ _ _ _ _ h => h) (fun n a _ L F => qzax F a) qz6j (qz1s qz6j (by omega) (by omega)) (cam0 _)
  ·have C := Chg.setV P X (k := h.ver) (v := { vrOf A h.ver with prev := -1 }) k4.1 k4.2 ⟨hv.nx, hv.st, by dsimp only; omega, hv.kd⟩ rfl (X.put h.ver k4.1 k4.2) (fun e => e)
   have C' : Chg x y z u A (qzah A h) (fun n => n = (vrOf A h.ver).next) := C
   have cc : (qzah A h).camera = Q7m := rfl
   dsimp only
   generalize qzah A h = A' at C' cc ⊢
   have hs := H.stay C'.nn C'.nv C'.kinds
   have hs2 : HP A' { h with out := min (h.out + 1) 1000000 } := by
    obtain ⟨g0, g1, g2, g3, g4, g5, g6, g7, g8, g9, g10, g11, g12, g13, g14, j0, j1, j2, j3, j4, j5, j6, c', dl', n0', l', m', t'⟩ := hs
    constructor <;> dsimp only <;> first | assumption | omega
   refine qz25.of (h := h) C' (qze2 C'.ar hs2 (by dsimp only; omega)) (fun n a b L F _ hb => L.vers h.ver k4.1 k4.2 hb.symm) (fun n a _ L F => qzax ⟨F.pred, F.curr, F.x⟩ a) (qz6j (h := { h with out := min (h.out + 1) 1000000 })) (qz1s (h := h) (qz6j (h := { h with out := min (h.out + 1) 1000000 })) (by omega) (by omega)) (by rw [cc]; exact cam0 _)
 ·omega
theorem qzgz (own : Priv h -> qzap A h.new_) (me clock : Int) (hck : 0 <= clock /\ clock <= 20000) (h1 : 1 <= h.at_) : qz25 x y z u A h Q4q.1 Q4q.2.1 Q4q.2.2.1 Q4q.2.2.2 := by
 have hf := H.f0
 unfold qz16
 split
 ·exact qzfc P X H (by assumption)
 split
 ·exact qzem P X H me clock hck (by omega) (by omega)
 split
 ·exact qzc4 P X H own (by omega)
 split
 ·exact qzb0 P X H me (by omega)
 split
 ·exact qzey P X H (by assumption)
 split
 ·exact qzec P X H (by assumption)
 ·exact qzfs P X H (by omega)
end
end
end Go.Proofs.YthjkdnlmopafkaaGreat
