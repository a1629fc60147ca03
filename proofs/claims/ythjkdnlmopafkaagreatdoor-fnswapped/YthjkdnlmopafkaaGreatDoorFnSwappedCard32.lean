/-
  What the law's proof goes by, part 33.
-/
import Derived.Test.YthjkdnlmopafkaaGreatDoorFnSwappedCard00
import Derived.Test.YthjkdnlmopafkaaGreatDoorFnSwappedCard31
namespace Go.Proofs.YthjkdnlmopafkaaGreatDoor
open Go.ChangeShapes Go.WideShapes Go.ChangeAt Go.RowKit
set_option maxRecDepth 100000
set_option maxHeartbeats 16000000
set_option linter.unusedVariables false
set_option linter.unusedSimpArgs false
set_option linter.unnecessarySimpa false
set_option linter.unusedSectionVars false
section
structure WInv (x y z u : Int) (W : Wd) : Prop where
 ar : ArP x y z u W.A
 ax : AX W.A
 hl : (Q76 : Int) = x
 hp : ∀ i (h : i < Q76), HP W.A W.hands[i]
 pv : ∀ i (hi : i < Q76), Priv W.hands[i] -> qzas W.A W.hands[i].new_ /\ ∀ j (hj : j < Q76), Far W.hands[j] W.hands[i].new_ /\ (j ≠ i -> W.hands[j].new_ ≠ W.hands[i].new_)
 nw : 0 <= W.now /\ W.now <= 20000
 cl : (Q79 : Int) <= W.now
 cp : ∀ c ∈ W.calls, ClP x c
 dn : Q7c <= stN W.A
 dp : ∀ d ∈ W.deeds, qzgb d = true
 tl : (Q7a : Int) = W.A.camera
 tk : ∀ t ∈ W.ticks, 0 <= t /\ t <= W.now
 ti : ∀ i (h : i + 1 < Q7a), W.ticks[i] < W.ticks[i + 1]
theorem WInv.plan {x y z u : Int} {W : Wd} (V : WInv x y z u W) : (1 <= x /\ x <= 8) /\ (1 <= y /\ y <= 60) /\ (1 <= z /\ z <= 400) /\ (1 <= u /\ u <= 8) := (qz2n x y z u).1 V.ar.pl
theorem WInv.right {x y z u : Int} {W : Wd} (V : WInv x y z u W) (hn : W.now <= 4000) : WdP x y z u W := by
 have hp := V.plan
 have hv := V.ar.vl
 have hs := qzgw W.A
 have hd := V.dn
 have hc := V.cl
 refine ⟨(qzbn x y z u W.A).2 V.ar, V.hl, by omega, by omega, V.tl, V.nw, fun i h => ⟨(V.hp i h).hand V.ar, (V.hp i h).knows V.ar⟩, fun i h => V.cp _ (List.getElem_mem h), fun i h => V.dp _ (List.getElem_mem h), fun i h => ?_, V.ti⟩
 have := V.tk _ (List.getElem_mem h)
 have := V.nw
 exact (qz13 _ _ _).2 (by omega)
theorem WInv.small {x y z u : Int} {W : Wd} (V : WInv x y z u W) : W.size <= 1000000 := by
 have hp := V.plan
 have h1 := V.ar.sl
 have h2 := V.ar.gl
 have h3 := V.ar.nl
 have h4 := V.ar.vl
 have h5 := V.hl
 have h6 := V.cl
 have h7 := V.nw
 have h8 := V.dn
 have h9 := qzgw W.A
 have h10 := V.tl
 have h11 := V.ar.cam
 unfold Wd.size Ar.size
 omega
theorem WInv.ready {x y z u : Int} {W : Wd} (V : WInv x y z u W) {k : Nat} (hk : k < Q76) : qzcu W.A W.hands[k] (k : Int) :=
 qzfu ((qzbn x y z u W.A).2 V.ar) ((V.hp k hk).hand V.ar) ((V.hp k hk).knows V.ar) (by omega) (by have := V.hl; omega)
theorem WInv.step {x y z u : Int} {W : Wd} (V : WInv x y z u W) {k : Nat} (hk : k < Q76) (h1 : 1 <= W.hands[k].at_) (hn : W.now < 20000) : WInv x y z u (qz98 x y z u W k W.hands[k]) := by
 have hnw := V.nw
 have hpl := V.plan
 have S := qzgv V.ar V.ax (V.hp k hk) (fun p => (V.pv k hk p).1) (k : Int) (W.now + 1) (by omega) h1
 have Hk := V.hp k hk
 have hcall := Hk.call (by omega)
 have hpv := V.pv
 have hhp := V.hp
 unfold qz98
 obtain ⟨As, Hn, En, Tn, hS⟩ : ∃ As Hn En Tn, qz18 x y z u W.A W.hands[k] qz3u false (k : Int) (W.now + 1) = (As, Hn, En, Tn) := ⟨_, _, _, _, rfl⟩
 rw [hS] at S ⊢
 dsimp only at S ⊢
 have hother : ∀ j (hj : j < Q76), HP As W.hands[j] := fun j hj => (V.hp j hj).stay S.nn S.nv S.kinds
 refine ⟨S.ar, S.ax, by simpa using V.hl, ?_, ?_, by dsimp only; omega, ?_, ?_, ?_, ?_, ?_, ?_, ?_⟩
 ·intro i hi
  have hi' : i < Q76 := by simpa using hi
  simp only [List.getElem_set]
  split
  ·exact S.hp
  ·exact hother i hi'
 ·intro i hi p
  have hi' : i < Q76 := by simpa using hi
  simp only [List.getElem_set] at p ⊢
  by_cases hik : k = i
  ·rw [if_pos hik] at p ⊢
   subst hik
   rcases S.new with ⟨hns, hpr⟩ | ⟨hnew, hun, hfar⟩
   ·have hp0 := hpr p
    have hne : Hn.new_ = W.hands[k].new_ := by
     have := p.1
     rcases hns with e | e <;> omega
    obtain ⟨U, O⟩ := hpv k hk hp0
    have hk3 := Hk.k3
    have hnp := hp0.1
    rw [hne]
    refine ⟨S.lone _ hnp hk3.2 U (O k hk).1 (fun _ => p), fun j hj => ?_⟩
    have hj' : j < Q76 := by simpa using hj
    split
    ·rename_i e
     exact ⟨S.far _ hnp hk3.2 U (O k hk).1, fun hh => absurd e.symm hh⟩
    ·rename_i e
     exact ⟨(O j hj').1, fun hh => (O j hj').2 hh⟩
   ·refine ⟨hun, fun j hj => ?_⟩
    have hj' : j < Q76 := by simpa using hj
    split
    ·rename_i e
     exact ⟨hfar, fun hh => absurd e.symm hh⟩
    ·have Hj := hhp j hj'
     have q0 := Hj.k0
     have q1 := Hj.k1
     have q2 := Hj.k2
     have q3 := Hj.k3
     rw [hnew]
     exact ⟨⟨by omega, by omega, fun e => by omega⟩, fun _ => by omega⟩
  ·rw [if_neg hik] at p ⊢
   obtain ⟨U, O⟩ := hpv i hi' p
   have q3 := (hhp i hi').k3
   have hnp := p.1
   have hkn : W.hands[k].new_ ≠ W.hands[i].new_ := (O k hk).2 hik
   have hfk := (O k hk).1
   refine ⟨S.lone _ hnp q3.2 U hfk (fun e => absurd e hkn), fun j hj => ?_⟩
   have hj' : j < Q76 := by simpa using hj
   split
   ·refine ⟨S.far _ hnp q3.2 U hfk, fun _ => ?_⟩
    rcases S.new with ⟨hns, _⟩ | ⟨hnew, _, _⟩
    ·rcases hns with e | e
     ·rw [e]; exact hkn
     ·omega
    ·omega
   ·exact O j hj'
 ·have := V.cl
  split
  ·simp; omega
  ·dsimp only; omega
 ·intro c hc
  have hcp := V.cp
  dsimp only at hc
  split at hc
  ·rcases List.mem_append.1 hc with h | h
   ·exact hcp c h
   ·have he : c = qz6b k W.hands[k] Hn (W.now + 1) := by simpa using h
    subst he
    have g3 := S.hp.f3
    have g9 := S.hp.f9
    have g10 := S.hp.f10
    have g6 := Hk.f6
    have g11 := Hk.f11
    have := V.hl
    exact ⟨(qz13 _ _ _).2 (by simp only [qz6b]; omega), hcall, (qz13 _ _ _).2 g6, (qz13 _ _ _).2 (by simp only [qz6b]; omega), (qz13 _ _ _).2 g3, (qz13 _ _ _).2 g9, (qz13 _ _ _).2 g10, (qz13 _ _ _).2 (by simp only [qz6b]; omega)⟩
  ·exact hcp c hc
 ·have := V.dn
  have hc := S.cnt
  dsimp only
  split
  ·rename_i e
   rw [if_pos e] at hc
   simp; omega
  ·rename_i e
   rw [if_neg e] at hc
   omega
 ·intro d hd
  have hdp := V.dp
  dsimp only at hd
  split at hd
  ·rename_i e
   rcases List.mem_append.1 hd with h | h
   ·exact hdp d h
   ·have he : d = En := by simpa using h
    subst he
    exact S.deed e
  ·exact hdp d hd
 ·have := V.tl
  have hc := S.cam
  dsimp only
  cases Tn <;> simp at hc ⊢ <;> omega
 ·intro t ht
  have htk := V.tk
  dsimp only at ht
  split at ht
  ·rcases List.mem_append.1 ht with h | h
   ·have := htk t h; dsimp only; omega
   ·have he : t = W.now + 1 := by simpa using h
    subst he
    dsimp only
    omega
  ·have := htk t ht; dsimp only; omega
 ·intro i hi
  have hti := V.ti
  have htk := V.tk
  by_cases e : Tn = true
  ·simp only [e, if_true] at hi ⊢
   have hl : i + 1 < Q7a + 1 := by simpa using hi
   rcases Nat.lt_or_ge (i + 1) Q7a with h | h
   ·rw [List.getElem_append_left (by omega), List.getElem_append_left (by omega)]
    exact hti i h
   ·rw [List.getElem_append_left (by omega), List.getElem_append_right (by omega)]
    have := htk _ (List.getElem_mem (l := W.ticks) (n := i) (by omega))
    simp
    omega
  ·simp only [e] at hi ⊢
   exact hti i hi
theorem WInv.ask {x y z u : Int} {W : Wd} (V : WInv x y z u W) {k : Nat} (hk : k < Q76) (c q v : Int) : WInv x y z u (askW x y z u W k W.hands[k] c q v) := by
 have hnw := V.nw
 have Hk := V.hp k hk
 unfold askW
 split
 ·exact V
 ·rename_i e0
  have e0 : qz2y x y z u W.hands[k] c q v = 0 := Decidable.not_not.1 e0
  split
  ·exact V
  ·rename_i e1
   obtain ⟨_, hat, hfit, _, _⟩ := qz7t e0
   have hR : qz3a x y z u W.hands[k] c q v = qz2s W.hands[k] c q v := by simp [qz3a, e0]
   rw [hR]
   generalize hh : ({ qz2s W.hands[k] c q v with begin := W.now + 1 } : Hd) = h'
   have hcc := qz7z hfit
   have hnl := V.ar.nl
   have hvl := V.ar.vl
   have hkey : -1 <= q /\ q <= 63 /\ 0 <= v /\ v <= 9999 := by
    unfold qz47 at hfit
    repeat' split at hfit
    all_goals (first | cases hfit | (simp only [Bool.and_eq_true, qz13, beq_iff_eq] at hfit; omega))
   have f11 := Hk.f11
   have hH : HP W.A h' := by
    subst hh
    have ha : 0 <= qzet c /\ qzet c <= 23 /\ qzet c ≠ 8 /\ qzet c ≠ 9 /\ qzet c ≠ 11 /\ qzet c ≠ 6 /\ ¬ (3 <= qzet c /\ qzet c <= 5) /\ 0 <= qzdg c /\ qzdg c <= 7 := by
     rcases hcc with rfl | rfl | rfl | rfl | rfl | rfl | rfl | rfl <;> decide
    constructor <;> simp only [qz2s] <;> first | omega | (intro _; exact hfit)
   have hnew : h'.new_ = -1 := by subst hh; rfl
   have hfar : ∀ n : Int, 1 <= n -> Far h' n := fun n hn => by
    subst hh
    exact ⟨by simp only [qz2s]; omega, by simp only [qz2s]; omega, by simp only [qz2s]; omega⟩
   have hpv := V.pv
   refine ⟨V.ar, V.ax, by simpa using V.hl, ?_, ?_, by dsimp only; omega, by have := V.cl; dsimp only; omega, V.cp, V.dn, V.dp, V.tl, fun t ht => by have := V.tk t ht; dsimp only; omega, V.ti⟩
   ·intro i hi
    have hi' : i < Q76 := by simpa using hi
    simp only [List.getElem_set]
    split
    ·exact hH
    ·exact V.hp i hi'
   ·intro i hi p
    have hi' : i < Q76 := by simpa using hi
    simp only [List.getElem_set] at p ⊢
    by_cases hik : k = i
    ·rw [if_pos hik] at p
     have := p.1
     omega
    ·rw [if_neg hik] at p ⊢
     obtain ⟨U, O⟩ := hpv i hi' p
     have hnp := p.1
     refine ⟨U, fun j hj => ?_⟩
     have hj' : j < Q76 := by simpa using hj
     split
     ·exact ⟨hfar _ hnp, fun _ => by omega⟩
     ·exact O j hj'
theorem qzc0 (x y z u : Int) (W : Wd) (k : Nat) (h : Hd) (c q v : Int) : (askW x y z u W k h c q v).A = W.A := by
 unfold askW
 split
 ·rfl
 ·split <;> rfl
theorem qzft (x y z u : Int) (W : Wd) (k : Nat) (h : Hd) (c q v : Int) : (askW x y z u W k h c q v).now <= W.now + 1 := by
 unfold askW
 split
 ·omega
 ·split
  ·omega
  ·exact Int.le_refl _
end
end Go.Proofs.YthjkdnlmopafkaaGreatDoor
