/-
  What the law's proof goes by, part 36.
-/
import Derived.Test.YthjkdnlmopafkaaGreatDoorFnSwappedCard00
import Derived.Test.YthjkdnlmopafkaaGreatDoorFnSwappedCard13
import Derived.Test.YthjkdnlmopafkaaGreatDoorFnSwappedCard29
namespace Go.Proofs.YthjkdnlmopafkaaGreatDoor
open Go.ChangeShapes Go.WideShapes Go.ChangeAt Go.RowKit
set_option maxRecDepth 100000
set_option maxHeartbeats 16000000
set_option linter.unusedVariables false
set_option linter.unusedSimpArgs false
set_option linter.unnecessarySimpa false
set_option linter.unusedSectionVars false
section
theorem qz2z {P : Program} {l : List Oper} {Q : Exit -> Act -> World -> Prop} {id : Nat} {a0 : Act} {w0 : World} (k : Nat) (hm : P.follows .mixedOrders = true)
  (J : World -> Prop) (hJ0 : J { w0 with drawn := w0.drawn + 1 }) (G : (Nat -> Bool) -> Nat -> Value -> World -> Prop) (hT : qze2 l.toArray k (l.length - k) = true) (hL : qze1 l.toArray = true) (hBk : qzca l.toArray k = true) (hg : (l.take k).all (fun o => o.guard.isNone) = true)
  (hdst0 : dstB l.toArray a0.tmps.size = true)
  (step : ∀ (i : Nat) (o : Oper), i < k -> l[i]? = some o -> ∀ (L : Nat -> Bool) (a : Act) (w : World), L i = false -> (∀ j, L j = true -> j < k) -> J w -> (∀ t, qz7m l.toArray t = true -> a.eval (.tmp t) = a0.tmps.getD t undef) ->
   (∀ e ∈ o.after, Region.binds .any e = true -> ∀ d, qz2v l.toArray e.on = some d -> L e.on = true /\ G L e.on (a.eval (.tmp d)) w) ->
   ∀ K : Act -> World -> Prop, (∀ v w', G (onAt L i) i v w' -> J w' -> (∀ j v', j ≠ i -> L j = true -> G L j v' w -> G (onAt L i) j v' w') -> K (a.put o.dst v) w') -> o.wp P a w K Q)
  (final : ∀ (L : Nat -> Bool) vs w', (∀ i, i < k -> L i = true) -> J w' -> (∀ i, i < k -> G L i (vs i) w') ->
   wpList P l.toArray Q (l.drop k) (laid l.toArray vs Q15 (List.range Q70) a0) w') :
  (Code.region id l.toArray true).wp P Q a0 w0 := by
 have hdst := qz9b hdst0
 have L := qz67 hL
 have hBack : ∀ i, i < k -> ∀ o, l.toArray[i]? = some o -> ∀ e ∈ o.after, Region.binds .any e = true -> e.on < i := fun i hi o ho => qzbm hBk i hi o ho
 simp only [qze2, Bool.and_eq_true, beq_iff_eq] at hT
 obtain ⟨⟨hkm, hw⟩, hseq⟩ := hT
 have hsl : Q70 = l.length := by simp
 have hkl : k <= l.length := by omega
 refine wp_region_any hm ?_
 have key : ∀ (c : Nat) (listed : Array Bool) (vs : Nat -> Value) (w : World), qz4c listed <= c + (l.length - k) -> listed.size = Q70 -> qz4r .any l.toArray listed -> (∀ j, k <= j -> listed.getD j false = false) -> J w ->
   (∀ i, i < Q70 -> listed.getD i false = true -> G (fun j => listed.getD j false) i (vs i) w) ->
   wpAny P .any l.toArray Q (c + (l.length - k)) listed (laid l.toArray vs listed (List.range Q70) a0) w := by
  intro c
  induction c with
  | zero =>
   intro listed vs w hf hs hc htail hb hG
   by_cases hall : ∀ i, i < k -> listed.getD i false = true
   ·have he : listed = qz3c k 0 (Array.replicate Q70 false) := by
     apply Array.ext
     ·rw [qz28, hs]; simp
     ·intro i h1 h2
      have g := qz2p k 0 (Array.replicate Q70 false) i (by simp; omega)
      have g1 : Q15[i] = (Q15).getD i false := qz3o _ _ h2
      have g2 : listed[i] = listed.getD i false := by simp [h1]
      rw [g1, g2, g]
      by_cases c : i < k
      ·rw [if_pos (by omega), hall i c]
      ·have hio : i < l.length := by omega
       rw [if_neg (by omega), htail i (by omega)]
       simp [hio]
    have hfin := final (fun j => listed.getD j false) vs w hall hb (fun i hi => hG i (by omega) (hall i hi))
    rw [<- he] at hfin
    have := qz1m (P := P) (md := .any) (Q := Q) 0 (l.drop k) k listed _ w (fun j => by simp) (by rw [he]; simpa using hseq) hfin
    simpa using this
   ·exfalso
    simp only [Classical.not_forall] at hall
    obtain ⟨i, hi, hu⟩ := hall
    have := qz40 (m := l.length - k) (by omega) htail hi (by simpa using hu)
    omega
  | succ c ih =>
   intro listed vs w hf hs hc htail hb hG
   by_cases hall : ∀ i, i < k -> listed.getD i false = true
   ·have he : listed = qz3c k 0 (Array.replicate Q70 false) := by
     apply Array.ext
     ·rw [qz28, hs]; simp
     ·intro i h1 h2
      have g := qz2p k 0 (Array.replicate Q70 false) i (by simp; omega)
      have g1 : Q15[i] = (Q15).getD i false := qz3o _ _ h2
      have g2 : listed[i] = listed.getD i false := by simp [h1]
      rw [g1, g2, g]
      by_cases c : i < k
      ·rw [if_pos (by omega), hall i c]
      ·have hio : i < l.length := by omega
       rw [if_neg (by omega), htail i (by omega)]
       simp [hio]
    have hfin := final (fun j => listed.getD j false) vs w hall hb (fun i hi => hG i (by omega) (hall i hi))
    rw [<- he] at hfin
    have := qz1m (P := P) (md := .any) (Q := Q) (c + 1) (l.drop k) k listed _ w (fun j => by simp) (by rw [he]; simpa using hseq) hfin
    rw [show c + 1 + (l.length - k) = (l.drop k).length + (c + 1) by simp; omega]
    exact this
   simp only [Classical.not_forall] at hall
   obtain ⟨i1, hi1, hu1⟩ := hall
   have hu1' : listed.getD i1 false = false := by simpa using hu1
   have hu1'' : listed.getD i1 true = false := by
    have : i1 < listed.size := by omega
    simpa [this] using hu1'
   have hex : ∃ i, i < k /\ i ∈ Region.ready .any l.toArray listed := by
    apply Classical.byContradiction
    intro hno
    have : ∀ n i, i < n -> i < k -> listed.getD i false = true := by
     intro n
     induction n with
     | zero => intro i hi; omega
     | succ n ihn =>
      intro i hi hik
      rcases Nat.lt_or_ge i n with h | h
      ·exact ihn i h hik
      ·have hin : i = n := by omega
       subst hin
       cases hq : listed.getD i false with
       | true => rfl
       | false =>
        exfalso
        apply hno
        refine ⟨i, hik, mem_ready.2 ⟨?_, ?_⟩⟩
        ·have : i < listed.size := by omega
         simpa [this] using hq
        ·have hil : i < Q70 := by omega
         refine ⟨l.toArray[i], by simp, fun e he hbd => ?_⟩
         exact ihn e.on (hBack i hik _ (by simp) e he hbd) (Nat.lt_trans (hBack i hik _ (by simp) e he hbd) hik)
    have h9 := this (i1 + 1) i1 (by omega) hi1
    rw [hu1'] at h9
    cases h9
   rw [show c + 1 + (l.length - k) = (c + (l.length - k)) + 1 by omega]
   obtain ⟨i0, hi0, hr0⟩ := hex
   refine ⟨fun h0 => (by rw [h0] at hr0; cases hr0), ?_⟩
   intro i hi
   have hik := qz37 hw hc hi1 hu1'' hi
   obtain ⟨h0, o, ho, hall⟩ := mem_ready.1 hi
   have hi' : i < Q70 := (Array.getElem?_eq_some_iff.1 ho).1
   have hlt : i < listed.size := by omega
   have h1 : listed.getD i false = false := by simpa [hlt] using h0
   have ho' : l[i]? = some o := by simpa using ho
   have hguard : o.guard = none := by
    have := (List.all_eq_true.1 hg) o (List.mem_of_getElem? (i := i) (by rw [List.getElem?_take]; simp [hik, ho']))
    simpa using this
   have hnd : (List.range Q70).Nodup := List.nodup_range
   have hlt' : ∀ e ∈ o.after, Region.binds .any e = true -> ∀ d, qz2v l.toArray e.on = some d -> e.on < Q70 /\ listed.getD e.on false = true /\ (laid l.toArray vs listed (List.range Q70) a0).eval (.tmp d) = vs e.on := by
    intro e he hbd d hd
    have hel := hall e he hbd
    have hes : e.on < Q70 := by
     rcases Nat.lt_or_ge e.on Q70 with h | h
     ·exact h
     ·simp only [qz2v, Array.getElem?_eq_none h] at hd
      cases hd
    exact ⟨hes, hel, qz43 L vs listed e.on d hd hel _ _ hnd (List.mem_range.2 hes) (hdst _ _ hd)⟩
   have hstep := step i o hik ho' (fun j => listed.getD j false) (laid l.toArray vs listed (List.range Q70) a0) w h1 (fun j hj => by
     rcases Nat.lt_or_ge j k with h | h
     ·exact h
     ·have := htail j h; rw [this] at hj; cases hj) hb
    (fun t ht => qz21 l.toArray vs listed t _ _ (fun k _ => qz4s ht k))
    (fun e he hbd d hd => by
     obtain ⟨h2, h3, h4⟩ := hlt' e he hbd d hd
     rw [h4]
     exact ⟨h3, hG e.on h2 h3⟩)
   have hwn : Region.wanted o (yielded l.toArray (laid l.toArray vs listed (List.range Q70) a0).tmps) = true := by simp [Region.wanted, hguard]
   unfold wpOp
   simp only [ho, hwn, if_true]
   refine Or.inl (hstep _ ?_)
   intro v w' hGi hb' hkp
   have hLn : (fun j => (listed.setIfInBounds i true).getD j false) = onAt (fun j => listed.getD j false) i := by
    funext j
    unfold onAt
    by_cases hji : j = i
    ·subst hji
     rw [if_pos rfl]
     simp [hlt]
    ·rw [if_neg hji]
     exact getD_set_ne false (Ne.symm hji)
   have hd' : o.dst = qz2v l.toArray i := by simp only [qz2v, ho, Option.bind_some]
   rw [hd', qz4d L vs listed i v hlt h1 _ _ hnd (List.mem_range.2 hi')]
   refine ih _ _ _ (by have := qz2w hlt h1; omega) (by simpa using hs) (hc.set hi) (fun j hj => by rw [getD_set_ne false (by omega)]; exact htail j hj) hb' ?_
   intro j hj hjl
   rw [hLn]
   by_cases hji : j = i
   ·subst hji
    simp only [upd, if_true]
    exact hGi
   ·rw [getD_set_ne false (Ne.symm hji)] at hjl
    simp only [upd, hji, if_false]
    exact hkp j _ hji hjl (hG j hj hjl)
 have hgf : ∀ i, (Array.replicate Q70 false).getD i false = false := by
  intro i
  rcases Nat.lt_or_ge i Q70 with h | h
  ·simp at h; simp [h]
  ·simp at h; simp [h]
 have h0 : laid l.toArray (fun _ => undef) (Array.replicate Q70 false) (List.range Q70) a0 = a0 := by
  have : ∀ (q : List Nat) (a : Act), laid l.toArray (fun _ => undef) (Array.replicate Q70 false) q a = a := by
   intro q
   induction q with
   | nil => intro a; rfl
   | cons i q ih =>
    intro a
    simp only [laid]
    rw [hgf i]
    simpa using ih a
  exact this _ _
 have hk := key k (Array.replicate Q70 false) (fun _ => undef) { w0 with drawn := w0.drawn + 1 } (by unfold qz4c; simp; omega) (by simp) (fun j o _ hj => by rw [hgf j] at hj; cases hj) (fun j _ => hgf j) hJ0 (fun i hi h => by rw [hgf i] at h; cases h)
 rw [h0, show k + (l.length - k) = l.toArray.size by simp; omega] at hk
 exact hk
end
end Go.Proofs.YthjkdnlmopafkaaGreatDoor
