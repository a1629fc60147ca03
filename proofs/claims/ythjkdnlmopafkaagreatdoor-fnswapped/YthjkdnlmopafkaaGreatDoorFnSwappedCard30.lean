/-
  What the law's proof goes by, part 31.
-/
import Derived.Test.YthjkdnlmopafkaaGreatDoorFnSwappedCard00
import Derived.Test.YthjkdnlmopafkaaGreatDoorFnSwappedCard29
namespace Go.Proofs.YthjkdnlmopafkaaGreatDoor
open Go.ChangeShapes Go.WideShapes Go.ChangeAt Go.RowKit
set_option maxRecDepth 100000
set_option maxHeartbeats 16000000
set_option linter.unusedVariables false
set_option linter.unusedSimpArgs false
set_option linter.unnecessarySimpa false
set_option linter.unusedSectionVars false
section
def qzgi (md : Region.Mode) (ops : Array Oper) (k f : Nat) : Bool := (List.range ops.size).all fun j => decide (j < k) || (List.range k).all fun i => (i == f) || qzd0 md ops ops.size j i
theorem qza7 {md : Region.Mode} {ops : Array Oper} {k f : Nat} {listed : Array Bool} (hw : qzgi md ops k f = true) (hc : qz4r md ops listed) {i j : Nat} (hi : i < k) (hif : i ≠ f) (hu : listed.getD i true = false) (hj : j ∈ Region.ready md ops listed) : j < k := by
 rcases Nat.lt_or_ge j k with h | h
 ·exact h
 ·obtain ⟨_, o, ho, hall⟩ := mem_ready.1 hj
  have hjs : j < ops.size := (Array.getElem?_eq_some_iff.1 ho).1
  have h1 := (List.all_eq_true.1 hw) j (List.mem_range.2 hjs)
  simp only [Bool.or_eq_true, decide_eq_true_eq] at h1
  rcases h1 with h1 | h1
  ·exact h1
  ·have h2 := (List.all_eq_true.1 h1) i (List.mem_range.2 hi)
   simp only [Bool.or_eq_true, beq_iff_eq] at h2
   rcases h2 with h2 | h2
   ·exact absurd h2 hif
   have h3 := qz5d hc _ j i h2 (fun o' ho' => by rw [ho] at ho'; cases ho'; exact hall)
   rcases Nat.lt_or_ge i listed.size with h' | h'
   ·simp [h'] at hu h3; rw [hu] at h3; cases h3
   ·simp [Array.getElem?_eq_none h'] at hu
def qzhe (ops : Array Oper) (k f m : Nat) : Bool := (ops.size == k + m) && qzgi .any ops k f && Region.noSelect ops && Region.free .any ops ((upTo ops k).setIfInBounds f false) f
theorem qz7i {P : Program} {l : List Oper} {Q : Exit -> Act -> World -> Prop} {id : Nat} {a0 : Act} {w0 : World} (k f : Nat) (hfk : f < k) (hm : P.follows .mixedOrders = true)
  (G : Nat -> Value -> World -> Prop) (fresh : Nat -> Bool) (hT : qzhe l.toArray k f (l.length - k) = true) (hL : qze1 l.toArray = true) (hBk : qzca l.toArray k = true) (hg : (l.take k).all (fun o => o.guard.isNone) = true)
  (hdst0 : dstB l.toArray a0.tmps.size = true)
  (mono : ∀ i v w w', Q73 <= Q6o -> G i v w -> Below Q6o w w' -> G i v w')
  (blk : ∀ i v w b, fresh i = true -> G i v w -> qz3e v = some b -> b < Q6o)
  (step : ∀ (i : Nat) (o : Oper), i < k -> l[i]? = some o -> ∀ (a : Act) (w : World), Below Q73 w0 w -> (∀ t, qz7m l.toArray t = true -> a.eval (.tmp t) = a0.tmps.getD t undef) ->
   (∀ e ∈ o.after, Region.binds .any e = true -> ∀ d, qz2v l.toArray e.on = some d -> G e.on (a.eval (.tmp d)) w) ->
   ∀ K : Act -> World -> Prop, (∀ v w', G i v w' -> Below Q6o w w' -> (fresh i = true -> ∀ b, qz3e v = some b -> Q6o <= b) -> K (a.put o.dst v) w') -> o.wp P a w K Q)
  (hQf : ∀ c (a : Act) v w, Q (.panic c) (a.put (qz2v l.toArray f) v) w -> Q (.panic c) a w)
  (float : ∀ (o : Oper), l[f]? = some o -> ∀ (a : Act) (w : World), (∀ e ∈ o.after, Region.binds .any e = true -> ∀ d, qz2v l.toArray e.on = some d -> G e.on (a.eval (.tmp d)) w) -> ∃ v, (∀ w', (execOp a.eval o).run P w' = .ok (.value v) w') /\ G f v w /\ fresh f = false)
  (final : ∀ vs w', Below Q73 w0 w' -> (∀ i, i < k -> G i (vs i) w') ->
   (∀ i j b, i < k -> j < k -> i ≠ j -> fresh i = true -> fresh j = true -> qz3e (vs i) = some b -> qz3e (vs j) ≠ some b) ->
   ∀ c, wpAny P .any l.toArray Q (c + (l.length - k)) (upTo l.toArray k) (laid l.toArray vs (upTo l.toArray k) (List.range Q70) a0) w') :
  (Code.region id l.toArray true).wp P Q a0 w0 := by
 have hdst := qz9b hdst0
 have L := qz67 hL
 have hBack : ∀ i, i < k -> ∀ o, l.toArray[i]? = some o -> ∀ e ∈ o.after, Region.binds .any e = true -> e.on < i := fun i hik o ho => qzbm hBk i hik o ho
 simp only [qzhe, Bool.and_eq_true, beq_iff_eq] at hT
 obtain ⟨⟨⟨hkm, hw⟩, hsel⟩, hfree⟩ := hT
 have hsl : Q70 = l.length := by simp
 have hkl : k <= l.length := by omega
 refine wp_region_any hm ?_
 have key : ∀ (c : Nat) (listed : Array Bool) (vs : Nat -> Value) (w : World), qz4c listed <= c + (l.length - k) -> listed.size = Q70 -> qz4r .any l.toArray listed -> (∀ j, k <= j -> listed.getD j false = false) -> Below Q73 w0 w ->
   (∀ i, i < Q70 -> listed.getD i false = true -> G i (vs i) w) ->
   (∀ i j b, i < Q70 -> j < Q70 -> i ≠ j -> listed.getD i false = true -> listed.getD j false = true -> fresh i = true -> fresh j = true -> qz3e (vs i) = some b -> qz3e (vs j) ≠ some b) ->
   wpAny P .any l.toArray Q (c + (l.length - k)) listed (laid l.toArray vs listed (List.range Q70) a0) w := by
  intro c
  induction c with
  | zero =>
   intro listed vs w hf hs hc htail hb hG hD
   by_cases hall : ∀ i, i < k -> listed.getD i false = true
   ·have he : listed = qz3c k 0 (Array.replicate Q70 false) := by
     apply Array.ext
     ·rw [qz28, hs]; simp
     ·intro i h1 h2
      have g := qz2p k 0 (Array.replicate Q70 false) i (by simp; omega)
      have g1 : Q15[i] = (Q15).getD i false := qz3o _ _ h2
      have g2 : listed[i] = listed.getD i false := by simp [h1]
      rw [g1, g2, g]
      by_cases c : i < k
      ·rw [if_pos (by omega), hall i c]
      ·have hio : i < l.length := by omega
       rw [if_neg (by omega), htail i (by omega)]
       simp [hio]
    have hfin := final vs w hb (fun i hi => hG i (by omega) (hall i hi)) (fun i j b hi hj hij => hD i j b (by omega) (by omega) hij (hall i hi) (hall j hj))
    unfold upTo at hfin
    rw [<- he] at hfin
    exact hfin 0
   ·exfalso
    simp only [Classical.not_forall] at hall
    obtain ⟨i, hi, hu⟩ := hall
    have := qz40 (m := l.length - k) (by omega) htail hi (by simpa using hu)
    omega
  | succ c ih =>
   intro listed vs w hf hs hc htail hb hG hD
   by_cases hall : ∀ i, i < k -> listed.getD i false = true
   ·have he : listed = qz3c k 0 (Array.replicate Q70 false) := by
     apply Array.ext
     ·rw [qz28, hs]; simp
     ·intro i h1 h2
      have g := qz2p k 0 (Array.replicate Q70 false) i (by simp; omega)
      have g1 : Q15[i] = (Q15).getD i false := qz3o _ _ h2
      have g2 : listed[i] = listed.getD i false := by simp [h1]
      rw [g1, g2, g]
      by_cases c : i < k
      ·rw [if_pos (by omega), hall i c]
      ·have hio : i < l.length := by omega
       rw [if_neg (by omega), htail i (by omega)]
       simp [hio]
    have hfin := final vs w hb (fun i hi => hG i (by omega) (hall i hi)) (fun i j b hi hj hij => hD i j b (by omega) (by omega) hij (hall i hi) (hall j hj))
    unfold upTo at hfin
    rw [<- he] at hfin
    exact hfin (c + 1)
   by_cases hallF : ∀ i, i < k -> i ≠ f -> listed.getD i false = true
   ·have huf : listed.getD f false = false := by
     cases hq : listed.getD f false with
     | false => rfl
     | true =>
      exfalso
      apply hall
      intro i hi
      by_cases hif : i = f
      ·rw [hif]; exact hq
      ·exact hallF i hi hif
    have hfs : f < Q70 := by omega
    have hfl : f < listed.size := by omega
    obtain ⟨o, ho⟩ : ∃ o, l.toArray[f]? = some o := ⟨l.toArray[f], by simp⟩
    have ho' : l[f]? = some o := by simpa using ho
    have hguard : o.guard = none := by
     have := (List.all_eq_true.1 hg) o (List.mem_of_getElem? (i := f) (by rw [List.getElem?_take]; simp [hfk, ho']))
     simpa using this
    have hdep : ∀ e ∈ o.after, Region.binds .any e = true -> listed.getD e.on false = true := fun e he hbd => by
     have h1 := hBack f hfk o ho e he hbd
     exact hallF e.on (by omega) (by omega)
    have hrd : f ∈ Region.ready .any l.toArray listed := mem_ready.2 ⟨by simpa [hfl] using huf, o, ho, hdep⟩
    have hnd : (List.range Q70).Nodup := List.nodup_range
    obtain ⟨v, hrun, hGf, hff⟩ := float o ho' (laid l.toArray vs listed (List.range Q70) a0) w (fun e he hbd d hd => by
     have h1 := hBack f hfk o ho e he hbd
     have h2 := hdep e he hbd
     have h3 : (laid l.toArray vs listed (List.range Q70) a0).eval (.tmp d) = vs e.on := qz43 L vs listed e.on d hd h2 _ _ hnd (List.mem_range.2 (by omega)) (hdst _ _ hd)
     rw [h3]
     exact hG e.on (by omega) h2)
    have he' : listed = (upTo l.toArray k).setIfInBounds f false := by
     apply Array.ext
     ·simp only [Array.size_setIfInBounds, upTo, qz28]; rw [hs]; simp
     ·intro i h1 h2
      have hio : i < l.length := by omega
      have g1 : ((upTo l.toArray k).setIfInBounds f false)[i] = ((upTo l.toArray k).setIfInBounds f false).getD i false := qz3o _ _ h2
      have g2 : listed[i] = listed.getD i false := by simp [h1]
      rw [g1, g2]
      by_cases hif : f = i
      ·subst hif
       rw [huf]
       have h3 : f < (upTo l.toArray k).size := by simpa using h2
       simp [h3]
      ·rw [show ((upTo l.toArray k).setIfInBounds f false).getD i false = (upTo l.toArray k).getD i false from by simp [Array.getElem?_setIfInBounds_ne hif]]
       unfold upTo
       rw [qz2p k 0 (Array.replicate l.toArray.size false) i (by simp; omega)]
       by_cases c : i < k
       ·rw [if_pos (by omega), hallF i c (fun e => hif e.symm)]
       ·rw [if_neg (by omega), htail i (by omega)]
        simp [hio]
    have hd' : o.dst = qz2v l.toArray f := by simp only [qz2v, ho, Option.bind_some]
    rw [show c + 1 + (l.length - k) = (c + (l.length - k)) + 1 by omega]
    refine wpAny_take (i := f) (v := v) ho hsel (by rw [he']; exact hfree) (by simpa using hrd) (fun c a w hh => hQf c a _ w (hd' ▸ hh)) (Or.inl ⟨by simp [Region.wanted, hguard], hrun⟩) ?_
    rw [hd', qz4d L vs listed f v hfl huf _ _ hnd (List.mem_range.2 hfs)]
    refine ih _ _ _ (by have := qz2w hfl huf; omega) (by simpa using hs) (hc.set hrd) (fun j hj => by rw [getD_set_ne false (by omega)]; exact htail j hj) hb ?_ ?_
    ·intro j hj hjl
     by_cases hji : j = f
     ·subst hji
      simp only [upd, if_true]
      exact hGf
     ·rw [getD_set_ne false (Ne.symm hji)] at hjl
      simp only [upd, hji, if_false]
      exact hG j hj hjl
    ·intro j q b hj hq hjq hjl hql hfj hfq hbj hbq
     have hjf : j ≠ f := fun e => by rw [e, hff] at hfj; cases hfj
     have hqf : q ≠ f := fun e => by rw [e, hff] at hfq; cases hfq
     rw [getD_set_ne false (Ne.symm hjf)] at hjl
     rw [getD_set_ne false (Ne.symm hqf)] at hql
     simp only [upd, hjf, if_false] at hbj
     simp only [upd, hqf, if_false] at hbq
     exact hD j q b hj hq hjq hjl hql hfj hfq hbj hbq
   simp only [Classical.not_forall] at hallF
   obtain ⟨i1, hi1, hi1f, hu1⟩ := hallF
   have hu1' : listed.getD i1 false = false := by simpa using hu1
   have hu1'' : listed.getD i1 true = false := by
    have : i1 < listed.size := by omega
    simpa [this] using hu1'
   have hex : ∃ i, i < k /\ i ∈ Region.ready .any l.toArray listed := by
    apply Classical.byContradiction
    intro hno
    have : ∀ n i, i < n -> i < k -> listed.getD i false = true := by
     intro n
     induction n with
     | zero => intro i hi; omega
     | succ n ihn =>
      intro i hi hik
      rcases Nat.lt_or_ge i n with h | h
      ·exact ihn i h hik
      ·have hin : i = n := by omega
       subst hin
       cases hq : listed.getD i false with
       | true => rfl
       | false =>
        exfalso
        apply hno
        refine ⟨i, hik, mem_ready.2 ⟨?_, ?_⟩⟩
        ·have : i < listed.size := by omega
         simpa [this] using hq
        ·have hil : i < Q70 := by omega
         refine ⟨l.toArray[i], by simp, fun e he hbd => ?_⟩
         exact ihn e.on (hBack i hik _ (by simp) e he hbd) (Nat.lt_trans (hBack i hik _ (by simp) e he hbd) hik)
    have h9 := this (i1 + 1) i1 (by omega) hi1
    rw [hu1'] at h9
    cases h9
   rw [show c + 1 + (l.length - k) = (c + (l.length - k)) + 1 by omega]
   obtain ⟨i0, hi0, hr0⟩ := hex
   refine ⟨fun h0 => (by rw [h0] at hr0; cases hr0), ?_⟩
   intro i hi
   have hik := qza7 hw hc hi1 hi1f hu1'' hi
   obtain ⟨h0, o, ho, hall⟩ := mem_ready.1 hi
   have hi' : i < Q70 := (Array.getElem?_eq_some_iff.1 ho).1
   have hlt : i < listed.size := by omega
   have h1 : listed.getD i false = false := by simpa [hlt] using h0
   have ho' : l[i]? = some o := by simpa using ho
   have hguard : o.guard = none := by
    have := (List.all_eq_true.1 hg) o (List.mem_of_getElem? (i := i) (by rw [List.getElem?_take]; simp [hik, ho']))
    simpa using this
   have hnd : (List.range Q70).Nodup := List.nodup_range
   have hlt' : ∀ e ∈ o.after, Region.binds .any e = true -> ∀ d, qz2v l.toArray e.on = some d -> e.on < Q70 /\ listed.getD e.on false = true /\ (laid l.toArray vs listed (List.range Q70) a0).eval (.tmp d) = vs e.on := by
    intro e he hbd d hd
    have hel := hall e he hbd
    have hes : e.on < Q70 := by
     rcases Nat.lt_or_ge e.on Q70 with h | h
     ·exact h
     ·simp only [qz2v, Array.getElem?_eq_none h] at hd
      cases hd
    exact ⟨hes, hel, qz43 L vs listed e.on d hd hel _ _ hnd (List.mem_range.2 hes) (hdst _ _ hd)⟩
   have hstep := step i o hik ho' (laid l.toArray vs listed (List.range Q70) a0) w hb
    (fun t ht => qz21 l.toArray vs listed t _ _ (fun k _ => qz4s ht k))
    (fun e he hbd d hd => by
     obtain ⟨h2, h3, h4⟩ := hlt' e he hbd d hd
     rw [h4]
     exact hG e.on h2 h3)
   have hwn : Region.wanted o (yielded l.toArray (laid l.toArray vs listed (List.range Q70) a0).tmps) = true := by simp [Region.wanted, hguard]
   unfold wpOp
   simp only [ho, hwn, if_true]
   refine Or.inl (hstep _ ?_)
   intro v w' hGi hb' hfr
   have hd' : o.dst = qz2v l.toArray i := by simp only [qz2v, ho, Option.bind_some]
   rw [hd', qz4d L vs listed i v hlt h1 _ _ hnd (List.mem_range.2 hi')]
   have hsz := hb.size
   refine ih _ _ _ (by have := qz2w hlt h1; omega) (by simpa using hs) (hc.set hi) (fun j hj => by rw [getD_set_ne false (by omega)]; exact htail j hj) (hb.trans (hb'.mono hsz)) ?_ ?_
   ·intro j hj hjl
    by_cases hji : j = i
    ·subst hji
     simp only [upd, if_true]
     exact hGi
    ·rw [getD_set_ne false (Ne.symm hji)] at hjl
     simp only [upd, hji, if_false]
     exact mono j _ w w' hsz (hG j hj hjl) hb'
   ·intro j k b hj hk hjk hjl hkl hfj hfk hbj hbk
    by_cases hji : j = i
    ·subst hji
     have hkj : k ≠ j := Ne.symm hjk
     rw [getD_set_ne false hjk] at hkl
     simp only [upd, if_true] at hbj
     simp only [upd, hkj, if_false] at hbk
     have h2 := hfr hfj b hbj
     have h3 := blk k _ w b hfk (hG k hk hkl) hbk
     omega
    ·rw [getD_set_ne false (Ne.symm hji)] at hjl
     simp only [upd, hji, if_false] at hbj
     by_cases hki : k = i
     ·subst hki
      simp only [upd, if_true] at hbk
      have h2 := hfr hfk b hbk
      have h3 := blk j _ w b hfj (hG j hj hjl) hbj
      omega
     ·rw [getD_set_ne false (Ne.symm hki)] at hkl
      simp only [upd, hki, if_false] at hbk
      exact hD j k b hj hk hjk hjl hkl hfj hfk hbj hbk
 have hgf : ∀ i, (Array.replicate Q70 false).getD i false = false := by
  intro i
  rcases Nat.lt_or_ge i Q70 with h | h
  ·simp at h; simp [h]
  ·simp at h; simp [h]
 have h0 : laid l.toArray (fun _ => undef) (Array.replicate Q70 false) (List.range Q70) a0 = a0 := by
  have : ∀ (q : List Nat) (a : Act), laid l.toArray (fun _ => undef) (Array.replicate Q70 false) q a = a := by
   intro q
   induction q with
   | nil => intro a; rfl
   | cons i q ih =>
    intro a
    simp only [laid]
    rw [hgf i]
    simpa using ih a
  exact this _ _
 have hk := key k (Array.replicate Q70 false) (fun _ => undef) { w0 with drawn := w0.drawn + 1 } (by unfold qz4c; simp; omega) (by simp) (fun j o _ hj => by rw [hgf j] at hj; cases hj) (fun j _ => hgf j) ⟨rfl, rfl, rfl, Q6v _, fun _ _ => rfl⟩ (fun i hi h => by rw [hgf i] at h; cases h) (fun i j b hi hj hij h => by rw [hgf i] at h; cases h)
 rw [h0, show k + (l.length - k) = l.toArray.size by simp; omega] at hk
 exact hk
theorem qz77 {P : Program} {l : List Oper} {Q : Exit -> Act -> World -> Prop} {id : Nat} {a0 : Act} {w0 : World} (k f : Nat) (hfk : f < k) (hm : P.follows .mixedOrders = true)
  (G : Nat -> Value -> World -> Prop) (fresh : Nat -> Bool) (hT : qzhe l.toArray k f (l.length - k) = true) (hS : qz4x .any l.toArray (l.length - k) k (upTo l.toArray k) = true) (hL : qze1 l.toArray = true) (hBk : qzca l.toArray k = true) (hg : (l.take k).all (fun o => o.guard.isNone) = true)
  (hdst0 : dstB l.toArray a0.tmps.size = true)
  (mono : ∀ i v w w', Q73 <= Q6o -> G i v w -> Below Q6o w w' -> G i v w')
  (blk : ∀ i v w b, fresh i = true -> G i v w -> qz3e v = some b -> b < Q6o)
  (step : ∀ (i : Nat) (o : Oper), i < k -> l[i]? = some o -> ∀ (a : Act) (w : World), Below Q73 w0 w -> (∀ t, qz7m l.toArray t = true -> a.eval (.tmp t) = a0.tmps.getD t undef) ->
   (∀ e ∈ o.after, Region.binds .any e = true -> ∀ d, qz2v l.toArray e.on = some d -> G e.on (a.eval (.tmp d)) w) ->
   ∀ K : Act -> World -> Prop, (∀ v w', G i v w' -> Below Q6o w w' -> (fresh i = true -> ∀ b, qz3e v = some b -> Q6o <= b) -> K (a.put o.dst v) w') -> o.wp P a w K Q)
  (hQf : ∀ c (a : Act) v w, Q (.panic c) (a.put (qz2v l.toArray f) v) w -> Q (.panic c) a w)
  (float : ∀ (o : Oper), l[f]? = some o -> ∀ (a : Act) (w : World), (∀ e ∈ o.after, Region.binds .any e = true -> ∀ d, qz2v l.toArray e.on = some d -> G e.on (a.eval (.tmp d)) w) -> ∃ v, (∀ w', (execOp a.eval o).run P w' = .ok (.value v) w') /\ G f v w /\ fresh f = false)
  (final : ∀ vs w', Below Q73 w0 w' -> (∀ i, i < k -> G i (vs i) w') ->
   (∀ i j b, i < k -> j < k -> i ≠ j -> fresh i = true -> fresh j = true -> qz3e (vs i) = some b -> qz3e (vs j) ≠ some b) ->
   wpList P l.toArray Q (l.drop k) (laid l.toArray vs (upTo l.toArray k) (List.range Q70) a0) w') :
  (Code.region id l.toArray true).wp P Q a0 w0 := by
 refine qz7i k f hfk hm G fresh hT hL hBk hg hdst0 mono blk step hQf float (fun vs w' hb hG hD c => ?_)
 have := qz1m (P := P) (md := .any) (Q := Q) c (l.drop k) k (upTo l.toArray k) _ w' (fun j => by simp) (by simpa using hS) (final vs w' hb hG hD)
 rw [show c + (l.length - k) = (l.drop k).length + c by simp; omega]
 exact this
end
end Go.Proofs.YthjkdnlmopafkaaGreatDoor
