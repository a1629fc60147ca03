/-
  What the law's proof goes by, part 12.
-/
import Derived.Test.YtclkglkhhnapiaaFnCallK
namespace Go.Proofs.Ytclkglkhhnapiaa
open Go.ChangeShapes Go.WideShapes Go.ChangeAt Go.RowKit
set_option maxRecDepth 100000
set_option maxHeartbeats 16000000
set_option linter.unusedVariables false
set_option linter.unusedSimpArgs false
set_option linter.unnecessarySimpa false
set_option linter.unusedSectionVars false
section
def qzcy (md : Region.Mode) (ops : Array Oper) (k f : Nat) : Bool := (List.range ops.size).all fun j => decide (j < k) || (List.range k).all fun i => (i == f) || qzav md ops ops.size j i
theorem qz7n {md : Region.Mode} {ops : Array Oper} {k f : Nat} {listed : Array Bool} (hw : qzcy md ops k f = true) (hc : qz4t md ops listed) {i j : Nat} (hi : i < k) (hif : i ≠ f) (hu : listed.getD i true = false) (hj : j ∈ Region.ready md ops listed) : j < k := by
 rcases Nat.lt_or_ge j k with h | h
 ·exact h
 ·obtain ⟨_, o, ho, hall⟩ := mem_ready.1 hj
  have hjs : j < ops.size := (Array.getElem?_eq_some_iff.1 ho).1
  have h1 := (List.all_eq_true.1 hw) j (List.mem_range.2 hjs)
  simp only [Bool.or_eq_true, decide_eq_true_eq] at h1
  rcases h1 with h1 | h1
  ·exact h1
  ·have h2 := (List.all_eq_true.1 h1) i (List.mem_range.2 hi)
   simp only [Bool.or_eq_true, beq_iff_eq] at h2
   rcases h2 with h2 | h2
   ·exact absurd h2 hif
   have h3 := qz50 hc _ j i h2 (fun o' ho' => by rw [ho] at ho'; cases ho'; exact hall)
   rcases Nat.lt_or_ge i listed.size with h' | h'
   ·simp [h'] at hu h3; rw [hu] at h3; cases h3
   ·simp [Array.getElem?_eq_none h'] at hu
def qzde (ops : Array Oper) (k f m : Nat) : Bool := (ops.size == k + m) && qzcy .any ops k f && Region.noSelect ops && Region.free .any ops ((upTo ops k).setIfInBounds f false) f
theorem qz6f {P : Program} {l : List Oper} {Q : Exit -> Act -> World -> Prop} {id : Nat} {a0 : Act} {w0 : World} (k f : Nat) (hfk : f < k) (hm : P.follows .mixedOrders = true)
  (G : Nat -> Value -> World -> Prop) (fresh : Nat -> Bool) (hT : qzde l.toArray k f (l.length - k) = true) (hL : qzcs l.toArray = true) (hBk : qzbk l.toArray k = true) (hg : (l.take k).all (fun o => o.guard.isNone) = true)
  (hdst0 : dstB l.toArray a0.tmps.size = true)
  (mono : ∀ i v w w', w0.heap.size <= w.heap.size -> G i v w -> Below w.heap.size w w' -> G i v w')
  (blk : ∀ i v w b, fresh i = true -> G i v w -> qz5c v = some b -> b < w.heap.size)
  (step : ∀ (i : Nat) (o : Oper), i < k -> l[i]? = some o -> ∀ (a : Act) (w : World), Below w0.heap.size w0 w -> (∀ t, qz9r l.toArray t = true -> a.eval (.tmp t) = a0.tmps.getD t undef) ->
   (∀ e ∈ o.after, Region.binds .any e = true -> ∀ d, qz3p l.toArray e.on = some d -> G e.on (a.eval (.tmp d)) w) ->
   ∀ K : Act -> World -> Prop, (∀ v w', G i v w' -> Below w.heap.size w w' -> (fresh i = true -> ∀ b, qz5c v = some b -> w.heap.size <= b) -> K (a.put o.dst v) w') -> o.wp P a w K Q)
  (hQf : ∀ c (a : Act) v w, Q (.panic c) (a.put (qz3p l.toArray f) v) w -> Q (.panic c) a w)
  (float : ∀ (o : Oper), l[f]? = some o -> ∀ (a : Act) (w : World), (∀ e ∈ o.after, Region.binds .any e = true -> ∀ d, qz3p l.toArray e.on = some d -> G e.on (a.eval (.tmp d)) w) -> ∃ v, (∀ w', (execOp a.eval o).run P w' = .ok (.value v) w') /\ G f v w /\ fresh f = false)
  (final : ∀ vs w', Below w0.heap.size w0 w' -> (∀ i, i < k -> G i (vs i) w') ->
   (∀ i j b, i < k -> j < k -> i ≠ j -> fresh i = true -> fresh j = true -> qz5c (vs i) = some b -> qz5c (vs j) ≠ some b) ->
   ∀ c, wpAny P .any l.toArray Q (c + (l.length - k)) (upTo l.toArray k) (laid l.toArray vs (upTo l.toArray k) (List.range l.toArray.size) a0) w') :
  (Code.region id l.toArray true).wp P Q a0 w0 := by
 have hdst := qzbw hdst0
 have L := qz97 hL
 have hBack : ∀ i, i < k -> ∀ o, l.toArray[i]? = some o -> ∀ e ∈ o.after, Region.binds .any e = true -> e.on < i := fun i hik o ho => qzc7 hBk i hik o ho
 simp only [qzde, Bool.and_eq_true, beq_iff_eq] at hT
 obtain ⟨⟨⟨hkm, hw⟩, hsel⟩, hfree⟩ := hT
 have hsl : l.toArray.size = l.length := by simp
 have hkl : k <= l.length := by omega
 refine wp_region_any hm ?_
 have key : ∀ (c : Nat) (listed : Array Bool) (vs : Nat -> Value) (w : World), qz5i listed <= c + (l.length - k) -> listed.size = l.toArray.size -> qz4t .any l.toArray listed -> (∀ j, k <= j -> listed.getD j false = false) -> Below w0.heap.size w0 w ->
   (∀ i, i < l.toArray.size -> listed.getD i false = true -> G i (vs i) w) ->
   (∀ i j b, i < l.toArray.size -> j < l.toArray.size -> i ≠ j -> listed.getD i false = true -> listed.getD j false = true -> fresh i = true -> fresh j = true -> qz5c (vs i) = some b -> qz5c (vs j) ≠ some b) ->
   wpAny P .any l.toArray Q (c + (l.length - k)) listed (laid l.toArray vs listed (List.range l.toArray.size) a0) w := by
  intro c
  induction c with
  | zero =>
   intro listed vs w hf hs hc htail hb hG hD
   by_cases hall : ∀ i, i < k -> listed.getD i false = true
   ·have he : listed = qz3q k 0 (Array.replicate l.toArray.size false) := by
     apply Array.ext
     ·rw [qz2r, hs]; simp
     ·intro i h1 h2
      have g := qz39 k 0 (Array.replicate l.toArray.size false) i (by simp; omega)
      have g1 : (qz3q k 0 (Array.replicate l.toArray.size false))[i] = (qz3q k 0 (Array.replicate l.toArray.size false)).getD i false := qz4d _ _ h2
      have g2 : listed[i] = listed.getD i false := by simp [h1]
      rw [g1, g2, g]
      by_cases c : i < k
      ·rw [if_pos (by omega), hall i c]
      ·have hio : i < l.length := by omega
       rw [if_neg (by omega), htail i (by omega)]
       simp [hio]
    have hfin := final vs w hb (fun i hi => hG i (by omega) (hall i hi)) (fun i j b hi hj hij => hD i j b (by omega) (by omega) hij (hall i hi) (hall j hj))
    unfold upTo at hfin
    rw [<- he] at hfin
    exact hfin 0
   ·exfalso
    simp only [Classical.not_forall] at hall
    obtain ⟨i, hi, hu⟩ := hall
    have := qz4p (m := l.length - k) (by omega) htail hi (by simpa using hu)
    omega
  | succ c ih =>
   intro listed vs w hf hs hc htail hb hG hD
   by_cases hall : ∀ i, i < k -> listed.getD i false = true
   ·have he : listed = qz3q k 0 (Array.replicate l.toArray.size false) := by
     apply Array.ext
     ·rw [qz2r, hs]; simp
     ·intro i h1 h2
      have g := qz39 k 0 (Array.replicate l.toArray.size false) i (by simp; omega)
      have g1 : (qz3q k 0 (Array.replicate l.toArray.size false))[i] = (qz3q k 0 (Array.replicate l.toArray.size false)).getD i false := qz4d _ _ h2
      have g2 : listed[i] = listed.getD i false := by simp [h1]
      rw [g1, g2, g]
      by_cases c : i < k
      ·rw [if_pos (by omega), hall i c]
      ·have hio : i < l.length := by omega
       rw [if_neg (by omega), htail i (by omega)]
       simp [hio]
    have hfin := final vs w hb (fun i hi => hG i (by omega) (hall i hi)) (fun i j b hi hj hij => hD i j b (by omega) (by omega) hij (hall i hi) (hall j hj))
    unfold upTo at hfin
    rw [<- he] at hfin
    exact hfin (c + 1)
   by_cases hallF : ∀ i, i < k -> i ≠ f -> listed.getD i false = true
   ·have huf : listed.getD f false = false := by
     cases hq : listed.getD f false with
     | false => rfl
     | true =>
      exfalso
      apply hall
      intro i hi
      by_cases hif : i = f
      ·rw [hif]; exact hq
      ·exact hallF i hi hif
    have hfs : f < l.toArray.size := by omega
    have hfl : f < listed.size := by omega
    obtain ⟨o, ho⟩ : ∃ o, l.toArray[f]? = some o := ⟨l.toArray[f], by simp⟩
    have ho' : l[f]? = some o := by simpa using ho
    have hguard : o.guard = none := by
     have := (List.all_eq_true.1 hg) o (List.mem_of_getElem? (i := f) (by rw [List.getElem?_take]; simp [hfk, ho']))
     simpa using this
    have hdep : ∀ e ∈ o.after, Region.binds .any e = true -> listed.getD e.on false = true := fun e he hbd => by
     have h1 := hBack f hfk o ho e he hbd
     exact hallF e.on (by omega) (by omega)
    have hrd : f ∈ Region.ready .any l.toArray listed := mem_ready.2 ⟨by simpa [hfl] using huf, o, ho, hdep⟩
    have hnd : (List.range l.toArray.size).Nodup := List.nodup_range
    obtain ⟨v, hrun, hGf, hff⟩ := float o ho' (laid l.toArray vs listed (List.range l.toArray.size) a0) w (fun e he hbd d hd => by
     have h1 := hBack f hfk o ho e he hbd
     have h2 := hdep e he hbd
     have h3 : (laid l.toArray vs listed (List.range l.toArray.size) a0).eval (.tmp d) = vs e.on := qz5f L vs listed e.on d hd h2 _ _ hnd (List.mem_range.2 (by omega)) (hdst _ _ hd)
     rw [h3]
     exact hG e.on (by omega) h2)
    have he' : listed = (upTo l.toArray k).setIfInBounds f false := by
     apply Array.ext
     ·simp only [Array.size_setIfInBounds, upTo, qz2r]; rw [hs]; simp
     ·intro i h1 h2
      have hio : i < l.length := by omega
      have g1 : ((upTo l.toArray k).setIfInBounds f false)[i] = ((upTo l.toArray k).setIfInBounds f false).getD i false := qz4d _ _ h2
      have g2 : listed[i] = listed.getD i false := by simp [h1]
      rw [g1, g2]
      by_cases hif : f = i
      ·subst hif
       rw [huf]
       have h3 : f < (upTo l.toArray k).size := by simpa using h2
       simp [h3]
      ·rw [show ((upTo l.toArray k).setIfInBounds f false).getD i false = (upTo l.toArray k).getD i false from by simp [Array.getElem?_setIfInBounds_ne hif]]
       unfold upTo
       rw [qz39 k 0 (Array.replicate l.toArray.size false) i (by simp; omega)]
       by_cases c : i < k
       ·rw [if_pos (by omega), hallF i c (fun e => hif e.symm)]
       ·rw [if_neg (by omega), htail i (by omega)]
        simp [hio]
    have hd' : o.dst = qz3p l.toArray f := by simp only [qz3p, ho, Option.bind_some]
    rw [show c + 1 + (l.length - k) = (c + (l.length - k)) + 1 by omega]
    refine wpAny_take (i := f) (v := v) ho hsel (by rw [he']; exact hfree) (by simpa using hrd) (fun c a w hh => hQf c a _ w (hd' ▸ hh)) (Or.inl ⟨by simp [Region.wanted, hguard], hrun⟩) ?_
    rw [hd', qz5g L vs listed f v hfl huf _ _ hnd (List.mem_range.2 hfs)]
    refine ih _ _ _ (by have := qz4h hfl huf; omega) (by simpa using hs) (hc.set hrd) (fun j hj => by rw [getD_set_ne false (by omega)]; exact htail j hj) hb ?_ ?_
    ·intro j hj hjl
     by_cases hji : j = f
     ·subst hji
      simp only [upd, if_true]
      exact hGf
     ·rw [getD_set_ne false (Ne.symm hji)] at hjl
      simp only [upd, hji, if_false]
      exact hG j hj hjl
    ·intro j q b hj hq hjq hjl hql hfj hfq hbj hbq
     have hjf : j ≠ f := fun e => by rw [e, hff] at hfj; cases hfj
     have hqf : q ≠ f := fun e => by rw [e, hff] at hfq; cases hfq
     rw [getD_set_ne false (Ne.symm hjf)] at hjl
     rw [getD_set_ne false (Ne.symm hqf)] at hql
     simp only [upd, hjf, if_false] at hbj
     simp only [upd, hqf, if_false] at hbq
     exact hD j q b hj hq hjq hjl hql hfj hfq hbj hbq
   simp only [Classical.not_forall] at hallF
   obtain ⟨i1, hi1, hi1f, hu1⟩ := hallF
   have hu1' : listed.getD i1 false = false := by simpa using hu1
   have hu1'' : listed.getD i1 true = false := by
    have : i1 < listed.size := by omega
    simpa [this] using hu1'
   have hex : ∃ i, i < k /\ i ∈ Region.ready .any l.toArray listed := by
    apply Classical.byContradiction
    intro hno
    have : ∀ n i, i < n -> i < k -> listed.getD i false = true := by
     intro n
     induction n with
     | zero => intro i hi; omega
     | succ n ihn =>
      intro i hi hik
      rcases Nat.lt_or_ge i n with h | h
      ·exact ihn i h hik
      ·have hin : i = n := by omega
       subst hin
       cases hq : listed.getD i false with
       | true => rfl
       | false =>
        exfalso
        apply hno
        refine ⟨i, hik, mem_ready.2 ⟨?_, ?_⟩⟩
        ·have : i < listed.size := by omega
         simpa [this] using hq
        ·have hil : i < l.toArray.size := by omega
         refine ⟨l.toArray[i], by simp, fun e he hbd => ?_⟩
         exact ihn e.on (hBack i hik _ (by simp) e he hbd) (Nat.lt_trans (hBack i hik _ (by simp) e he hbd) hik)
    have h9 := this (i1 + 1) i1 (by omega) hi1
    rw [hu1'] at h9
    cases h9
   rw [show c + 1 + (l.length - k) = (c + (l.length - k)) + 1 by omega]
   obtain ⟨i0, hi0, hr0⟩ := hex
   refine ⟨fun h0 => (by rw [h0] at hr0; cases hr0), ?_⟩
   intro i hi
   have hik := qz7n hw hc hi1 hi1f hu1'' hi
   obtain ⟨h0, o, ho, hall⟩ := mem_ready.1 hi
   have hi' : i < l.toArray.size := (Array.getElem?_eq_some_iff.1 ho).1
   have hlt : i < listed.size := by omega
   have h1 : listed.getD i false = false := by simpa [hlt] using h0
   have ho' : l[i]? = some o := by simpa using ho
   have hguard : o.guard = none := by
    have := (List.all_eq_true.1 hg) o (List.mem_of_getElem? (i := i) (by rw [List.getElem?_take]; simp [hik, ho']))
    simpa using this
   have hnd : (List.range l.toArray.size).Nodup := List.nodup_range
   have hlt' : ∀ e ∈ o.after, Region.binds .any e = true -> ∀ d, qz3p l.toArray e.on = some d -> e.on < l.toArray.size /\ listed.getD e.on false = true /\ (laid l.toArray vs listed (List.range l.toArray.size) a0).eval (.tmp d) = vs e.on := by
    intro e he hbd d hd
    have hel := hall e he hbd
    have hes : e.on < l.toArray.size := by
     rcases Nat.lt_or_ge e.on l.toArray.size with h | h
     ·exact h
     ·simp only [qz3p, Array.getElem?_eq_none h] at hd
      cases hd
    exact ⟨hes, hel, qz5f L vs listed e.on d hd hel _ _ hnd (List.mem_range.2 hes) (hdst _ _ hd)⟩
   have hstep := step i o hik ho' (laid l.toArray vs listed (List.range l.toArray.size) a0) w hb
    (fun t ht => qz3f l.toArray vs listed t _ _ (fun k _ => qz73 ht k))
    (fun e he hbd d hd => by
     obtain ⟨h2, h3, h4⟩ := hlt' e he hbd d hd
     rw [h4]
     exact hG e.on h2 h3)
   have hwn : Region.wanted o (yielded l.toArray (laid l.toArray vs listed (List.range l.toArray.size) a0).tmps) = true := by simp [Region.wanted, hguard]
   unfold wpOp
   simp only [ho, hwn, if_true]
   refine Or.inl (hstep _ ?_)
   intro v w' hGi hb' hfr
   have hd' : o.dst = qz3p l.toArray i := by simp only [qz3p, ho, Option.bind_some]
   rw [hd', qz5g L vs listed i v hlt h1 _ _ hnd (List.mem_range.2 hi')]
   have hsz := hb.size
   refine ih _ _ _ (by have := qz4h hlt h1; omega) (by simpa using hs) (hc.set hi) (fun j hj => by rw [getD_set_ne false (by omega)]; exact htail j hj) (hb.trans (hb'.mono hsz)) ?_ ?_
   ·intro j hj hjl
    by_cases hji : j = i
    ·subst hji
     simp only [upd, if_true]
     exact hGi
    ·rw [getD_set_ne false (Ne.symm hji)] at hjl
     simp only [upd, hji, if_false]
     exact mono j _ w w' hsz (hG j hj hjl) hb'
   ·intro j k b hj hk hjk hjl hkl hfj hfk hbj hbk
    by_cases hji : j = i
    ·subst hji
     have hkj : k ≠ j := Ne.symm hjk
     rw [getD_set_ne false hjk] at hkl
     simp only [upd, if_true] at hbj
     simp only [upd, hkj, if_false] at hbk
     have h2 := hfr hfj b hbj
     have h3 := blk k _ w b hfk (hG k hk hkl) hbk
     omega
    ·rw [getD_set_ne false (Ne.symm hji)] at hjl
     simp only [upd, hji, if_false] at hbj
     by_cases hki : k = i
     ·subst hki
      simp only [upd, if_true] at hbk
      have h2 := hfr hfk b hbk
      have h3 := blk j _ w b hfj (hG j hj hjl) hbj
      omega
     ·rw [getD_set_ne false (Ne.symm hki)] at hkl
      simp only [upd, hki, if_false] at hbk
      exact hD j k b hj hk hjk hjl hkl hfj hfk hbj hbk
 have hgf : ∀ i, (Array.replicate l.toArray.size false).getD i false = false := by
  intro i
  rcases Nat.lt_or_ge i l.toArray.size with h | h
  ·simp at h; simp [h]
  ·simp at h; simp [h]
 have h0 : laid l.toArray (fun _ => undef) (Array.replicate l.toArray.size false) (List.range l.toArray.size) a0 = a0 := by
  have : ∀ (q : List Nat) (a : Act), laid l.toArray (fun _ => undef) (Array.replicate l.toArray.size false) q a = a := by
   intro q
   induction q with
   | nil => intro a; rfl
   | cons i q ih =>
    intro a
    simp only [laid]
    rw [hgf i]
    simpa using ih a
  exact this _ _
 have hk := key k (Array.replicate l.toArray.size false) (fun _ => undef) { w0 with drawn := w0.drawn + 1 } (by unfold qz5i; simp; omega) (by simp) (fun j o _ hj => by rw [hgf j] at hj; cases hj) (fun j _ => hgf j) ⟨rfl, rfl, rfl, Nat.le_refl _, fun _ _ => rfl⟩ (fun i hi h => by rw [hgf i] at h; cases h) (fun i j b hi hj hij h => by rw [hgf i] at h; cases h)
 rw [h0, show k + (l.length - k) = l.toArray.size by simp; omega] at hk
 exact hk
theorem qz66 {P : Program} {l : List Oper} {Q : Exit -> Act -> World -> Prop} {id : Nat} {a0 : Act} {w0 : World} (k f : Nat) (hfk : f < k) (hm : P.follows .mixedOrders = true)
  (G : Nat -> Value -> World -> Prop) (fresh : Nat -> Bool) (hT : qzde l.toArray k f (l.length - k) = true) (hS : qz4g .any l.toArray (l.length - k) k (upTo l.toArray k) = true) (hL : qzcs l.toArray = true) (hBk : qzbk l.toArray k = true) (hg : (l.take k).all (fun o => o.guard.isNone) = true)
  (hdst0 : dstB l.toArray a0.tmps.size = true)
  (mono : ∀ i v w w', w0.heap.size <= w.heap.size -> G i v w -> Below w.heap.size w w' -> G i v w')
  (blk : ∀ i v w b, fresh i = true -> G i v w -> qz5c v = some b -> b < w.heap.size)
  (step : ∀ (i : Nat) (o : Oper), i < k -> l[i]? = some o -> ∀ (a : Act) (w : World), Below w0.heap.size w0 w -> (∀ t, qz9r l.toArray t = true -> a.eval (.tmp t) = a0.tmps.getD t undef) ->
   (∀ e ∈ o.after, Region.binds .any e = true -> ∀ d, qz3p l.toArray e.on = some d -> G e.on (a.eval (.tmp d)) w) ->
   ∀ K : Act -> World -> Prop, (∀ v w', G i v w' -> Below w.heap.size w w' -> (fresh i = true -> ∀ b, qz5c v = some b -> w.heap.size <= b) -> K (a.put o.dst v) w') -> o.wp P a w K Q)
  (hQf : ∀ c (a : Act) v w, Q (.panic c) (a.put (qz3p l.toArray f) v) w -> Q (.panic c) a w)
  (float : ∀ (o : Oper), l[f]? = some o -> ∀ (a : Act) (w : World), (∀ e ∈ o.after, Region.binds .any e = true -> ∀ d, qz3p l.toArray e.on = some d -> G e.on (a.eval (.tmp d)) w) -> ∃ v, (∀ w', (execOp a.eval o).run P w' = .ok (.value v) w') /\ G f v w /\ fresh f = false)
  (final : ∀ vs w', Below w0.heap.size w0 w' -> (∀ i, i < k -> G i (vs i) w') ->
   (∀ i j b, i < k -> j < k -> i ≠ j -> fresh i = true -> fresh j = true -> qz5c (vs i) = some b -> qz5c (vs j) ≠ some b) ->
   wpList P l.toArray Q (l.drop k) (laid l.toArray vs (upTo l.toArray k) (List.range l.toArray.size) a0) w') :
  (Code.region id l.toArray true).wp P Q a0 w0 := by
 refine qz6f k f hfk hm G fresh hT hL hBk hg hdst0 mono blk step hQf float (fun vs w' hb hG hD c => ?_)
 have := qz29 (P := P) (md := .any) (Q := Q) c (l.drop k) k (upTo l.toArray k) _ w' (fun j => by simp) (by simpa using hS) (final vs w' hb hG hD)
 rw [show c + (l.length - k) = (l.drop k).length + c by simp; omega]
 exact this
end
section
attribute [local go_sem ↓] Go.wp_at_zero Go.wp_at_succ
def askW (x y z u : Int) (W : Wd) (k : Nat) (h : Hd) (c q v : Int) : Wd :=
 if qz1f x y z u h c q v ≠ 0 then W else if W.now = 20000 then W else { W with hands := W.hands.set k { qz1n x y z u h c q v with begin := W.now + 1 }, now := W.now + 1 }
def askG (b5 lo : Nat) (x y z u : Int) (hb ho hl hc k : Nat) (h R : Hd) (c q v cd : Int) : Nat -> Value -> World -> Prop
 | 0, e, _ => e = .pointer (some ⟨b5, 0, none⟩)
 | 1, e, _ => e = .agg #[.int .i64 x, .int .i64 y, .int .i64 z, .int .i64 u]
 | 2, e, _ => e = .pointer (some ⟨b5, 9, none⟩)
 | 3, e, _ => e = .slice (some ⟨hb, ho, none⟩) hl hc
 | 4, e, _ => e = .int .i64 (k : Int)
 | 5, e, _ => e = .pointer (some ⟨hb, ho + k * 22, none⟩)
 | 6, e, _ => e = .agg (hdC h).toArray
 | 7, e, _ => e = .int .i64 c
 | 8, e, _ => e = .int .i64 q
 | 9, e, _ => e = .int .i64 v
 | 10, e, _ => e = .tuple #[.agg (hdC R).toArray, .int .i64 cd]
 | 11, e, _ => e = .tuple #[.agg (hdC R).toArray, .int .i64 cd]
 | 12, e, _ => e = .agg (hdC R).toArray
 | 13, e, _ => e = .int .i64 cd
 | 14, e, w => ∃ b, e = .pointer (some ⟨b, 0, none⟩) /\ lo <= b /\ b < w.heap.size /\ w.there b 0 22
 | _, _, _ => True
theorem qzbb {b5 lo : Nat} {x y z u : Int} {hb ho hl hc k : Nat} {h R : Hd} {c q v cd : Int} (i : Nat) (e : Value) (w w' : World) (hG : askG b5 lo x y z u hb ho hl hc k h R c q v cd i e w) (hb' : Below w.heap.size w w') : askG b5 lo x y z u hb ho hl hc k h R c q v cd i e w' := by
 match i, hG with
 | 0, g | 1, g | 2, g | 3, g | 4, g | 5, g | 6, g | 7, g | 8, g | 9, g | 10, g | 11, g | 12, g | 13, g => exact g
 | 14, g =>
  obtain ⟨b, e, h1, h2, h3⟩ := g
  exact ⟨b, e, h1, Nat.lt_of_lt_of_le h2 hb'.size, qz6 h3 hb' h2⟩
 | n + 15, g => exact trivial
theorem qz3 {w w' : World} {b c o : Nat} {cs : List Value} (h : w.rangeAt b o cs) (hO : Only c w w') (hb : b < w.heap.size) (hne : b ≠ c) : w'.rangeAt b o cs :=
 fun j v hv => (hO.cell (p := ⟨b, o + j, none⟩) hb hne).trans (h j v hv)
theorem qz7 {w w' : World} {b c o n : Nat} (h : w.there b o n) (hO : Only c w w') (hb : b < w.heap.size) (hne : b ≠ c) : w'.there b o n :=
 fun j hj => by rw [hO.cell (p := ⟨b, o + j, none⟩) hb hne, hO.frozen (p := ⟨b, o + j, none⟩) hb hne]; exact h j hj
theorem qzbd (B : Nat) (x y z u : Int) (W : Wd) (a0 a1 a2 a3 a4 a5 a6 a7 : Option Addr) (c0 c1 c2 c3 c4 c5 c6 c7 : Nat) (k : Nat) (h : Hd) (c q v : Int) (w : World) (hB : B <= w.heap.size) (hW : W.size <= 1000000) (I : WdIs B w (.slice a0 W.A.slots.length c0) (.slice a1 W.A.guides.length c1) (.slice a2 W.A.nodes.length c2) (.slice a3 W.A.vers.length c3) (.slice a4 W.hands.length c4) (.slice a5 W.calls.length c5) (.slice a6 W.deeds.length c6) (.slice a7 W.ticks.length c7) W) (hP : WdP x y z u W) (hk : k < W.hands.length) (hkh : W.hands[k] = h) :
  Calls Try.prog 92 #[.agg #[.int .i64 x, .int .i64 y, .int .i64 z, .int .i64 u, .int .i64 W.A.camera, .slice a0 W.A.slots.length c0, .slice a1 W.A.guides.length c1, .slice a2 W.A.nodes.length c2, .slice a3 W.A.vers.length c3, .slice a4 W.hands.length c4, .slice a5 W.calls.length c5, .slice a6 W.deeds.length c6, .slice a7 W.ticks.length c7, .int .i64 W.now], .int .i64 (k : Int), .int .i64 c, .int .i64 q, .int .i64 v] w fun e w' => ∃ s g n r hs cs ds ts cd, e = .returned (.tuple #[.agg (wdC x y z u W.A.camera s g n r hs cs ds ts (askW x y z u W k h c q v).now).toArray, .int .i64 cd]) /\ qz83 w.heap.size w' s g n r hs cs ds ts (askW x y z u W k h c q v) /\ Below w.heap.size w w' := by
 have hlen := qz2v hP.ar
 have hx := ((qz28 x y z u).1 hlen.1).1
 have hs0 := (qz2a hP.ar).1
 simp only [qz7j, Bool.and_eq_true, beq_iff_eq, qz1b] at hs0
 have hsl0 : 0 < W.A.slots.length := by omega
 clear hs0
 obtain ⟨hb, ho, rfl, hbB, Rh⟩ : ∃ hb ho, a4 = some ⟨hb, ho, none⟩ /\ hb < B /\ w.rangeAt hb ho (qzq hdC W.hands) := by
  obtain ⟨a', cap', e4, h4⟩ := I.h
  cases e4
  rcases h4 with h4 | ⟨hb, ho, e, h5, h6⟩
  ·omega
  ·exact ⟨hb, ho, e, h5, h6⟩
 have E0 := qzu (f := hdC) (sz := 22) (fun _ => rfl) Rh k hk
 rw [hkh] at E0
 have X0 := World.rangeAt_alloc (qzd w [.int .i64 x, .int .i64 y, .int .i64 z, .int .i64 u, .int .i64 W.A.camera, .slice a0 W.A.slots.length c0, .slice a1 W.A.guides.length c1, .slice a2 W.A.nodes.length c2, .slice a3 W.A.vers.length c3, .slice (some ⟨hb, ho, none⟩) W.hands.length c4, .slice a5 W.calls.length c5, .slice a6 W.deeds.length c6, .slice a7 W.ticks.length c7, .int .i64 W.now] 43) (.cells #[.int .i64 0, .int .i64 0, .int .i64 0, .int .i64 0, .int .i64 0, .slice none 0 0, .slice none 0 0, .slice none 0 0, .slice none 0 0, .slice none 0 0, .slice none 0 0, .slice none 0 0, .slice none 0 0, .int .i64 0] 43)
 have F0 := qzh (w.alloc (.cells #[.int .i64 x, .int .i64 y, .int .i64 z, .int .i64 u, .int .i64 W.A.camera, .slice a0 W.A.slots.length c0, .slice a1 W.A.guides.length c1, .slice a2 W.A.nodes.length c2, .slice a3 W.A.vers.length c3, .slice (some ⟨hb, ho, none⟩) W.hands.length c4, .slice a5 W.calls.length c5, .slice a6 W.deeds.length c6, .slice a7 W.ticks.length c7, .int .i64 W.now] 43)) #[.int .i64 0, .int .i64 0, .int .i64 0, .int .i64 0, .int .i64 0, .slice none 0 0, .slice none 0 0, .slice none 0 0, .slice none 0 0, .slice none 0 0, .slice none 0 0, .slice none 0 0, .slice none 0 0, .int .i64 0] 43 14 (by decide)
 have K0 := ((Below.refl w.heap.size w).alloc (Nat.le_refl _) (.cells #[.int .i64 x, .int .i64 y, .int .i64 z, .int .i64 u, .int .i64 W.A.camera, .slice a0 W.A.slots.length c0, .slice a1 W.A.guides.length c1, .slice a2 W.A.nodes.length c2, .slice a3 W.A.vers.length c3, .slice (some ⟨hb, ho, none⟩) W.hands.length c4, .slice a5 W.calls.length c5, .slice a6 W.deeds.length c6, .slice a7 W.ticks.length c7, .int .i64 W.now] 43)).alloc (by simp) (.cells #[.int .i64 0, .int .i64 0, .int .i64 0, .int .i64 0, .int .i64 0, .slice none 0 0, .slice none 0 0, .slice none 0 0, .slice none 0 0, .slice none 0 0, .slice none 0 0, .slice none 0 0, .slice none 0 0, .int .i64 0] 43)
 have hz0 : ((w.alloc (.cells #[.int .i64 x, .int .i64 y, .int .i64 z, .int .i64 u, .int .i64 W.A.camera, .slice a0 W.A.slots.length c0, .slice a1 W.A.guides.length c1, .slice a2 W.A.nodes.length c2, .slice a3 W.A.vers.length c3, .slice (some ⟨hb, ho, none⟩) W.hands.length c4, .slice a5 W.calls.length c5, .slice a6 W.deeds.length c6, .slice a7 W.ticks.length c7, .int .i64 W.now] 43)).alloc (.cells #[.int .i64 0, .int .i64 0, .int .i64 0, .int .i64 0, .int .i64 0, .slice none 0 0, .slice none 0 0, .slice none 0 0, .slice none 0 0, .slice none 0 0, .slice none 0 0, .slice none 0 0, .slice none 0 0, .int .i64 0] 43)).heap.size = w.heap.size + 2 := by simp
 simp only [World.size_alloc] at F0
 have I0 := I.below (K0.mono hB)
 have E1 := qz0 E0 K0 (Nat.lt_of_lt_of_le hbB hB)
 clear Rh I E0
 obtain ⟨Rr, hR⟩ : ∃ R, Hid (qz1n x y z u h c q v = R) := ⟨_, rfl⟩
 obtain ⟨cd, hC⟩ : ∃ cd, Hid (qz1f x y z u h c q v = cd) := ⟨_, rfl⟩
 go_enter Try.func92, Try.ntmps92
 go_wp2_with (refine wpList_load_mid rfl 43 (.tmp 5) rfl w.heap.size 0 rfl [.int .i64 x, .int .i64 y, .int .i64 z, .int .i64 u, .int .i64 W.A.camera, .slice a0 W.A.slots.length c0, .slice a1 W.A.guides.length c1, .slice a2 W.A.nodes.length c2, .slice a3 W.A.vers.length c3, .slice (some ⟨hb, ho, none⟩) W.hands.length c4, .slice a5 W.calls.length c5, .slice a6 W.deeds.length c6, .slice a7 W.ticks.length c7, .int .i64 W.now] _ ?hc1 Try.underlying43 rfl qzm ?_)
 case hc1 => exact X0
 generalize hw0 : (w.alloc (.cells #[.int .i64 x, .int .i64 y, .int .i64 z, .int .i64 u, .int .i64 W.A.camera, .slice a0 W.A.slots.length c0, .slice a1 W.A.guides.length c1, .slice a2 W.A.nodes.length c2, .slice a3 W.A.vers.length c3, .slice (some ⟨hb, ho, none⟩) W.hands.length c4, .slice a5 W.calls.length c5, .slice a6 W.deeds.length c6, .slice a7 W.ticks.length c7, .int .i64 W.now] 43)).alloc (.cells #[.int .i64 0, .int .i64 0, .int .i64 0, .int .i64 0, .int .i64 0, .slice none 0 0, .slice none 0 0, .slice none 0 0, .slice none 0 0, .slice none 0 0, .slice none 0 0, .slice none 0 0, .slice none 0 0, .int .i64 0] 43) = w0 at *
 clear hw0
 refine (qz9g B x y z u W a0 a1 a2 a3 (some ⟨hb, ho, none⟩) a5 a6 a7 c0 c1 c2 c3 c4 c5 c6 c7 w0 (by omega) hW I0 hP).mono ?_
 rintro e w5 ⟨rfl, b1⟩
 have X5 := qz0 X0 b1 (by omega)
 have F5 := qz6 F0 b1 (by omega)
 have E5 := qz0 E1 b1 (by omega)
 have I5 := I0.below (b1.mono (by omega))
 have KK := K0.trans (b1.mono (by omega))
 have hz5 := b1.size
 clear X0 F0 E1 I0 K0 b1
 have x0 : w5.cell? ⟨w.heap.size, 0, none⟩ = some (.int .i64 x) := by simpa using X5 0 (.int .i64 x) rfl
 have hin : inB (k : Int) 0 (x - 1) = true := (qz1b _ _ _).2 (by have := hP.hl; omega)
 go_upto_region 3 with (go_at_call 43; refine (qzg _ _ _ _).mono ?_; rintro e w' ⟨rfl, hw⟩; obtain rfl := hw.symm)
 clear x0 hin
 go_wp2_with (refine wpList_load_mid rfl 43 (.tmp 5) rfl w.heap.size 0 rfl [.int .i64 x, .int .i64 y, .int .i64 z, .int .i64 u, .int .i64 W.A.camera, .slice a0 W.A.slots.length c0, .slice a1 W.A.guides.length c1, .slice a2 W.A.nodes.length c2, .slice a3 W.A.vers.length c3, .slice (some ⟨hb, ho, none⟩) W.hands.length c4, .slice a5 W.calls.length c5, .slice a6 W.deeds.length c6, .slice a7 W.ticks.length c7, .int .i64 W.now] _ ?hc6 Try.underlying43 rfl qzm ?_)
 case hc6 => exact X5
 refine (qz6t B x y z u W a0 a1 a2 a3 (some ⟨hb, ho, none⟩) a5 a6 a7 c0 c1 c2 c3 c4 c5 c6 c7 w5 (by omega) (by omega) I5 hsl0 (by omega) (by omega) (by omega)).mono ?_
 rintro e w6 ⟨s6, g6, n6, r6, hs6, cs6, ds6, ts6, rfl, O6, b6⟩
 obtain ⟨sa6, sc6, rfl⟩ := qzk O6.ar.rs
 obtain ⟨ga6, gc6, rfl⟩ := qzk O6.ar.rg
 obtain ⟨na6, nc6, rfl⟩ := qzk O6.ar.rn
 obtain ⟨ra6, rc6, rfl⟩ := qzk O6.ar.rr
 obtain ⟨hg, hcap, rfl⟩ : ∃ hg hcap, hs6 = .slice (some ⟨hg, 0, none⟩) W.hands.length hcap := by
  rcases O6.h.2 with ⟨rfl, h0⟩ | ⟨g, cap, cur, rfl, _⟩
  ·omega
  ·exact ⟨g, cap, rfl⟩
 obtain ⟨ca, cc, rfl⟩ := qzk O6.c
 obtain ⟨da, dc, rfl⟩ := qzk O6.d
 obtain ⟨ta, tc, rfl⟩ := qzk O6.t
 have hset9 : (w6.alloc (.cells #[.int .i64 0, .int .i64 0, .int .i64 0, .int .i64 0, .int .i64 0, .slice none 0 0, .slice none 0 0, .slice none 0 0, .slice none 0 0, .slice none 0 0, .slice none 0 0, .slice none 0 0, .slice none 0 0, .int .i64 0] 43)).setCells w6.heap.size 0 (wdC x y z u W.A.camera (.slice sa6 W.A.slots.length sc6) (.slice ga6 W.A.guides.length gc6) (.slice na6 W.A.nodes.length nc6) (.slice ra6 W.A.vers.length rc6) (.slice (some ⟨hg, 0, none⟩) W.hands.length hcap) (.slice ca W.calls.length cc) (.slice da W.deeds.length dc) (.slice ta W.ticks.length tc) W.now).toArray.toList = w6.alloc (.cells #[.int .i64 x, .int .i64 y, .int .i64 z, .int .i64 u, .int .i64 W.A.camera, .slice sa6 W.A.slots.length sc6, .slice ga6 W.A.guides.length gc6, .slice na6 W.A.nodes.length nc6, .slice ra6 W.A.vers.length rc6, .slice (some ⟨hg, 0, none⟩) W.hands.length hcap, .slice ca W.calls.length cc, .slice da W.deeds.length dc, .slice ta W.ticks.length tc, .int .i64 (W.now)] 43) := qz11 w6 43 (wdC x y z u W.A.camera (.slice sa6 W.A.slots.length sc6) (.slice ga6 W.A.guides.length gc6) (.slice na6 W.A.nodes.length nc6) (.slice ra6 W.A.vers.length rc6) (.slice (some ⟨hg, 0, none⟩) W.hands.length hcap) (.slice ca W.calls.length cc) (.slice da W.deeds.length dc) (.slice ta W.ticks.length tc) W.now) [] [.int .i64 0, .int .i64 0, .int .i64 0, .int .i64 0, .int .i64 0, .slice none 0 0, .slice none 0 0, .slice none 0 0, .slice none 0 0, .slice none 0 0, .slice none 0 0, .slice none 0 0, .slice none 0 0, .int .i64 0] rfl
 have FA9 := qzh w6 #[.int .i64 0, .int .i64 0, .int .i64 0, .int .i64 0, .int .i64 0, .slice none 0 0, .slice none 0 0, .slice none 0 0, .slice none 0 0, .slice none 0 0, .slice none 0 0, .slice none 0 0, .slice none 0 0, .int .i64 0] 43 14 (by decide)
 have S7 : Und w5.heap.size w5 (w6.alloc (.cells #[.int .i64 x, .int .i64 y, .int .i64 z, .int .i64 u, .int .i64 W.A.camera, .slice sa6 W.A.slots.length sc6, .slice ga6 W.A.guides.length gc6, .slice na6 W.A.nodes.length nc6, .slice ra6 W.A.vers.length rc6, .slice (some ⟨hg, 0, none⟩) W.hands.length hcap, .slice ca W.calls.length cc, .slice da W.deeds.length dc, .slice ta W.ticks.length tc, .int .i64 (W.now)] 43)) w6.heap.size (.slice (some ⟨hg, 0, none⟩) W.hands.length hcap) (.slice ca W.calls.length cc) (.slice da W.deeds.length dc) (.slice ta W.ticks.length tc) W.hands W.calls W.deeds W.ticks [.int .i64 x, .int .i64 y, .int .i64 z, .int .i64 u, .int .i64 W.A.camera, .slice sa6 W.A.slots.length sc6, .slice ga6 W.A.guides.length gc6, .slice na6 W.A.nodes.length nc6, .slice ra6 W.A.vers.length rc6, .slice (some ⟨hg, 0, none⟩) W.hands.length hcap, .slice ca W.calls.length cc, .slice da W.deeds.length dc, .slice ta W.ticks.length tc, .int .i64 (W.now)] :=
  ⟨qzd w6 [.int .i64 x, .int .i64 y, .int .i64 z, .int .i64 u, .int .i64 W.A.camera, .slice sa6 W.A.slots.length sc6, .slice ga6 W.A.guides.length gc6, .slice na6 W.A.nodes.length nc6, .slice ra6 W.A.vers.length rc6, .slice (some ⟨hg, 0, none⟩) W.hands.length hcap, .slice ca W.calls.length cc, .slice da W.deeds.length dc, .slice ta W.ticks.length tc, .int .i64 (W.now)] 43, qzh w6 #[.int .i64 x, .int .i64 y, .int .i64 z, .int .i64 u, .int .i64 W.A.camera, .slice sa6 W.A.slots.length sc6, .slice ga6 W.A.guides.length gc6, .slice na6 W.A.nodes.length nc6, .slice ra6 W.A.vers.length rc6, .slice (some ⟨hg, 0, none⟩) W.hands.length hcap, .slice ca W.calls.length cc, .slice da W.deeds.length dc, .slice ta W.ticks.length tc, .int .i64 (W.now)] 43 14 (by simp), b6.size, by simp, qz1v O6.h ((Below.refl _ _).alloc (Nat.le_refl _) _), qz1v O6.c ((Below.refl _ _).alloc (Nat.le_refl _) _), qz1v O6.d ((Below.refl _ _).alloc (Nat.le_refl _) _), qz1v O6.t ((Below.refl _ _).alloc (Nat.le_refl _) _),
   fun q e => by have := qz2m O6.h e; omega, fun q e => by have := qz2m O6.c e; omega, fun q e => by have := qz2m O6.d e; omega, fun q e => by have := qz2m O6.t e; omega, b6.alloc b6.size _⟩
 have OA : qz38 w5.heap.size (w6.alloc (.cells #[.int .i64 x, .int .i64 y, .int .i64 z, .int .i64 u, .int .i64 W.A.camera, .slice sa6 W.A.slots.length sc6, .slice ga6 W.A.guides.length gc6, .slice na6 W.A.nodes.length nc6, .slice ra6 W.A.vers.length rc6, .slice (some ⟨hg, 0, none⟩) W.hands.length hcap, .slice ca W.calls.length cc, .slice da W.deeds.length dc, .slice ta W.ticks.length tc, .int .i64 (W.now)] 43)) (.slice sa6 W.A.slots.length sc6) (.slice ga6 W.A.guides.length gc6) (.slice na6 W.A.nodes.length nc6) (.slice ra6 W.A.vers.length rc6) W.A := O6.ar.below ((Below.refl _ _).alloc (Nat.le_refl _) _)
 have OB : ∀ p, OwnB (.slice sa6 W.A.slots.length sc6) (.slice ga6 W.A.guides.length gc6) (.slice na6 W.A.nodes.length nc6) (.slice ra6 W.A.vers.length rc6) p -> p ≠ w6.heap.size /\ p ≠ hg := fun p hp => by
  have h1 := O6.ar.lt p hp
  refine ⟨by omega, ?_⟩
  rintro rfl
  rcases hp with e | e | e | e
  ·exact qz2w O6.ar.rs O6.h (by decide) p e rfl
  ·exact qz2w O6.ar.rg O6.h (by decide) p e rfl
  ·exact qz2w O6.ar.rn O6.h (by decide) p e rfl
  ·exact qz2w O6.ar.rr O6.h (by decide) p e rfl
 go_upto_region 4 with (refine wpList_store_mid rfl 43 (.tmp 12) (.tmp 29) rfl w6.heap.size 0 _ rfl rfl FA9 qzm (by simp [wdC, Value.oneCell']) ?_; rw [hset9])
 clear hset9 FA9
 have hb9 := b6.size
 generalize w6.alloc (.cells #[.int .i64 x, .int .i64 y, .int .i64 z, .int .i64 u, .int .i64 W.A.camera, .slice sa6 W.A.slots.length sc6, .slice ga6 W.A.guides.length gc6, .slice na6 W.A.nodes.length nc6, .slice ra6 W.A.vers.length rc6, .slice (some ⟨hg, 0, none⟩) W.hands.length hcap, .slice ca W.calls.length cc, .slice da W.deeds.length dc, .slice ta W.ticks.length tc, .int .i64 (W.now)] 43) = w7 at *
 generalize hb9' : w6.heap.size = b9 at *
 clear hb9' O6 b6 I5
 have X7 := qz0 X5 S7.bel (by omega)
 have E7 := qz0 E5 S7.bel (by omega)
 have hz7 := S7.bel.size
 refine qz66 15 13 (by decide) (by kernel_rfl) (askG w.heap.size w7.heap.size x y z u hb ho W.hands.length c4 k h Rr c q v cd) (fun _ => false) (by kernel_rfl) (by kernel_rfl) (by kernel_rfl) (by kernel_rfl) (by kernel_rfl) (by rfl) (fun i v' w w' _ hq hb => qzbb i v' w w' hq hb) (fun _ _ _ _ h => by cases h) ?step1 (fun _ _ _ _ h => h) ?float1 ?final1
 case float1 =>
  intro o ho' a V hd
  obtain rfl := Option.some.inj ho'
  have e1 : a.eval (.tmp 30) = .tuple #[.agg (hdC Rr).toArray, .int .i64 cd] := hd ⟨11, .data⟩ (by simp) rfl 30 rfl
  refine ⟨.int .i64 cd, fun w' => ?_, rfl, rfl⟩
  generalize a.eval = ev at *
  go_simp
 case step1 =>
  intro i o hik ho' a V hb' hnn hd K hK
  have XV := qz0 X7 hb' (by omega)
  have EV := qz0 E7 hb' (by omega)
  have hzV := hb'.size
  have x9 : V.cell? ⟨w.heap.size, 9, none⟩ = some (.slice (some ⟨hb, ho, none⟩) W.hands.length c4) := by simpa using XV 9 _ rfl
  have hk1 : (k : Int) < (W.hands.length : Int) := by omega
  have hk0 : (0 : Int) <= (k : Int) := by omega
  match i, ho' with
  | 0, ho' =>
   obtain rfl := Option.some.inj ho'
   have e5 : a.eval (.tmp 5) = .pointer (some ⟨w.heap.size, 0, none⟩) := hnn 5 rfl
   refine qz2 (v := .pointer (some ⟨w.heap.size, 0, none⟩)) (w' := V) ?_ (hK _ _ rfl (Below.refl _ _) (fun h => by cases h))
   generalize a.eval = ev at *
   go_simp
  | 1, ho' =>
   obtain rfl := Option.some.inj ho'
   exact qzz 25 (.tmp 31) rfl w.heap.size 0 (hd ⟨0, .data⟩ (by simp) rfl 31 rfl) [.int .i64 x, .int .i64 y, .int .i64 z, .int .i64 u] _ (fun j v hv => XV j v (by match j, hv with | 0, h => exact h | 1, h => exact h | 2, h => exact h | 3, h => exact h)) Try.underlying25 rfl qzn (hK _ _ rfl (Below.refl _ _) (fun h => by cases h))
  | 2, ho' =>
   obtain rfl := Option.some.inj ho'
   have e5 : a.eval (.tmp 5) = .pointer (some ⟨w.heap.size, 0, none⟩) := hnn 5 rfl
   refine qz2 (v := .pointer (some ⟨w.heap.size, 9, none⟩)) (w' := V) ?_ (hK _ _ rfl (Below.refl _ _) (fun h => by cases h))
   generalize a.eval = ev at *
   go_simp
  | 3, ho' =>
   obtain rfl := Option.some.inj ho'
   have e33 : a.eval (.tmp 33) = .pointer (some ⟨w.heap.size, 9, none⟩) := hd ⟨2, .data⟩ (by simp) rfl 33 rfl
   refine qz2 (v := .slice (some ⟨hb, ho, none⟩) W.hands.length c4) (w' := V) ?_ (hK _ _ rfl (Below.refl _ _) (fun h => by cases h))
   generalize a.eval = ev at *
   go_simp
  | 4, ho' =>
   obtain rfl := Option.some.inj ho'
   have e1 : a.eval (.tmp 1) = .int .i64 (k : Int) := hnn 1 rfl
   refine qz2 (v := .int .i64 (k : Int)) (w' := V) ?_ (hK _ _ rfl (Below.refl _ _) (fun h => by cases h))
   generalize a.eval = ev at *
   go_simp
  | 5, ho' =>
   obtain rfl := Option.some.inj ho'
   have e34 : a.eval (.tmp 34) = .slice (some ⟨hb, ho, none⟩) W.hands.length c4 := hd ⟨3, .data⟩ (by simp) rfl 34 rfl
   have e35 : a.eval (.tmp 35) = .int .i64 (k : Int) := hd ⟨4, .data⟩ (by simp) rfl 35 rfl
   refine qz2 (v := .pointer (some ⟨hb, ho + k * 22, none⟩)) (w' := V) ?_ (hK _ _ rfl (Below.refl _ _) (fun h => by cases h))
   generalize a.eval = ev at *
   go_simp
  | 6, ho' =>
   obtain rfl := Option.some.inj ho'
   exact qzz 27 (.tmp 36) rfl hb (ho + k * 22) (hd ⟨5, .data⟩ (by simp) rfl 36 rfl) (hdC h) _ EV Try.underlying27 rfl (qz1 h) (hK _ _ rfl (Below.refl _ _) (fun h => by cases h))
  | 7, ho' =>
   obtain rfl := Option.some.inj ho'
   have e2 : a.eval (.tmp 2) = .int .i64 c := hnn 2 rfl
   refine qz2 (v := .int .i64 c) (w' := V) ?_ (hK _ _ rfl (Below.refl _ _) (fun h => by cases h))
   generalize a.eval = ev at *
   go_simp
  | 8, ho' =>
   obtain rfl := Option.some.inj ho'
   have e3 : a.eval (.tmp 3) = .int .i64 q := hnn 3 rfl
   refine qz2 (v := .int .i64 q) (w' := V) ?_ (hK _ _ rfl (Below.refl _ _) (fun h => by cases h))
   generalize a.eval = ev at *
   go_simp
  | 9, ho' =>
   obtain rfl := Option.some.inj ho'
   have e4 : a.eval (.tmp 4) = .int .i64 v := hnn 4 rfl
   refine qz2 (v := .int .i64 v) (w' := V) ?_ (hK _ _ rfl (Below.refl _ _) (fun h => by cases h))
   generalize a.eval = ev at *
   go_simp
  | 10, ho' =>
   obtain rfl := Option.some.inj ho'
   have e1 : a.eval (.tmp 32) = .agg #[.int .i64 x, .int .i64 y, .int .i64 z, .int .i64 u] := hd ⟨1, .data⟩ (by simp) rfl 32 rfl
   have e2 : a.eval (.tmp 37) = .agg (hdC h).toArray := hd ⟨6, .data⟩ (by simp) rfl 37 rfl
   have e3 : a.eval (.tmp 38) = .int .i64 c := hd ⟨7, .data⟩ (by simp) rfl 38 rfl
   have e4 : a.eval (.tmp 39) = .int .i64 q := hd ⟨8, .data⟩ (by simp) rfl 39 rfl
   have e5 : a.eval (.tmp 40) = .int .i64 v := hd ⟨9, .data⟩ (by simp) rfl 40 rfl
   have ef : a.eval (.func 9) = .func (.func 9) #[] #[] := rfl
   refine qz2i (f := 9) (args := #[.agg #[.int .i64 x, .int .i64 y, .int .i64 z, .int .i64 u], .agg (hdC h).toArray, .int .i64 c, .int .i64 q, .int .i64 v]) (R := fun e w' => e = .tuple #[.agg (hdC Rr).toArray, .int .i64 cd] /\ Below V.heap.size V w') ?_ ((qz58 x y z u h c q v V).mono (fun e w' h => ⟨_, h.1, by rw [hR.out, hC.out], h.2⟩)) (fun e w' h => hK e w' h.1 h.2 (fun h => by cases h))
   generalize a.eval = ev at *
   go_simp
  | 11, ho' =>
   obtain rfl := Option.some.inj ho'
   have e41 : a.eval (.tmp 41) = .tuple #[.agg (hdC Rr).toArray, .int .i64 cd] := hd ⟨10, .data⟩ (by simp) rfl 41 rfl
   refine qz2 (v := .tuple #[.agg (hdC Rr).toArray, .int .i64 cd]) (w' := V) ?_ (hK _ _ rfl (Below.refl _ _) (fun h => by cases h))
   generalize a.eval = ev at *
   go_simp
  | 12, ho' =>
   obtain rfl := Option.some.inj ho'
   have e30 : a.eval (.tmp 30) = .tuple #[.agg (hdC Rr).toArray, .int .i64 cd] := hd ⟨11, .data⟩ (by simp) rfl 30 rfl
   refine qz2 (v := .agg (hdC Rr).toArray) (w' := V) ?_ (hK _ _ rfl (Below.refl _ _) (fun h => by cases h))
   generalize a.eval = ev at *
   go_simp
  | 13, ho' =>
   obtain rfl := Option.some.inj ho'
   have e30 : a.eval (.tmp 30) = .tuple #[.agg (hdC Rr).toArray, .int .i64 cd] := hd ⟨11, .data⟩ (by simp) rfl 30 rfl
   refine qz2 (v := .int .i64 cd) (w' := V) ?_ (hK _ _ rfl (Below.refl _ _) (fun h => by cases h))
   generalize a.eval = ev at *
   go_simp
  | 14, ho' =>
   obtain rfl := Option.some.inj ho'
   refine qz2 (v := .pointer (some ⟨V.heap.size, 0, none⟩)) (w' := V.alloc (.cells #[.int .i64 0, .int .i64 0, .int .i64 0, .int .i64 0, .int .i64 0, .int .i64 0, .int .i64 0, .int .i64 0, .int .i64 0, .int .i64 0, .int .i64 0, .int .i64 0, .int .i64 0, .int .i64 0, .int .i64 0, .int .i64 0, .int .i64 0, .int .i64 0, .int .i64 0, .int .i64 0, .int .i64 0, .int .i64 0] 27)) ?_ (hK _ _ ⟨_, rfl, hzV, by simp, qzh V #[.int .i64 0, .int .i64 0, .int .i64 0, .int .i64 0, .int .i64 0, .int .i64 0, .int .i64 0, .int .i64 0, .int .i64 0, .int .i64 0, .int .i64 0, .int .i64 0, .int .i64 0, .int .i64 0, .int .i64 0, .int .i64 0, .int .i64 0, .int .i64 0, .int .i64 0, .int .i64 0, .int .i64 0, .int .i64 0] 27 22 (by decide)⟩ ((Below.refl _ _).alloc (Nat.le_refl _) _) (fun h => by cases h))
   generalize a.eval = ev at *
   go_simp
  | n + 15, ho' => omega
 intro vs V hb' hG _
 have g12 : vs 12 = .agg (hdC Rr).toArray := hG 12 (by decide)
 have g13 : vs 13 = .int .i64 cd := hG 13 (by decide)
 obtain ⟨bh, g14, lbh, ubh, Th⟩ := (show ∃ b, vs 14 = .pointer (some ⟨b, 0, none⟩) /\ w7.heap.size <= b /\ b < V.heap.size /\ V.there b 0 22 from hG 14 (by decide))
 generalize hl : laid _ vs _ _ _ = A'
 have hA' : A' = { tmps := #[.agg #[.int .i64 x, .int .i64 y, .int .i64 z, .int .i64 u, .int .i64 W.A.camera, .slice a0 W.A.slots.length c0, .slice a1 W.A.guides.length c1, .slice a2 W.A.nodes.length c2, .slice a3 W.A.vers.length c3, .slice (some ⟨hb, ho, none⟩) W.hands.length c4, .slice a5 W.calls.length c5, .slice a6 W.deeds.length c6, .slice a7 W.ticks.length c7, .int .i64 W.now], .int .i64 (k : Int), .int .i64 c, .int .i64 q, .int .i64 v, .pointer (some ⟨w.heap.size, 0, none⟩), undef, undef, undef, undef, .pointer (some ⟨w.heap.size + 1, 0, none⟩), .int .i64 0, .pointer (some ⟨b9, 0, none⟩), vs 14, undef, .agg #[.int .i64 x, .int .i64 y, .int .i64 z, .int .i64 u, .int .i64 W.A.camera, .slice a0 W.A.slots.length c0, .slice a1 W.A.guides.length c1, .slice a2 W.A.nodes.length c2, .slice a3 W.A.vers.length c3, .slice (some ⟨hb, ho, none⟩) W.hands.length c4, .slice a5 W.calls.length c5, .slice a6 W.deeds.length c6, .slice a7 W.ticks.length c7, .int .i64 W.now], .bool true, .bool false, .bool false, .int .i64 (k : Int), .pointer (some ⟨w.heap.size, 0, none⟩), .pointer (some ⟨w.heap.size, 0, none⟩), .int .i64 x, .int .i64 (x - 1), .bool true, .bool false, .bool false, undef, .agg #[.int .i64 x, .int .i64 y, .int .i64 z, .int .i64 u, .int .i64 W.A.camera, .slice a0 W.A.slots.length c0, .slice a1 W.A.guides.length c1, .slice a2 W.A.nodes.length c2, .slice a3 W.A.vers.length c3, .slice (some ⟨hb, ho, none⟩) W.hands.length c4, .slice a5 W.calls.length c5, .slice a6 W.deeds.length c6, .slice a7 W.ticks.length c7, .int .i64 W.now], .agg (wdC x y z u W.A.camera (.slice sa6 W.A.slots.length sc6) (.slice ga6 W.A.guides.length gc6) (.slice na6 W.A.nodes.length nc6) (.slice ra6 W.A.vers.length rc6) (.slice (some ⟨hg, 0, none⟩) W.hands.length hcap) (.slice ca W.calls.length cc) (.slice da W.deeds.length dc) (.slice ta W.ticks.length tc) W.now).toArray, vs 11, vs 0, vs 1, vs 2, vs 3, vs 4, vs 5, vs 6, vs 7, vs 8, vs 9, vs 10, vs 12, vs 13, undef, undef, undef, undef, undef, undef, undef, undef, undef, undef, undef, undef, undef, undef, undef, undef, undef, undef, undef, undef, undef, undef], defers := [] } := by
  rw [<- hl]
  kernel_rfl
 subst hA'
 rw [g12, g13, g14]
 clear hl hG g12 g13 g14
 have Hb8 := hb'.trans ((qz8 bh (hdC Rr) 0 V).below lbh hb'.size)
 have Y8 : (V.setCells bh 0 (hdC Rr)).rangeAt bh 0 (hdC Rr) := World.rangeAt_setCells_same V bh 0 (hdC Rr) Th
 have T8 : (V.setCells bh 0 (hdC Rr)).there bh 0 22 := World.there_setCells Th _ _ _
 have hy8 : bh < (V.setCells bh 0 (hdC Rr)).heap.size := Nat.lt_of_lt_of_le ubh (qz8 bh (hdC Rr) 0 V).size
 simp only [List.drop_succ_cons, List.drop_zero]
 refine wpList_store_mid rfl 27 (.tmp 13) (.tmp 42) rfl bh 0 (hdC Rr).toArray ?sx1 ?sy1 ?st1 (qza Rr) (qzf Rr) ?_
 case sx1 => rfl
 case sy1 => rfl
 case st1 => exact Th
 rw [List.toList_toArray]
 go_upto_region 5 with fail
 clear hb' Th ubh
 generalize V.setCells bh 0 (hdC Rr) = w8 at *
 have S8 := S7.below Hb8 (Nat.le_trans S7.lo (Nat.le_of_lt S7.hi))
 have O8 := OA.below Hb8
 have F8 := qz6 F5 S8.bel (by omega)
 have X8 := qz0 X7 Hb8 (by omega)
 have hlb : b9 < w7.heap.size := S7.hi
 have hfar : ∀ p, (Value.ownBlock (.slice (some ⟨hg, 0, none⟩) W.hands.length hcap) = some p ∨ Value.ownBlock (.slice ca W.calls.length cc) = some p ∨ Value.ownBlock (.slice da W.deeds.length dc) = some p ∨ Value.ownBlock (.slice ta W.ticks.length tc) = some p) -> p ≠ bh := by
  rintro p (e | e | e | e)
  ·have := qz2m S7.h e; omega
  ·have := qz2m S7.c e; omega
  ·have := qz2m S7.d e; omega
  ·have := qz2m S7.t e; omega
 have hfarA : ∀ p, OwnB (.slice sa6 W.A.slots.length sc6) (.slice ga6 W.A.guides.length gc6) (.slice na6 W.A.nodes.length nc6) (.slice ra6 W.A.vers.length rc6) p -> p ≠ bh := fun p hp => by have := OA.lt p hp; omega
 have F11' : ∀ wq, Below w5.heap.size w5 wq -> wq.there (w.heap.size + 1) 0 14 := fun wq hq => qz6 F5 hq (by omega)
 clear S7 OA F5 X5 X7 E5 E7 Hb8
 by_cases e0 : cd = 0
 case neg =>
  have b0 : (cd != 0) = true := by simp [e0]
  have e0' : Hid (cd ≠ 0) := e0
  clear e0
  go_upto_region 6 with fail
  have RR := S8.row
  go_wp2_with (first | (refine wpList_load_mid rfl 43 (.tmp 12) rfl b9 0 rfl [.int .i64 x, .int .i64 y, .int .i64 z, .int .i64 u, .int .i64 W.A.camera, .slice sa6 W.A.slots.length sc6, .slice ga6 W.A.guides.length gc6, .slice na6 W.A.nodes.length nc6, .slice ra6 W.A.vers.length rc6, .slice (some ⟨hg, 0, none⟩) W.hands.length hcap, .slice ca W.calls.length cc, .slice da W.deeds.length dc, .slice ta W.ticks.length tc, .int .i64 (W.now)] _ ?lfa Try.underlying43 rfl qzm ?_) | (refine wpList_store_mid rfl 43 (.tmp 10) (.tmp 46) rfl (w.heap.size + 1) 0 #[.int .i64 x, .int .i64 y, .int .i64 z, .int .i64 u, .int .i64 W.A.camera, .slice sa6 W.A.slots.length sc6, .slice ga6 W.A.guides.length gc6, .slice na6 W.A.nodes.length nc6, .slice ra6 W.A.vers.length rc6, .slice (some ⟨hg, 0, none⟩) W.hands.length hcap, .slice ca W.calls.length cc, .slice da W.deeds.length dc, .slice ta W.ticks.length tc, .int .i64 (W.now)] ?fxa ?fya ?fta qzm (by simp [Value.oneCell']) ?_))
  try (case lfa => exact RR)
  try (case fxa => rfl)
  try (case fya => rfl)
  try (case fta => exact F8)
  have hSW : askW x y z u W k h c q v = W := by
   unfold askW
   rw [hC.out, if_pos e0'.out]
  rw [hSW]
  refine bodyPost_ret (v := .tuple #[.agg #[.int .i64 x, .int .i64 y, .int .i64 z, .int .i64 u, .int .i64 W.A.camera, .slice sa6 W.A.slots.length sc6, .slice ga6 W.A.guides.length gc6, .slice na6 W.A.nodes.length nc6, .slice ra6 W.A.vers.length rc6, .slice (some ⟨hg, 0, none⟩) W.hands.length hcap, .slice ca W.calls.length cc, .slice da W.deeds.length dc, .slice ta W.ticks.length tc, .int .i64 (W.now)], .int .i64 cd]) ?_ rfl ⟨.slice sa6 W.A.slots.length sc6, .slice ga6 W.A.guides.length gc6, .slice na6 W.A.nodes.length nc6, .slice ra6 W.A.vers.length rc6, .slice (some ⟨hg, 0, none⟩) W.hands.length hcap, .slice ca W.calls.length cc, .slice da W.deeds.length dc, .slice ta W.ticks.length tc, cd, rfl, ?_, ?_⟩
  ·exact qzi Try.results92 _ _ (w.heap.size + 1) 0 rfl [.int .i64 x, .int .i64 y, .int .i64 z, .int .i64 u, .int .i64 W.A.camera, .slice sa6 W.A.slots.length sc6, .slice ga6 W.A.guides.length gc6, .slice na6 W.A.nodes.length nc6, .slice ra6 W.A.vers.length rc6, .slice (some ⟨hg, 0, none⟩) W.hands.length hcap, .slice ca W.calls.length cc, .slice da W.deeds.length dc, .slice ta W.ticks.length tc, .int .i64 (W.now)] _ (World.rangeAt_setCells_same _ _ _ _ F8) Try.underlying43 rfl qzm
  ·have hO := qz8 (w.heap.size + 1) [.int .i64 x, .int .i64 y, .int .i64 z, .int .i64 u, .int .i64 W.A.camera, .slice sa6 W.A.slots.length sc6, .slice ga6 W.A.guides.length gc6, .slice na6 W.A.nodes.length nc6, .slice ra6 W.A.vers.length rc6, .slice (some ⟨hg, 0, none⟩) W.hands.length hcap, .slice ca W.calls.length cc, .slice da W.deeds.length dc, .slice ta W.ticks.length tc, .int .i64 (W.now)] 0 w8
   have g1 := qz10 S8.h hO (fun j e => by have := qz1l S8.h e; omega)
   have g2 := qz10 S8.c hO (fun j e => by have := qz1l S8.c e; omega)
   have g3 := qz10 S8.d hO (fun j e => by have := qz1l S8.d e; omega)
   have g4 := qz10 S8.t hO (fun j e => by have := qz1l S8.t e; omega)
   exact ⟨(O8.only hO (by omega)).lo (by omega), by simpa using qz26 g1 (base' := w.heap.size) (by omega), by simpa using qz26 g2 (base' := w.heap.size) (by omega), by simpa using qz26 g3 (base' := w.heap.size) (by omega), by simpa using qz26 g4 (base' := w.heap.size) (by omega)⟩
  ·exact Below.setCells (by omega) _ _ _ (KK.trans (S8.bel.mono (by omega)))
 have b0 : (cd != 0) = false := by simp [e0]
 have e0' : Hid (cd = 0) := e0
 clear e0
 have x13 : w8.cell? ⟨w.heap.size, 13, none⟩ = some (.int .i64 W.now) := by simpa using X8 13 _ rfl
 by_cases e1 : W.now = 20000
 ·have b1 : (W.now == 20000) = true := by simp [e1]
  have e1' : Hid (W.now = 20000) := e1
  clear e1
  go_upto_region 8 with fail
  clear x13
  have RR := S8.row
  go_wp2_with (first | (refine wpList_load_mid rfl 43 (.tmp 12) rfl b9 0 rfl [.int .i64 x, .int .i64 y, .int .i64 z, .int .i64 u, .int .i64 W.A.camera, .slice sa6 W.A.slots.length sc6, .slice ga6 W.A.guides.length gc6, .slice na6 W.A.nodes.length nc6, .slice ra6 W.A.vers.length rc6, .slice (some ⟨hg, 0, none⟩) W.hands.length hcap, .slice ca W.calls.length cc, .slice da W.deeds.length dc, .slice ta W.ticks.length tc, .int .i64 (W.now)] _ ?lfb Try.underlying43 rfl qzm ?_) | (refine wpList_store_mid rfl 43 (.tmp 10) (.tmp 51) rfl (w.heap.size + 1) 0 #[.int .i64 x, .int .i64 y, .int .i64 z, .int .i64 u, .int .i64 W.A.camera, .slice sa6 W.A.slots.length sc6, .slice ga6 W.A.guides.length gc6, .slice na6 W.A.nodes.length nc6, .slice ra6 W.A.vers.length rc6, .slice (some ⟨hg, 0, none⟩) W.hands.length hcap, .slice ca W.calls.length cc, .slice da W.deeds.length dc, .slice ta W.ticks.length tc, .int .i64 (W.now)] ?fxb ?fyb ?ftb qzm (by simp [Value.oneCell']) ?_))
  try (case lfb => exact RR)
  try (case fxb => rfl)
  try (case fyb => rfl)
  try (case ftb => exact F8)
  have hSW : askW x y z u W k h c q v = W := by
   unfold askW
   rw [hC.out, if_neg (fun hh => hh e0'.out), if_pos e1'.out]
  rw [hSW]
  refine bodyPost_ret (v := .tuple #[.agg #[.int .i64 x, .int .i64 y, .int .i64 z, .int .i64 u, .int .i64 W.A.camera, .slice sa6 W.A.slots.length sc6, .slice ga6 W.A.guides.length gc6, .slice na6 W.A.nodes.length nc6, .slice ra6 W.A.vers.length rc6, .slice (some ⟨hg, 0, none⟩) W.hands.length hcap, .slice ca W.calls.length cc, .slice da W.deeds.length dc, .slice ta W.ticks.length tc, .int .i64 (W.now)], .int .i64 1]) ?_ rfl ⟨.slice sa6 W.A.slots.length sc6, .slice ga6 W.A.guides.length gc6, .slice na6 W.A.nodes.length nc6, .slice ra6 W.A.vers.length rc6, .slice (some ⟨hg, 0, none⟩) W.hands.length hcap, .slice ca W.calls.length cc, .slice da W.deeds.length dc, .slice ta W.ticks.length tc, 1, rfl, ?_, ?_⟩
  ·exact qzi Try.results92 _ _ (w.heap.size + 1) 0 rfl [.int .i64 x, .int .i64 y, .int .i64 z, .int .i64 u, .int .i64 W.A.camera, .slice sa6 W.A.slots.length sc6, .slice ga6 W.A.guides.length gc6, .slice na6 W.A.nodes.length nc6, .slice ra6 W.A.vers.length rc6, .slice (some ⟨hg, 0, none⟩) W.hands.length hcap, .slice ca W.calls.length cc, .slice da W.deeds.length dc, .slice ta W.ticks.length tc, .int .i64 (W.now)] _ (World.rangeAt_setCells_same _ _ _ _ F8) Try.underlying43 rfl qzm
  ·have hO := qz8 (w.heap.size + 1) [.int .i64 x, .int .i64 y, .int .i64 z, .int .i64 u, .int .i64 W.A.camera, .slice sa6 W.A.slots.length sc6, .slice ga6 W.A.guides.length gc6, .slice na6 W.A.nodes.length nc6, .slice ra6 W.A.vers.length rc6, .slice (some ⟨hg, 0, none⟩) W.hands.length hcap, .slice ca W.calls.length cc, .slice da W.deeds.length dc, .slice ta W.ticks.length tc, .int .i64 (W.now)] 0 w8
   have g1 := qz10 S8.h hO (fun j e => by have := qz1l S8.h e; omega)
   have g2 := qz10 S8.c hO (fun j e => by have := qz1l S8.c e; omega)
   have g3 := qz10 S8.d hO (fun j e => by have := qz1l S8.d e; omega)
   have g4 := qz10 S8.t hO (fun j e => by have := qz1l S8.t e; omega)
   exact ⟨(O8.only hO (by omega)).lo (by omega), by simpa using qz26 g1 (base' := w.heap.size) (by omega), by simpa using qz26 g2 (base' := w.heap.size) (by omega), by simpa using qz26 g3 (base' := w.heap.size) (by omega), by simpa using qz26 g4 (base' := w.heap.size) (by omega)⟩
  ·exact Below.setCells (by omega) _ _ _ (KK.trans (S8.bel.mono (by omega)))
 have b1 : (W.now == 20000) = false := by simp [e1]
 have hn0 := hP.nw
 have hnow : W.now < 20000 := by omega
 have e1' : Hid (W.now ≠ 20000) := e1
 clear e1
 have hnn0 := hn0.1
 go_upto_region 9 with fail
 have y13 := S8.cell 13 rfl
 have v13 := S8.free 13 (by decide)
 go_upto_region 10 with fail
 clear x13 y13 v13
 have S9 : Und w5.heap.size w5 (w8.setCell ⟨b9, 13, none⟩ (.int .i64 (W.now + 1))) b9 (.slice (some ⟨hg, 0, none⟩) W.hands.length hcap) (.slice ca W.calls.length cc) (.slice da W.deeds.length dc) (.slice ta W.ticks.length tc) W.hands W.calls W.deeds W.ticks [.int .i64 x, .int .i64 y, .int .i64 z, .int .i64 u, .int .i64 W.A.camera, .slice sa6 W.A.slots.length sc6, .slice ga6 W.A.guides.length gc6, .slice na6 W.A.nodes.length nc6, .slice ra6 W.A.vers.length rc6, .slice (some ⟨hg, 0, none⟩) W.hands.length hcap, .slice ca W.calls.length cc, .slice da W.deeds.length dc, .slice ta W.ticks.length tc, .int .i64 (W.now + 1)] := S8.put 13 (by simp) (.int .i64 (W.now + 1))
 have hO9 : Only b9 w8 (w8.setCell ⟨b9, 13, none⟩ (.int .i64 (W.now + 1))) := (Only.refl b9 w8).setCell (p := ⟨b9, 13, none⟩) (Or.inl rfl) _
 have O9 := O8.kept (But.of_only (S := fun p => p = b9) hO9 rfl) (fun p hp => (OB p hp).1)
 have Y9 := qz3 Y8 hO9 hy8 (by omega)
 have T9 := qz7 T8 hO9 hy8 (by omega)
 have hy9 := Nat.lt_of_lt_of_le hy8 hO9.size
 clear S8 O8 Y8 T8 hy8 hO9
 generalize w8.setCell ⟨b9, 13, none⟩ (.int .i64 (W.now + 1)) = w9 at *
 have y13 := S9.cell 13 rfl
 have z5 : w9.cell? ⟨bh, 5, none⟩ = some (.int .i64 Rr.begin) := by simpa using Y9 5 _ rfl
 have f5 : w9.frozen? ⟨bh, 5, none⟩ = false := by simpa using (T9 5 (by decide)).2
 go_upto_region 11 with fail
 clear y13 z5 f5
 have Y10 : (w9.setCell ⟨bh, 5, none⟩ (.int .i64 (W.now + 1))).rangeAt bh 0 (hdC { Rr with begin := W.now + 1 }) := qzc Y9 5 (by simp [hdC]) (.int .i64 (W.now + 1))
 have hO10 : Only bh w9 (w9.setCell ⟨bh, 5, none⟩ (.int .i64 (W.now + 1))) := (Only.refl bh w9).setCell (p := ⟨bh, 5, none⟩) (Or.inl rfl) _
 have hne10 : ∀ p, p < w7.heap.size -> p ≠ bh := fun p hp => by omega
 have S10 : Und w5.heap.size w5 (w9.setCell ⟨bh, 5, none⟩ (.int .i64 (W.now + 1))) b9 (.slice (some ⟨hg, 0, none⟩) W.hands.length hcap) (.slice ca W.calls.length cc) (.slice da W.deeds.length dc) (.slice ta W.ticks.length tc) W.hands W.calls W.deeds W.ticks [.int .i64 x, .int .i64 y, .int .i64 z, .int .i64 u, .int .i64 W.A.camera, .slice sa6 W.A.slots.length sc6, .slice ga6 W.A.guides.length gc6, .slice na6 W.A.nodes.length nc6, .slice ra6 W.A.vers.length rc6, .slice (some ⟨hg, 0, none⟩) W.hands.length hcap, .slice ca W.calls.length cc, .slice da W.deeds.length dc, .slice ta W.ticks.length tc, .int .i64 (W.now + 1)] :=
  ⟨qz3 S9.row hO10 S9.hi (by omega), qz7 S9.th hO10 S9.hi (by omega), S9.lo, Nat.lt_of_lt_of_le S9.hi hO10.size, qz10 S9.h hO10 (fun j e => hfar j (Or.inl e)), qz10 S9.c hO10 (fun j e => hfar j (Or.inr (Or.inl e))), qz10 S9.d hO10 (fun j e => hfar j (Or.inr (Or.inr (Or.inl e)))), qz10 S9.t hO10 (fun j e => hfar j (Or.inr (Or.inr (Or.inr e)))), S9.nh, S9.nc, S9.nd, S9.nt, S9.bel.trans (hO10.below (by omega) (Nat.le_trans S9.lo (Nat.le_of_lt S9.hi)))⟩
 have O10 := O9.kept (But.of_only (S := fun p => p = bh) hO10 rfl) (fun p hp => hfarA p hp)
 clear S9 O9 Y9 T9
 have hy10 := Nat.lt_of_lt_of_le hy9 hO10.size
 clear hO10
 generalize w9.setCell ⟨bh, 5, none⟩ (.int .i64 (W.now + 1)) = w10 at *
 have y9 := S10.cell 9 rfl
 have hk1 : (k : Int) < (W.hands.length : Int) := by omega
 have hk0 : (0 : Int) <= (k : Int) := by omega
 have T11 := qz92 S10.h (k * 22) 22 (by have := Nat.mul_le_mul_right 22 (Nat.succ_le_of_lt hk); rw [Nat.succ_mul] at this; omega)
 go_upto_region 12 with (first | (refine wpList_load_mid rfl 27 (.tmp 13) rfl bh 0 rfl (hdC { Rr with begin := W.now + 1 }) _ ?hc9 Try.underlying27 rfl (qz1 _) ?_) | (refine wpList_store_mid rfl 27 (.tmp 63) (.tmp 62) rfl hg (k * 22) (hdC { Rr with begin := W.now + 1 }).toArray ?ux9 ?uy9 ?ut9 (qza _) (qzf _) ?_))
 case hc9 => exact Y10
 try (case ux9 => first | rfl | simp)
 try (case uy9 => rfl)
 case ut9 => exact T11
 have S11 : Und w5.heap.size w5 (w10.setCells hg (k * 22) (hdC { Rr with begin := W.now + 1 })) b9 (.slice (some ⟨hg, 0, none⟩) W.hands.length hcap) (.slice ca W.calls.length cc) (.slice da W.deeds.length dc) (.slice ta W.ticks.length tc) (W.hands.set k { Rr with begin := W.now + 1 }) W.calls W.deeds W.ticks [.int .i64 x, .int .i64 y, .int .i64 z, .int .i64 u, .int .i64 W.A.camera, .slice sa6 W.A.slots.length sc6, .slice ga6 W.A.guides.length gc6, .slice na6 W.A.nodes.length nc6, .slice ra6 W.A.vers.length rc6, .slice (some ⟨hg, 0, none⟩) W.hands.length hcap, .slice ca W.calls.length cc, .slice da W.deeds.length dc, .slice ta W.ticks.length tc, .int .i64 (W.now + 1)] := by simpa using S10.hand k hk { Rr with begin := W.now + 1 }
 have O11 := O10.kept (But.of_only (S := fun p => p = hg) (qz8 hg (hdC { Rr with begin := W.now + 1 }) (k * 22) w10) rfl) (fun p hp => (OB p hp).2)
 clear S10 O10 y9 T11
 generalize w10.setCells hg (k * 22) (hdC { Rr with begin := W.now + 1 }) = w11 at *
 have F11 := F11' w11 S11.bel
 have RR := S11.row
 go_wp2_with (first | (refine wpList_load_mid rfl 43 (.tmp 12) rfl b9 0 rfl [.int .i64 x, .int .i64 y, .int .i64 z, .int .i64 u, .int .i64 W.A.camera, .slice sa6 W.A.slots.length sc6, .slice ga6 W.A.guides.length gc6, .slice na6 W.A.nodes.length nc6, .slice ra6 W.A.vers.length rc6, .slice (some ⟨hg, 0, none⟩) W.hands.length hcap, .slice ca W.calls.length cc, .slice da W.deeds.length dc, .slice ta W.ticks.length tc, .int .i64 (W.now + 1)] _ ?lfc Try.underlying43 rfl qzm ?_) | (refine wpList_store_mid rfl 43 (.tmp 10) (.tmp 64) rfl (w.heap.size + 1) 0 #[.int .i64 x, .int .i64 y, .int .i64 z, .int .i64 u, .int .i64 W.A.camera, .slice sa6 W.A.slots.length sc6, .slice ga6 W.A.guides.length gc6, .slice na6 W.A.nodes.length nc6, .slice ra6 W.A.vers.length rc6, .slice (some ⟨hg, 0, none⟩) W.hands.length hcap, .slice ca W.calls.length cc, .slice da W.deeds.length dc, .slice ta W.ticks.length tc, .int .i64 (W.now + 1)] ?fxc ?fyc ?ftc qzm (by simp [Value.oneCell']) ?_))
 try (case lfc => exact RR)
 try (case fxc => rfl)
 try (case fyc => rfl)
 try (case ftc => exact F11)
 have hSW : askW x y z u W k h c q v = { W with hands := W.hands.set k { Rr with begin := W.now + 1 }, now := W.now + 1 } := by
  unfold askW
  rw [hC.out, hR.out, if_neg (fun hh => hh e0'.out), if_neg e1'.out]
 rw [hSW]
 refine bodyPost_ret (v := .tuple #[.agg #[.int .i64 x, .int .i64 y, .int .i64 z, .int .i64 u, .int .i64 W.A.camera, .slice sa6 W.A.slots.length sc6, .slice ga6 W.A.guides.length gc6, .slice na6 W.A.nodes.length nc6, .slice ra6 W.A.vers.length rc6, .slice (some ⟨hg, 0, none⟩) W.hands.length hcap, .slice ca W.calls.length cc, .slice da W.deeds.length dc, .slice ta W.ticks.length tc, .int .i64 (W.now + 1)], .int .i64 cd]) ?_ rfl ⟨.slice sa6 W.A.slots.length sc6, .slice ga6 W.A.guides.length gc6, .slice na6 W.A.nodes.length nc6, .slice ra6 W.A.vers.length rc6, .slice (some ⟨hg, 0, none⟩) W.hands.length hcap, .slice ca W.calls.length cc, .slice da W.deeds.length dc, .slice ta W.ticks.length tc, cd, rfl, ?_, ?_⟩
 ·exact qzi Try.results92 _ _ (w.heap.size + 1) 0 rfl [.int .i64 x, .int .i64 y, .int .i64 z, .int .i64 u, .int .i64 W.A.camera, .slice sa6 W.A.slots.length sc6, .slice ga6 W.A.guides.length gc6, .slice na6 W.A.nodes.length nc6, .slice ra6 W.A.vers.length rc6, .slice (some ⟨hg, 0, none⟩) W.hands.length hcap, .slice ca W.calls.length cc, .slice da W.deeds.length dc, .slice ta W.ticks.length tc, .int .i64 (W.now + 1)] _ (World.rangeAt_setCells_same _ _ _ _ F11) Try.underlying43 rfl qzm
 ·have hO := qz8 (w.heap.size + 1) [.int .i64 x, .int .i64 y, .int .i64 z, .int .i64 u, .int .i64 W.A.camera, .slice sa6 W.A.slots.length sc6, .slice ga6 W.A.guides.length gc6, .slice na6 W.A.nodes.length nc6, .slice ra6 W.A.vers.length rc6, .slice (some ⟨hg, 0, none⟩) W.hands.length hcap, .slice ca W.calls.length cc, .slice da W.deeds.length dc, .slice ta W.ticks.length tc, .int .i64 (W.now + 1)] 0 w11
  have g1 := qz10 S11.h hO (fun j e => by have := qz1l S11.h e; omega)
  have g2 := qz10 S11.c hO (fun j e => by have := qz1l S11.c e; omega)
  have g3 := qz10 S11.d hO (fun j e => by have := qz1l S11.d e; omega)
  have g4 := qz10 S11.t hO (fun j e => by have := qz1l S11.t e; omega)
  exact ⟨(O11.only hO (by omega)).lo (by omega), by simpa using qz26 g1 (base' := w.heap.size) (by omega), by simpa using qz26 g2 (base' := w.heap.size) (by omega), by simpa using qz26 g3 (base' := w.heap.size) (by omega), by simpa using qz26 g4 (base' := w.heap.size) (by omega)⟩
 ·exact Below.setCells (by omega) _ _ _ (KK.trans (S11.bel.mono (by omega)))
end
section
structure WInv (x y z u : Int) (W : Wd) : Prop where
 ar : ArP x y z u W.A
 ax : AX W.A
 hl : (W.hands.length : Int) = x
 hp : ∀ i (h : i < W.hands.length), HP W.A W.hands[i]
 pv : ∀ i (hi : i < W.hands.length), Priv W.hands[i] -> qz8a W.A W.hands[i].new_ /\ ∀ j (hj : j < W.hands.length), Far W.hands[j] W.hands[i].new_ /\ (j ≠ i -> W.hands[j].new_ ≠ W.hands[i].new_)
 nw : 0 <= W.now /\ W.now <= 20000
 cl : (W.calls.length : Int) <= W.now
 cp : ∀ c ∈ W.calls, ClP x c
 dn : W.deeds.length <= stN W.A
 dp : ∀ d ∈ W.deeds, qzct d = true
 tl : (W.ticks.length : Int) = W.A.camera
 tk : ∀ t ∈ W.ticks, 0 <= t /\ t <= W.now
 ti : ∀ i (h : i + 1 < W.ticks.length), W.ticks[i] < W.ticks[i + 1]
theorem WInv.plan {x y z u : Int} {W : Wd} (V : WInv x y z u W) : (1 <= x /\ x <= 8) /\ (1 <= y /\ y <= 60) /\ (1 <= z /\ z <= 400) /\ (1 <= u /\ u <= 8) := (qz28 x y z u).1 V.ar.pl
theorem WInv.right {x y z u : Int} {W : Wd} (V : WInv x y z u W) (hn : W.now <= 4000) : WdP x y z u W := by
 have hp := V.plan
 have hv := V.ar.vl
 have hs := qzcx W.A
 have hd := V.dn
 have hc := V.cl
 refine ⟨(qz8z x y z u W.A).2 V.ar, V.hl, by omega, by omega, V.tl, V.nw, fun i h => ⟨(V.hp i h).hand V.ar, (V.hp i h).knows V.ar⟩, fun i h => V.cp _ (List.getElem_mem h), fun i h => V.dp _ (List.getElem_mem h), fun i h => ?_, V.ti⟩
 have := V.tk _ (List.getElem_mem h)
 have := V.nw
 exact (qz1b _ _ _).2 (by omega)
theorem WInv.small {x y z u : Int} {W : Wd} (V : WInv x y z u W) : W.size <= 1000000 := by
 have hp := V.plan
 have h1 := V.ar.sl
 have h2 := V.ar.gl
 have h3 := V.ar.nl
 have h4 := V.ar.vl
 have h5 := V.hl
 have h6 := V.cl
 have h7 := V.nw
 have h8 := V.dn
 have h9 := qzcx W.A
 have h10 := V.tl
 have h11 := V.ar.cam
 unfold Wd.size Ar.size
 omega
theorem WInv.ready {x y z u : Int} {W : Wd} (V : WInv x y z u W) {k : Nat} (hk : k < W.hands.length) : qza3 W.A W.hands[k] (k : Int) :=
 qzco ((qz8z x y z u W.A).2 V.ar) ((V.hp k hk).hand V.ar) ((V.hp k hk).knows V.ar) (by omega) (by have := V.hl; omega)
theorem WInv.step {x y z u : Int} {W : Wd} (V : WInv x y z u W) {k : Nat} (hk : k < W.hands.length) (h1 : 1 <= W.hands[k].at_) (hn : W.now < 20000) : WInv x y z u (qz7e x y z u W k W.hands[k]) := by
 have hnw := V.nw
 have hpl := V.plan
 have S := qzd2 V.ar V.ax (V.hp k hk) (fun p => (V.pv k hk p).1) (k : Int) (W.now + 1) (by omega) h1
 have Hk := V.hp k hk
 have hcall := Hk.call (by omega)
 have hpv := V.pv
 have hhp := V.hp
 unfold qz7e
 obtain ⟨As, Hn, En, Tn, hS⟩ : ∃ As Hn En Tn, qz15 x y z u W.A W.hands[k] qz3j false (k : Int) (W.now + 1) = (As, Hn, En, Tn) := ⟨_, _, _, _, rfl⟩
 rw [hS] at S ⊢
 dsimp only at S ⊢
 have hother : ∀ j (hj : j < W.hands.length), HP As W.hands[j] := fun j hj => (V.hp j hj).stay S.nn S.nv S.kinds
 refine ⟨S.ar, S.ax, by simpa using V.hl, ?_, ?_, by dsimp only; omega, ?_, ?_, ?_, ?_, ?_, ?_, ?_⟩
 ·intro i hi
  have hi' : i < W.hands.length := by simpa using hi
  simp only [List.getElem_set]
  split
  ·exact S.hp
  ·exact hother i hi'
 ·intro i hi p
  have hi' : i < W.hands.length := by simpa using hi
  simp only [List.getElem_set] at p ⊢
  by_cases hik : k = i
  ·rw [if_pos hik] at p ⊢
   subst hik
   rcases S.new with ⟨hns, hpr⟩ | ⟨hnew, hun, hfar⟩
   ·have hp0 := hpr p
    have hne : Hn.new_ = W.hands[k].new_ := by
     have := p.1
     rcases hns with e | e <;> omega
    obtain ⟨U, O⟩ := hpv k hk hp0
    have hk3 := Hk.k3
    have hnp := hp0.1
    rw [hne]
    refine ⟨S.lone _ hnp hk3.2 U (O k hk).1 (fun _ => p), fun j hj => ?_⟩
    have hj' : j < W.hands.length := by simpa using hj
    split
    ·rename_i e
     exact ⟨S.far _ hnp hk3.2 U (O k hk).1, fun hh => absurd e.symm hh⟩
    ·rename_i e
     exact ⟨(O j hj').1, fun hh => (O j hj').2 hh⟩
   ·refine ⟨hun, fun j hj => ?_⟩
    have hj' : j < W.hands.length := by simpa using hj
    split
    ·rename_i e
     exact ⟨hfar, fun hh => absurd e.symm hh⟩
    ·have Hj := hhp j hj'
     have q0 := Hj.k0
     have q1 := Hj.k1
     have q2 := Hj.k2
     have q3 := Hj.k3
     rw [hnew]
     exact ⟨⟨by omega, by omega, fun e => by omega⟩, fun _ => by omega⟩
  ·rw [if_neg hik] at p ⊢
   obtain ⟨U, O⟩ := hpv i hi' p
   have q3 := (hhp i hi').k3
   have hnp := p.1
   have hkn : W.hands[k].new_ ≠ W.hands[i].new_ := (O k hk).2 hik
   have hfk := (O k hk).1
   refine ⟨S.lone _ hnp q3.2 U hfk (fun e => absurd e hkn), fun j hj => ?_⟩
   have hj' : j < W.hands.length := by simpa using hj
   split
   ·refine ⟨S.far _ hnp q3.2 U hfk, fun _ => ?_⟩
    rcases S.new with ⟨hns, _⟩ | ⟨hnew, _, _⟩
    ·rcases hns with e | e
     ·rw [e]; exact hkn
     ·omega
    ·omega
   ·exact O j hj'
 ·have := V.cl
  split
  ·simp; omega
  ·dsimp only; omega
 ·intro c hc
  have hcp := V.cp
  dsimp only at hc
  split at hc
  ·rcases List.mem_append.1 hc with h | h
   ·exact hcp c h
   ·have he : c = qz5s k W.hands[k] Hn (W.now + 1) := by simpa using h
    subst he
    have g3 := S.hp.f3
    have g9 := S.hp.f9
    have g10 := S.hp.f10
    have g6 := Hk.f6
    have g11 := Hk.f11
    have := V.hl
    exact ⟨(qz1b _ _ _).2 (by simp only [qz5s]; omega), hcall, (qz1b _ _ _).2 g6, (qz1b _ _ _).2 (by simp only [qz5s]; omega), (qz1b _ _ _).2 g3, (qz1b _ _ _).2 g9, (qz1b _ _ _).2 g10, (qz1b _ _ _).2 (by simp only [qz5s]; omega)⟩
  ·exact hcp c hc
 ·have := V.dn
  have hc := S.cnt
  dsimp only
  split
  ·rename_i e
   rw [if_pos e] at hc
   simp; omega
  ·rename_i e
   rw [if_neg e] at hc
   omega
 ·intro d hd
  have hdp := V.dp
  dsimp only at hd
  split at hd
  ·rename_i e
   rcases List.mem_append.1 hd with h | h
   ·exact hdp d h
   ·have he : d = En := by simpa using h
    subst he
    exact S.deed e
  ·exact hdp d hd
 ·have := V.tl
  have hc := S.cam
  dsimp only
  cases Tn <;> simp at hc ⊢ <;> omega
 ·intro t ht
  have htk := V.tk
  dsimp only at ht
  split at ht
  ·rcases List.mem_append.1 ht with h | h
   ·have := htk t h; dsimp only; omega
   ·have he : t = W.now + 1 := by simpa using h
    subst he
    dsimp only
    omega
  ·have := htk t ht; dsimp only; omega
 ·intro i hi
  have hti := V.ti
  have htk := V.tk
  by_cases e : Tn = true
  ·simp only [e, if_true] at hi ⊢
   have hl : i + 1 < W.ticks.length + 1 := by simpa using hi
   rcases Nat.lt_or_ge (i + 1) W.ticks.length with h | h
   ·rw [List.getElem_append_left (by omega), List.getElem_append_left (by omega)]
    exact hti i h
   ·rw [List.getElem_append_left (by omega), List.getElem_append_right (by omega)]
    have := htk _ (List.getElem_mem (l := W.ticks) (n := i) (by omega))
    simp
    omega
  ·simp only [e] at hi ⊢
   exact hti i hi
theorem WInv.ask {x y z u : Int} {W : Wd} (V : WInv x y z u W) {k : Nat} (hk : k < W.hands.length) (c q v : Int) : WInv x y z u (askW x y z u W k W.hands[k] c q v) := by
 have hnw := V.nw
 have Hk := V.hp k hk
 unfold askW
 split
 ·exact V
 ·rename_i e0
  have e0 : qz1f x y z u W.hands[k] c q v = 0 := Decidable.not_not.1 e0
  split
  ·exact V
  ·rename_i e1
   obtain ⟨_, hat, hfit, _, _⟩ := qz48 e0
   have hR : qz1n x y z u W.hands[k] c q v = qz1h W.hands[k] c q v := by simp [qz1n, e0]
   rw [hR]
   generalize hh : ({ qz1h W.hands[k] c q v with begin := W.now + 1 } : Hd) = h'
   have hcc := qz44 hfit
   have hnl := V.ar.nl
   have hvl := V.ar.vl
   have hkey : -1 <= q /\ q <= 63 /\ 0 <= v /\ v <= 9999 := by
    unfold qz2c at hfit
    repeat' split at hfit
    all_goals (first | cases hfit | (simp only [Bool.and_eq_true, qz1b, beq_iff_eq] at hfit; omega))
   have f11 := Hk.f11
   have hH : HP W.A h' := by
    subst hh
    have ha : 0 <= qz9v c /\ qz9v c <= 23 /\ qz9v c ≠ 8 /\ qz9v c ≠ 9 /\ qz9v c ≠ 11 /\ qz9v c ≠ 6 /\ ¬ (3 <= qz9v c /\ qz9v c <= 5) /\ 0 <= qz6v c /\ qz6v c <= 7 := by
     rcases hcc with rfl | rfl | rfl | rfl | rfl | rfl | rfl | rfl <;> decide
    constructor <;> simp only [qz1h] <;> first | omega | (intro _; exact hfit)
   have hnew : h'.new_ = -1 := by subst hh; rfl
   have hfar : ∀ n : Int, 1 <= n -> Far h' n := fun n hn => by
    subst hh
    exact ⟨by simp only [qz1h]; omega, by simp only [qz1h]; omega, by simp only [qz1h]; omega⟩
   have hpv := V.pv
   refine ⟨V.ar, V.ax, by simpa using V.hl, ?_, ?_, by dsimp only; omega, by have := V.cl; dsimp only; omega, V.cp, V.dn, V.dp, V.tl, fun t ht => by have := V.tk t ht; dsimp only; omega, V.ti⟩
   ·intro i hi
    have hi' : i < W.hands.length := by simpa using hi
    simp only [List.getElem_set]
    split
    ·exact hH
    ·exact V.hp i hi'
   ·intro i hi p
    have hi' : i < W.hands.length := by simpa using hi
    simp only [List.getElem_set] at p ⊢
    by_cases hik : k = i
    ·rw [if_pos hik] at p
     have := p.1
     omega
    ·rw [if_neg hik] at p ⊢
     obtain ⟨U, O⟩ := hpv i hi' p
     have hnp := p.1
     refine ⟨U, fun j hj => ?_⟩
     have hj' : j < W.hands.length := by simpa using hj
     split
     ·exact ⟨hfar _ hnp, fun _ => by omega⟩
     ·exact O j hj'
theorem qz9k (x y z u : Int) (W : Wd) (k : Nat) (h : Hd) (c q v : Int) : (askW x y z u W k h c q v).A = W.A := by
 unfold askW
 split
 ·rfl
 ·split <;> rfl
theorem qzcd (x y z u : Int) (W : Wd) (k : Nat) (h : Hd) (c q v : Int) : (askW x y z u W k h c q v).now <= W.now + 1 := by
 unfold askW
 split
 ·omega
 ·split
  ·omega
  ·exact Int.le_refl _
end
end Go.Proofs.Ytclkglkhhnapiaa
