/-
  What the law's proof goes by, part 3.
-/
import Derived.Test.YtknncnaikeinbaaGreatRows
import Derived.WalkKit
import Derived.ProofKit
import Derived.Below
import Derived.Deep.MidRow
import Derived.Deep.Cut
import Derived.Test.YtknncnaikeinbaaGreatSealStepB
namespace Go.Proofs.YtknncnaikeinbaaGreat
open Go.ChangeShapes Go.WideShapes Go.ChangeAt Go.RowKit
set_option maxRecDepth 100000
set_option maxHeartbeats 16000000
set_option linter.unusedVariables false
set_option linter.unusedSimpArgs false
set_option linter.unnecessarySimpa false
set_option linter.unusedSectionVars false
section
theorem qz1l {P : Program} {ops : Array Oper} {md : Region.Mode} {Q : Exit -> Act -> World -> Prop} (c : Nat) : ∀ (l : List Oper) (n : Nat) (listed : Array Bool) (a : Act) (w : World), (∀ j, l[j]? = ops[n + j]?) -> qz3m md ops l.length n listed = true -> wpList P ops Q l a w -> wpAny P md ops Q (l.length + c) listed a w
 | [], _, listed, a, w, _, hB, h => by
  have h0 : Region.ready md ops listed = [] := by simpa [qz3m] using hB
  exact wpAny_done h0 h _
 | o :: l, n, listed, a, w, hl, hB, h => by
  have h0 : ops[n]? = some o := by simpa using (hl 0).symm
  simp only [List.length_cons, qz3m, Bool.and_eq_true] at hB
  obtain ⟨hr, hB'⟩ := hB
  have hr' : Region.ready md ops listed = [n] := by simpa using hr
  have ih := fun a w => qz1l (P := P) (Q := Q) c l (n + 1) (listed.setIfInBounds n true) a w (fun j => by have := hl (j + 1); simpa [Nat.add_assoc, Nat.add_comm 1 j] using this) hB'
  rw [show (o :: l).length + c = (l.length + c) + 1 by simp; omega]
  refine wpAny_all hr' (by simp) (fun i hi => ?_)
  obtain rfl := List.mem_singleton.1 hi
  unfold wpOp
  unfold wpList at h
  simp only [h0]
  split
  ·rename_i hwd
   rw [if_pos hwd] at h
   rcases h with h | h
   ·exact .inl (Oper.wp_mono ih h)
   ·exact .inr h
  ·rename_i hwd
   rw [if_neg hwd] at h
   exact ih _ _ h
theorem qz3p (a : Array Bool) (i : Nat) (h : i < a.size) : a[i] = a.getD i false := by simp [h]
theorem qz4c {listed : Array Bool} {k m i : Nat} (hs : listed.size = k + m) (ht : ∀ j, k <= j -> listed.getD j false = false) (hi : i < k) (hu : listed.getD i false = false) : m + 1 <= qz3r listed := by
 unfold qz3r
 rw [<- List.take_append_drop k listed.toList, List.count_append]
 have h1 : (listed.toList.drop k).count false = m := by
  rw [List.count_eq_length.2]
  ·simp [hs]
  ·intro b hb
   obtain ⟨j, hj, rfl⟩ := List.getElem_of_mem hb
   have h2 := ht (k + j) (by omega)
   simp at hj
   have h3 : k + j < listed.size := by omega
   simp [h3] at h2
   simp [h2]
 have h2 : 0 < (listed.toList.take k).count false := by
  apply List.count_pos_iff.2
  have h3 : i < listed.size := by omega
  have h4 : listed[i] = false := by simpa [h3] using hu
  rw [<- h4]
  apply List.mem_iff_getElem.2
  exact ⟨i, by simp; omega, by simp⟩
 omega
def qzbr (ops : Array Oper) (k m : Nat) : Bool := (ops.size == k + m) && qz8c .any ops k && qz3m .any ops m k (qz3j k 0 (Array.replicate ops.size false))
theorem qz20 {P : Program} {l : List Oper} {Q : Exit -> Act -> World -> Prop} {id : Nat} {a0 : Act} {w0 : World} (k : Nat) (hm : P.follows .mixedOrders = true)
  (G : Nat -> Value -> World -> Prop) (fresh : Nat -> Bool) (hT : qzbr l.toArray k (l.length - k) = true) (hL : qzax l.toArray = true) (hBk : qzbp l.toArray = true) (hg : (l.take k).all (fun o => o.guard.isNone) = true)
  (hdst0 : dstB l.toArray a0.tmps.size = true)
  (mono : ∀ i v w w', w0.heap.size <= w.heap.size -> G i v w -> Below w.heap.size w w' -> G i v w')
  (blk : ∀ i v w b, fresh i = true -> G i v w -> qz2y v = some b -> b < w.heap.size)
  (step : ∀ (i : Nat) (o : Oper), i < k -> l[i]? = some o -> ∀ (a : Act) (w : World), Below w0.heap.size w0 w -> (∀ t, qz7h l.toArray t = true -> a.eval (.tmp t) = a0.tmps.getD t undef) ->
   (∀ e ∈ o.after, Region.binds .any e = true -> ∀ d, qz27 l.toArray e.on = some d -> G e.on (a.eval (.tmp d)) w) ->
   ∀ K : Act -> World -> Prop, (∀ v w', G i v w' -> Below w.heap.size w w' -> (fresh i = true -> ∀ b, qz2y v = some b -> w.heap.size <= b) -> K (a.put o.dst v) w') -> o.wp P a w K Q)
  (final : ∀ vs w', Below w0.heap.size w0 w' -> (∀ i, i < k -> G i (vs i) w') ->
   (∀ i j b, i < k -> j < k -> i ≠ j -> fresh i = true -> fresh j = true -> qz2y (vs i) = some b -> qz2y (vs j) ≠ some b) ->
   wpList P l.toArray Q (l.drop k) (laid l.toArray vs (qz3j k 0 (Array.replicate l.toArray.size false)) (List.range l.toArray.size) a0) w') :
  (Code.region id l.toArray true).wp P Q a0 w0 := by
 have hdst := qz9u hdst0
 have L := qz6o hL
 have hBack : ∀ i, i < k -> ∀ o, l.toArray[i]? = some o -> ∀ e ∈ o.after, e.on < i := fun i _ o ho => qz9h hBk i o ho
 simp only [qzbr, Bool.and_eq_true, beq_iff_eq] at hT
 obtain ⟨⟨hkm, hw⟩, hseq⟩ := hT
 have hsl : l.toArray.size = l.length := by simp
 have hkl : k <= l.length := by omega
 refine wp_region_any hm ?_
 have key : ∀ (c : Nat) (listed : Array Bool) (vs : Nat -> Value) (w : World), qz3r listed <= c + (l.length - k) -> listed.size = l.toArray.size -> qz45 .any l.toArray listed -> (∀ j, k <= j -> listed.getD j false = false) -> Below w0.heap.size w0 w ->
   (∀ i, i < l.toArray.size -> listed.getD i false = true -> G i (vs i) w) ->
   (∀ i j b, i < l.toArray.size -> j < l.toArray.size -> i ≠ j -> listed.getD i false = true -> listed.getD j false = true -> fresh i = true -> fresh j = true -> qz2y (vs i) = some b -> qz2y (vs j) ≠ some b) ->
   wpAny P .any l.toArray Q (c + (l.length - k)) listed (laid l.toArray vs listed (List.range l.toArray.size) a0) w := by
  intro c
  induction c with
  | zero =>
   intro listed vs w hf hs hc htail hb hG hD
   by_cases hall : ∀ i, i < k -> listed.getD i false = true
   ·have he : listed = qz3j k 0 (Array.replicate l.toArray.size false) := by
     apply Array.ext
     ·rw [qz21, hs]; simp
     ·intro i h1 h2
      have g := qz2j k 0 (Array.replicate l.toArray.size false) i (by simp; omega)
      have g1 : (qz3j k 0 (Array.replicate l.toArray.size false))[i] = (qz3j k 0 (Array.replicate l.toArray.size false)).getD i false := qz3p _ _ h2
      have g2 : listed[i] = listed.getD i false := by simp [h1]
      rw [g1, g2, g]
      by_cases c : i < k
      ·rw [if_pos (by omega), hall i c]
      ·have hio : i < l.length := by omega
       rw [if_neg (by omega), htail i (by omega)]
       simp [hio]
    have hfin := final vs w hb (fun i hi => hG i (by omega) (hall i hi)) (fun i j b hi hj hij => hD i j b (by omega) (by omega) hij (hall i hi) (hall j hj))
    rw [<- he] at hfin
    have := qz1l (P := P) (md := .any) (Q := Q) 0 (l.drop k) k listed _ w (fun j => by simp) (by rw [he]; simpa using hseq) hfin
    simpa using this
   ·exfalso
    simp only [Classical.not_forall] at hall
    obtain ⟨i, hi, hu⟩ := hall
    have := qz4c (m := l.length - k) (by omega) htail hi (by simpa using hu)
    omega
  | succ c ih =>
   intro listed vs w hf hs hc htail hb hG hD
   by_cases hall : ∀ i, i < k -> listed.getD i false = true
   ·have he : listed = qz3j k 0 (Array.replicate l.toArray.size false) := by
     apply Array.ext
     ·rw [qz21, hs]; simp
     ·intro i h1 h2
      have g := qz2j k 0 (Array.replicate l.toArray.size false) i (by simp; omega)
      have g1 : (qz3j k 0 (Array.replicate l.toArray.size false))[i] = (qz3j k 0 (Array.replicate l.toArray.size false)).getD i false := qz3p _ _ h2
      have g2 : listed[i] = listed.getD i false := by simp [h1]
      rw [g1, g2, g]
      by_cases c : i < k
      ·rw [if_pos (by omega), hall i c]
      ·have hio : i < l.length := by omega
       rw [if_neg (by omega), htail i (by omega)]
       simp [hio]
    have hfin := final vs w hb (fun i hi => hG i (by omega) (hall i hi)) (fun i j b hi hj hij => hD i j b (by omega) (by omega) hij (hall i hi) (hall j hj))
    rw [<- he] at hfin
    have := qz1l (P := P) (md := .any) (Q := Q) (c + 1) (l.drop k) k listed _ w (fun j => by simp) (by rw [he]; simpa using hseq) hfin
    rw [show c + 1 + (l.length - k) = (l.drop k).length + (c + 1) by simp; omega]
    exact this
   simp only [Classical.not_forall] at hall
   obtain ⟨i1, hi1, hu1⟩ := hall
   have hu1' : listed.getD i1 false = false := by simpa using hu1
   have hu1'' : listed.getD i1 true = false := by
    have : i1 < listed.size := by omega
    simpa [this] using hu1'
   have hex : ∃ i, i < k /\ i ∈ Region.ready .any l.toArray listed := by
    apply Classical.byContradiction
    intro hno
    have : ∀ n i, i < n -> i < k -> listed.getD i false = true := by
     intro n
     induction n with
     | zero => intro i hi; omega
     | succ n ihn =>
      intro i hi hik
      rcases Nat.lt_or_ge i n with h | h
      ·exact ihn i h hik
      ·have hin : i = n := by omega
       subst hin
       cases hq : listed.getD i false with
       | true => rfl
       | false =>
        exfalso
        apply hno
        refine ⟨i, hik, mem_ready.2 ⟨?_, ?_⟩⟩
        ·have : i < listed.size := by omega
         simpa [this] using hq
        ·have hil : i < l.toArray.size := by omega
         refine ⟨l.toArray[i], by simp, fun e he hbd => ?_⟩
         exact ihn e.on (hBack i hik _ (by simp) e he) (Nat.lt_trans (hBack i hik _ (by simp) e he) hik)
    have h9 := this (i1 + 1) i1 (by omega) hi1
    rw [hu1'] at h9
    cases h9
   rw [show c + 1 + (l.length - k) = (c + (l.length - k)) + 1 by omega]
   obtain ⟨i0, hi0, hr0⟩ := hex
   refine ⟨fun h0 => (by rw [h0] at hr0; cases hr0), ?_⟩
   intro i hi
   have hik := qz3b hw hc hi1 hu1'' hi
   obtain ⟨h0, o, ho, hall⟩ := mem_ready.1 hi
   have hi' : i < l.toArray.size := (Array.getElem?_eq_some_iff.1 ho).1
   have hlt : i < listed.size := by omega
   have h1 : listed.getD i false = false := by simpa [hlt] using h0
   have ho' : l[i]? = some o := by simpa using ho
   have hguard : o.guard = none := by
    have := (List.all_eq_true.1 hg) o (List.mem_of_getElem? (i := i) (by rw [List.getElem?_take]; simp [hik, ho']))
    simpa using this
   have hnd : (List.range l.toArray.size).Nodup := List.nodup_range
   have hlt' : ∀ e ∈ o.after, Region.binds .any e = true -> ∀ d, qz27 l.toArray e.on = some d -> e.on < l.toArray.size /\ listed.getD e.on false = true /\ (laid l.toArray vs listed (List.range l.toArray.size) a0).eval (.tmp d) = vs e.on := by
    intro e he hbd d hd
    have hel := hall e he hbd
    have hes : e.on < l.toArray.size := by
     rcases Nat.lt_or_ge e.on l.toArray.size with h | h
     ·exact h
     ·simp only [qz27, Array.getElem?_eq_none h] at hd
      cases hd
    exact ⟨hes, hel, qz3t L vs listed e.on d hd hel _ _ hnd (List.mem_range.2 hes) (hdst _ _ hd)⟩
   have hstep := step i o hik ho' (laid l.toArray vs listed (List.range l.toArray.size) a0) w hb
    (fun t ht => qz1s l.toArray vs listed t _ _ (fun k _ => qz58 ht k))
    (fun e he hbd d hd => by
     obtain ⟨h2, h3, h4⟩ := hlt' e he hbd d hd
     rw [h4]
     exact hG e.on h2 h3)
   have hwn : Region.wanted o (yielded l.toArray (laid l.toArray vs listed (List.range l.toArray.size) a0).tmps) = true := by simp [Region.wanted, hguard]
   unfold wpOp
   simp only [ho, hwn, if_true]
   refine Or.inl (hstep _ ?_)
   intro v w' hGi hb' hfr
   have hd' : o.dst = qz27 l.toArray i := by simp only [qz27, ho, Option.bind_some]
   rw [hd', qz3n L vs listed i v hlt h1 _ _ hnd (List.mem_range.2 hi')]
   have hsz := hb.size
   refine ih _ _ _ (by have := qz2e hlt h1; omega) (by simpa using hs) (hc.set hi) (fun j hj => by rw [getD_set_ne false (by omega)]; exact htail j hj) (hb.trans (hb'.mono hsz)) ?_ ?_
   ·intro j hj hjl
    by_cases hji : j = i
    ·subst hji
     simp only [upd, if_true]
     exact hGi
    ·rw [getD_set_ne false (Ne.symm hji)] at hjl
     simp only [upd, hji, if_false]
     exact mono j _ w w' hsz (hG j hj hjl) hb'
   ·intro j k b hj hk hjk hjl hkl hfj hfk hbj hbk
    by_cases hji : j = i
    ·subst hji
     have hkj : k ≠ j := Ne.symm hjk
     rw [getD_set_ne false hjk] at hkl
     simp only [upd, if_true] at hbj
     simp only [upd, hkj, if_false] at hbk
     have h2 := hfr hfj b hbj
     have h3 := blk k _ w b hfk (hG k hk hkl) hbk
     omega
    ·rw [getD_set_ne false (Ne.symm hji)] at hjl
     simp only [upd, hji, if_false] at hbj
     by_cases hki : k = i
     ·subst hki
      simp only [upd, if_true] at hbk
      have h2 := hfr hfk b hbk
      have h3 := blk j _ w b hfj (hG j hj hjl) hbj
      omega
     ·rw [getD_set_ne false (Ne.symm hki)] at hkl
      simp only [upd, hki, if_false] at hbk
      exact hD j k b hj hk hjk hjl hkl hfj hfk hbj hbk
 have hgf : ∀ i, (Array.replicate l.toArray.size false).getD i false = false := by
  intro i
  rcases Nat.lt_or_ge i l.toArray.size with h | h
  ·simp at h; simp [h]
  ·simp at h; simp [h]
 have h0 : laid l.toArray (fun _ => undef) (Array.replicate l.toArray.size false) (List.range l.toArray.size) a0 = a0 := by
  have : ∀ (q : List Nat) (a : Act), laid l.toArray (fun _ => undef) (Array.replicate l.toArray.size false) q a = a := by
   intro q
   induction q with
   | nil => intro a; rfl
   | cons i q ih =>
    intro a
    simp only [laid]
    rw [hgf i]
    simpa using ih a
  exact this _ _
 have hk := key k (Array.replicate l.toArray.size false) (fun _ => undef) { w0 with drawn := w0.drawn + 1 } (by unfold qz3r; simp; omega) (by simp) (fun j o _ hj => by rw [hgf j] at hj; cases hj) (fun j _ => hgf j) ⟨rfl, rfl, rfl, Nat.le_refl _, fun _ _ => rfl⟩ (fun i hi h => by rw [hgf i] at h; cases h) (fun i j b hi hj hij h => by rw [hgf i] at h; cases h)
 rw [h0, show k + (l.length - k) = l.toArray.size by simp; omega] at hk
 exact hk
end
section
section
variable {P : Program}
def upTo (ops : Array Oper) (m : Nat) : Array Bool := qz3j m 0 (Array.replicate ops.size false)
end
end
section
def qza3 (ops : Array Oper) (k : Nat) : Bool := (List.range k).all fun i => match ops[i]? with | some o => o.after.all fun e => !Region.binds .any e || decide (e.on < i) | none => true
theorem qzaq {ops : Array Oper} {k : Nat} (h : qza3 ops k = true) (i : Nat) (hik : i < k) (o : Oper) (ho : ops[i]? = some o) : ∀ e ∈ o.after, Region.binds .any e = true -> e.on < i := by
 intro e he hbd
 have h1 := (List.all_eq_true.1 h) i (List.mem_range.2 hik)
 simp only [ho] at h1
 have h2 := Array.all_eq_true_iff_forall_mem.1 h1 e he
 rw [hbd] at h2
 exact of_decide_eq_true (by simpa using h2)
end
section
def qzb5 (md : Region.Mode) (ops : Array Oper) (k f : Nat) : Bool := (List.range ops.size).all fun j => decide (j < k) || (List.range k).all fun i => (i == f) || qz9b md ops ops.size j i
theorem qz6z {md : Region.Mode} {ops : Array Oper} {k f : Nat} {listed : Array Bool} (hw : qzb5 md ops k f = true) (hc : qz45 md ops listed) {i j : Nat} (hi : i < k) (hif : i ≠ f) (hu : listed.getD i true = false) (hj : j ∈ Region.ready md ops listed) : j < k := by
 rcases Nat.lt_or_ge j k with h | h
 ·exact h
 ·obtain ⟨_, o, ho, hall⟩ := mem_ready.1 hj
  have hjs : j < ops.size := (Array.getElem?_eq_some_iff.1 ho).1
  have h1 := (List.all_eq_true.1 hw) j (List.mem_range.2 hjs)
  simp only [Bool.or_eq_true, decide_eq_true_eq] at h1
  rcases h1 with h1 | h1
  ·exact h1
  ·have h2 := (List.all_eq_true.1 h1) i (List.mem_range.2 hi)
   simp only [Bool.or_eq_true, beq_iff_eq] at h2
   rcases h2 with h2 | h2
   ·exact absurd h2 hif
   have h3 := qz3u hc _ j i h2 (fun o' ho' => by rw [ho] at ho'; cases ho'; exact hall)
   rcases Nat.lt_or_ge i listed.size with h' | h'
   ·simp [h'] at hu h3; rw [hu] at h3; cases h3
   ·simp [Array.getElem?_eq_none h'] at hu
def qzc7 (ops : Array Oper) (k f m : Nat) : Bool := (ops.size == k + m) && qzb5 .any ops k f && Region.noSelect ops && Region.free .any ops ((upTo ops k).setIfInBounds f false) f
theorem qz5c {P : Program} {l : List Oper} {Q : Exit -> Act -> World -> Prop} {id : Nat} {a0 : Act} {w0 : World} (k f : Nat) (hfk : f < k) (hm : P.follows .mixedOrders = true)
  (G : Nat -> Value -> World -> Prop) (fresh : Nat -> Bool) (hT : qzc7 l.toArray k f (l.length - k) = true) (hL : qzax l.toArray = true) (hBk : qza3 l.toArray k = true) (hg : (l.take k).all (fun o => o.guard.isNone) = true)
  (hdst0 : dstB l.toArray a0.tmps.size = true)
  (mono : ∀ i v w w', w0.heap.size <= w.heap.size -> G i v w -> Below w.heap.size w w' -> G i v w')
  (blk : ∀ i v w b, fresh i = true -> G i v w -> qz2y v = some b -> b < w.heap.size)
  (step : ∀ (i : Nat) (o : Oper), i < k -> l[i]? = some o -> ∀ (a : Act) (w : World), Below w0.heap.size w0 w -> (∀ t, qz7h l.toArray t = true -> a.eval (.tmp t) = a0.tmps.getD t undef) ->
   (∀ e ∈ o.after, Region.binds .any e = true -> ∀ d, qz27 l.toArray e.on = some d -> G e.on (a.eval (.tmp d)) w) ->
   ∀ K : Act -> World -> Prop, (∀ v w', G i v w' -> Below w.heap.size w w' -> (fresh i = true -> ∀ b, qz2y v = some b -> w.heap.size <= b) -> K (a.put o.dst v) w') -> o.wp P a w K Q)
  (hQf : ∀ c (a : Act) v w, Q (.panic c) (a.put (qz27 l.toArray f) v) w -> Q (.panic c) a w)
  (float : ∀ (o : Oper), l[f]? = some o -> ∀ (a : Act) (w : World), (∀ e ∈ o.after, Region.binds .any e = true -> ∀ d, qz27 l.toArray e.on = some d -> G e.on (a.eval (.tmp d)) w) -> ∃ v, (∀ w', (execOp a.eval o).run P w' = .ok (.value v) w') /\ G f v w /\ fresh f = false)
  (final : ∀ vs w', Below w0.heap.size w0 w' -> (∀ i, i < k -> G i (vs i) w') ->
   (∀ i j b, i < k -> j < k -> i ≠ j -> fresh i = true -> fresh j = true -> qz2y (vs i) = some b -> qz2y (vs j) ≠ some b) ->
   ∀ c, wpAny P .any l.toArray Q (c + (l.length - k)) (upTo l.toArray k) (laid l.toArray vs (upTo l.toArray k) (List.range l.toArray.size) a0) w') :
  (Code.region id l.toArray true).wp P Q a0 w0 := by
 have hdst := qz9u hdst0
 have L := qz6o hL
 have hBack : ∀ i, i < k -> ∀ o, l.toArray[i]? = some o -> ∀ e ∈ o.after, Region.binds .any e = true -> e.on < i := fun i hik o ho => qzaq hBk i hik o ho
 simp only [qzc7, Bool.and_eq_true, beq_iff_eq] at hT
 obtain ⟨⟨⟨hkm, hw⟩, hsel⟩, hfree⟩ := hT
 have hsl : l.toArray.size = l.length := by simp
 have hkl : k <= l.length := by omega
 refine wp_region_any hm ?_
 have key : ∀ (c : Nat) (listed : Array Bool) (vs : Nat -> Value) (w : World), qz3r listed <= c + (l.length - k) -> listed.size = l.toArray.size -> qz45 .any l.toArray listed -> (∀ j, k <= j -> listed.getD j false = false) -> Below w0.heap.size w0 w ->
   (∀ i, i < l.toArray.size -> listed.getD i false = true -> G i (vs i) w) ->
   (∀ i j b, i < l.toArray.size -> j < l.toArray.size -> i ≠ j -> listed.getD i false = true -> listed.getD j false = true -> fresh i = true -> fresh j = true -> qz2y (vs i) = some b -> qz2y (vs j) ≠ some b) ->
   wpAny P .any l.toArray Q (c + (l.length - k)) listed (laid l.toArray vs listed (List.range l.toArray.size) a0) w := by
  intro c
  induction c with
  | zero =>
   intro listed vs w hf hs hc htail hb hG hD
   by_cases hall : ∀ i, i < k -> listed.getD i false = true
   ·have he : listed = qz3j k 0 (Array.replicate l.toArray.size false) := by
     apply Array.ext
     ·rw [qz21, hs]; simp
     ·intro i h1 h2
      have g := qz2j k 0 (Array.replicate l.toArray.size false) i (by simp; omega)
      have g1 : (qz3j k 0 (Array.replicate l.toArray.size false))[i] = (qz3j k 0 (Array.replicate l.toArray.size false)).getD i false := qz3p _ _ h2
      have g2 : listed[i] = listed.getD i false := by simp [h1]
      rw [g1, g2, g]
      by_cases c : i < k
      ·rw [if_pos (by omega), hall i c]
      ·have hio : i < l.length := by omega
       rw [if_neg (by omega), htail i (by omega)]
       simp [hio]
    have hfin := final vs w hb (fun i hi => hG i (by omega) (hall i hi)) (fun i j b hi hj hij => hD i j b (by omega) (by omega) hij (hall i hi) (hall j hj))
    unfold upTo at hfin
    rw [<- he] at hfin
    exact hfin 0
   ·exfalso
    simp only [Classical.not_forall] at hall
    obtain ⟨i, hi, hu⟩ := hall
    have := qz4c (m := l.length - k) (by omega) htail hi (by simpa using hu)
    omega
  | succ c ih =>
   intro listed vs w hf hs hc htail hb hG hD
   by_cases hall : ∀ i, i < k -> listed.getD i false = true
   ·have he : listed = qz3j k 0 (Array.replicate l.toArray.size false) := by
     apply Array.ext
     ·rw [qz21, hs]; simp
     ·intro i h1 h2
      have g := qz2j k 0 (Array.replicate l.toArray.size false) i (by simp; omega)
      have g1 : (qz3j k 0 (Array.replicate l.toArray.size false))[i] = (qz3j k 0 (Array.replicate l.toArray.size false)).getD i false := qz3p _ _ h2
      have g2 : listed[i] = listed.getD i false := by simp [h1]
      rw [g1, g2, g]
      by_cases c : i < k
      ·rw [if_pos (by omega), hall i c]
      ·have hio : i < l.length := by omega
       rw [if_neg (by omega), htail i (by omega)]
       simp [hio]
    have hfin := final vs w hb (fun i hi => hG i (by omega) (hall i hi)) (fun i j b hi hj hij => hD i j b (by omega) (by omega) hij (hall i hi) (hall j hj))
    unfold upTo at hfin
    rw [<- he] at hfin
    exact hfin (c + 1)
   by_cases hallF : ∀ i, i < k -> i ≠ f -> listed.getD i false = true
   ·have huf : listed.getD f false = false := by
     cases hq : listed.getD f false with
     | false => rfl
     | true =>
      exfalso
      apply hall
      intro i hi
      by_cases hif : i = f
      ·rw [hif]; exact hq
      ·exact hallF i hi hif
    have hfs : f < l.toArray.size := by omega
    have hfl : f < listed.size := by omega
    obtain ⟨o, ho⟩ : ∃ o, l.toArray[f]? = some o := ⟨l.toArray[f], by simp⟩
    have ho' : l[f]? = some o := by simpa using ho
    have hguard : o.guard = none := by
     have := (List.all_eq_true.1 hg) o (List.mem_of_getElem? (i := f) (by rw [List.getElem?_take]; simp [hfk, ho']))
     simpa using this
    have hdep : ∀ e ∈ o.after, Region.binds .any e = true -> listed.getD e.on false = true := fun e he hbd => by
     have h1 := hBack f hfk o ho e he hbd
     exact hallF e.on (by omega) (by omega)
    have hrd : f ∈ Region.ready .any l.toArray listed := mem_ready.2 ⟨by simpa [hfl] using huf, o, ho, hdep⟩
    have hnd : (List.range l.toArray.size).Nodup := List.nodup_range
    obtain ⟨v, hrun, hGf, hff⟩ := float o ho' (laid l.toArray vs listed (List.range l.toArray.size) a0) w (fun e he hbd d hd => by
     have h1 := hBack f hfk o ho e he hbd
     have h2 := hdep e he hbd
     have h3 : (laid l.toArray vs listed (List.range l.toArray.size) a0).eval (.tmp d) = vs e.on := qz3t L vs listed e.on d hd h2 _ _ hnd (List.mem_range.2 (by omega)) (hdst _ _ hd)
     rw [h3]
     exact hG e.on (by omega) h2)
    have he' : listed = (upTo l.toArray k).setIfInBounds f false := by
     apply Array.ext
     ·simp only [Array.size_setIfInBounds, upTo, qz21]; rw [hs]; simp
     ·intro i h1 h2
      have hio : i < l.length := by omega
      have g1 : ((upTo l.toArray k).setIfInBounds f false)[i] = ((upTo l.toArray k).setIfInBounds f false).getD i false := qz3p _ _ h2
      have g2 : listed[i] = listed.getD i false := by simp [h1]
      rw [g1, g2]
      by_cases hif : f = i
      ·subst hif
       rw [huf]
       have h3 : f < (upTo l.toArray k).size := by simpa using h2
       simp [h3]
      ·rw [show ((upTo l.toArray k).setIfInBounds f false).getD i false = (upTo l.toArray k).getD i false from by simp [Array.getElem?_setIfInBounds_ne hif]]
       unfold upTo
       rw [qz2j k 0 (Array.replicate l.toArray.size false) i (by simp; omega)]
       by_cases c : i < k
       ·rw [if_pos (by omega), hallF i c (fun e => hif e.symm)]
       ·rw [if_neg (by omega), htail i (by omega)]
        simp [hio]
    have hd' : o.dst = qz27 l.toArray f := by simp only [qz27, ho, Option.bind_some]
    rw [show c + 1 + (l.length - k) = (c + (l.length - k)) + 1 by omega]
    refine wpAny_take (i := f) (v := v) ho hsel (by rw [he']; exact hfree) (by simpa using hrd) (fun c a w hh => hQf c a _ w (hd' ▸ hh)) (Or.inl ⟨by simp [Region.wanted, hguard], hrun⟩) ?_
    rw [hd', qz3n L vs listed f v hfl huf _ _ hnd (List.mem_range.2 hfs)]
    refine ih _ _ _ (by have := qz2e hfl huf; omega) (by simpa using hs) (hc.set hrd) (fun j hj => by rw [getD_set_ne false (by omega)]; exact htail j hj) hb ?_ ?_
    ·intro j hj hjl
     by_cases hji : j = f
     ·subst hji
      simp only [upd, if_true]
      exact hGf
     ·rw [getD_set_ne false (Ne.symm hji)] at hjl
      simp only [upd, hji, if_false]
      exact hG j hj hjl
    ·intro j q b hj hq hjq hjl hql hfj hfq hbj hbq
     have hjf : j ≠ f := fun e => by rw [e, hff] at hfj; cases hfj
     have hqf : q ≠ f := fun e => by rw [e, hff] at hfq; cases hfq
     rw [getD_set_ne false (Ne.symm hjf)] at hjl
     rw [getD_set_ne false (Ne.symm hqf)] at hql
     simp only [upd, hjf, if_false] at hbj
     simp only [upd, hqf, if_false] at hbq
     exact hD j q b hj hq hjq hjl hql hfj hfq hbj hbq
   simp only [Classical.not_forall] at hallF
   obtain ⟨i1, hi1, hi1f, hu1⟩ := hallF
   have hu1' : listed.getD i1 false = false := by simpa using hu1
   have hu1'' : listed.getD i1 true = false := by
    have : i1 < listed.size := by omega
    simpa [this] using hu1'
   have hex : ∃ i, i < k /\ i ∈ Region.ready .any l.toArray listed := by
    apply Classical.byContradiction
    intro hno
    have : ∀ n i, i < n -> i < k -> listed.getD i false = true := by
     intro n
     induction n with
     | zero => intro i hi; omega
     | succ n ihn =>
      intro i hi hik
      rcases Nat.lt_or_ge i n with h | h
      ·exact ihn i h hik
      ·have hin : i = n := by omega
       subst hin
       cases hq : listed.getD i false with
       | true => rfl
       | false =>
        exfalso
        apply hno
        refine ⟨i, hik, mem_ready.2 ⟨?_, ?_⟩⟩
        ·have : i < listed.size := by omega
         simpa [this] using hq
        ·have hil : i < l.toArray.size := by omega
         refine ⟨l.toArray[i], by simp, fun e he hbd => ?_⟩
         exact ihn e.on (hBack i hik _ (by simp) e he hbd) (Nat.lt_trans (hBack i hik _ (by simp) e he hbd) hik)
    have h9 := this (i1 + 1) i1 (by omega) hi1
    rw [hu1'] at h9
    cases h9
   rw [show c + 1 + (l.length - k) = (c + (l.length - k)) + 1 by omega]
   obtain ⟨i0, hi0, hr0⟩ := hex
   refine ⟨fun h0 => (by rw [h0] at hr0; cases hr0), ?_⟩
   intro i hi
   have hik := qz6z hw hc hi1 hi1f hu1'' hi
   obtain ⟨h0, o, ho, hall⟩ := mem_ready.1 hi
   have hi' : i < l.toArray.size := (Array.getElem?_eq_some_iff.1 ho).1
   have hlt : i < listed.size := by omega
   have h1 : listed.getD i false = false := by simpa [hlt] using h0
   have ho' : l[i]? = some o := by simpa using ho
   have hguard : o.guard = none := by
    have := (List.all_eq_true.1 hg) o (List.mem_of_getElem? (i := i) (by rw [List.getElem?_take]; simp [hik, ho']))
    simpa using this
   have hnd : (List.range l.toArray.size).Nodup := List.nodup_range
   have hlt' : ∀ e ∈ o.after, Region.binds .any e = true -> ∀ d, qz27 l.toArray e.on = some d -> e.on < l.toArray.size /\ listed.getD e.on false = true /\ (laid l.toArray vs listed (List.range l.toArray.size) a0).eval (.tmp d) = vs e.on := by
    intro e he hbd d hd
    have hel := hall e he hbd
    have hes : e.on < l.toArray.size := by
     rcases Nat.lt_or_ge e.on l.toArray.size with h | h
     ·exact h
     ·simp only [qz27, Array.getElem?_eq_none h] at hd
      cases hd
    exact ⟨hes, hel, qz3t L vs listed e.on d hd hel _ _ hnd (List.mem_range.2 hes) (hdst _ _ hd)⟩
   have hstep := step i o hik ho' (laid l.toArray vs listed (List.range l.toArray.size) a0) w hb
    (fun t ht => qz1s l.toArray vs listed t _ _ (fun k _ => qz58 ht k))
    (fun e he hbd d hd => by
     obtain ⟨h2, h3, h4⟩ := hlt' e he hbd d hd
     rw [h4]
     exact hG e.on h2 h3)
   have hwn : Region.wanted o (yielded l.toArray (laid l.toArray vs listed (List.range l.toArray.size) a0).tmps) = true := by simp [Region.wanted, hguard]
   unfold wpOp
   simp only [ho, hwn, if_true]
   refine Or.inl (hstep _ ?_)
   intro v w' hGi hb' hfr
   have hd' : o.dst = qz27 l.toArray i := by simp only [qz27, ho, Option.bind_some]
   rw [hd', qz3n L vs listed i v hlt h1 _ _ hnd (List.mem_range.2 hi')]
   have hsz := hb.size
   refine ih _ _ _ (by have := qz2e hlt h1; omega) (by simpa using hs) (hc.set hi) (fun j hj => by rw [getD_set_ne false (by omega)]; exact htail j hj) (hb.trans (hb'.mono hsz)) ?_ ?_
   ·intro j hj hjl
    by_cases hji : j = i
    ·subst hji
     simp only [upd, if_true]
     exact hGi
    ·rw [getD_set_ne false (Ne.symm hji)] at hjl
     simp only [upd, hji, if_false]
     exact mono j _ w w' hsz (hG j hj hjl) hb'
   ·intro j k b hj hk hjk hjl hkl hfj hfk hbj hbk
    by_cases hji : j = i
    ·subst hji
     have hkj : k ≠ j := Ne.symm hjk
     rw [getD_set_ne false hjk] at hkl
     simp only [upd, if_true] at hbj
     simp only [upd, hkj, if_false] at hbk
     have h2 := hfr hfj b hbj
     have h3 := blk k _ w b hfk (hG k hk hkl) hbk
     omega
    ·rw [getD_set_ne false (Ne.symm hji)] at hjl
     simp only [upd, hji, if_false] at hbj
     by_cases hki : k = i
     ·subst hki
      simp only [upd, if_true] at hbk
      have h2 := hfr hfk b hbk
      have h3 := blk j _ w b hfj (hG j hj hjl) hbj
      omega
     ·rw [getD_set_ne false (Ne.symm hki)] at hkl
      simp only [upd, hki, if_false] at hbk
      exact hD j k b hj hk hjk hjl hkl hfj hfk hbj hbk
 have hgf : ∀ i, (Array.replicate l.toArray.size false).getD i false = false := by
  intro i
  rcases Nat.lt_or_ge i l.toArray.size with h | h
  ·simp at h; simp [h]
  ·simp at h; simp [h]
 have h0 : laid l.toArray (fun _ => undef) (Array.replicate l.toArray.size false) (List.range l.toArray.size) a0 = a0 := by
  have : ∀ (q : List Nat) (a : Act), laid l.toArray (fun _ => undef) (Array.replicate l.toArray.size false) q a = a := by
   intro q
   induction q with
   | nil => intro a; rfl
   | cons i q ih =>
    intro a
    simp only [laid]
    rw [hgf i]
    simpa using ih a
  exact this _ _
 have hk := key k (Array.replicate l.toArray.size false) (fun _ => undef) { w0 with drawn := w0.drawn + 1 } (by unfold qz3r; simp; omega) (by simp) (fun j o _ hj => by rw [hgf j] at hj; cases hj) (fun j _ => hgf j) ⟨rfl, rfl, rfl, Nat.le_refl _, fun _ _ => rfl⟩ (fun i hi h => by rw [hgf i] at h; cases h) (fun i j b hi hj hij h => by rw [hgf i] at h; cases h)
 rw [h0, show k + (l.length - k) = l.toArray.size by simp; omega] at hk
 exact hk
theorem qz2t {P : Program} {l : List Oper} {Q : Exit -> Act -> World -> Prop} {id : Nat} {a0 : Act} {w0 : World} (k f : Nat) (hfk : f < k) (hm : P.follows .mixedOrders = true)
  (G : Nat -> Value -> World -> Prop) (fresh : Nat -> Bool) (hT : qzc7 l.toArray k f (l.length - k) = true) (hS : qz3m .any l.toArray (l.length - k) k (upTo l.toArray k) = true) (hL : qzax l.toArray = true) (hBk : qza3 l.toArray k = true) (hg : (l.take k).all (fun o => o.guard.isNone) = true)
  (hdst0 : dstB l.toArray a0.tmps.size = true)
  (mono : ∀ i v w w', w0.heap.size <= w.heap.size -> G i v w -> Below w.heap.size w w' -> G i v w')
  (blk : ∀ i v w b, fresh i = true -> G i v w -> qz2y v = some b -> b < w.heap.size)
  (step : ∀ (i : Nat) (o : Oper), i < k -> l[i]? = some o -> ∀ (a : Act) (w : World), Below w0.heap.size w0 w -> (∀ t, qz7h l.toArray t = true -> a.eval (.tmp t) = a0.tmps.getD t undef) ->
   (∀ e ∈ o.after, Region.binds .any e = true -> ∀ d, qz27 l.toArray e.on = some d -> G e.on (a.eval (.tmp d)) w) ->
   ∀ K : Act -> World -> Prop, (∀ v w', G i v w' -> Below w.heap.size w w' -> (fresh i = true -> ∀ b, qz2y v = some b -> w.heap.size <= b) -> K (a.put o.dst v) w') -> o.wp P a w K Q)
  (hQf : ∀ c (a : Act) v w, Q (.panic c) (a.put (qz27 l.toArray f) v) w -> Q (.panic c) a w)
  (float : ∀ (o : Oper), l[f]? = some o -> ∀ (a : Act) (w : World), (∀ e ∈ o.after, Region.binds .any e = true -> ∀ d, qz27 l.toArray e.on = some d -> G e.on (a.eval (.tmp d)) w) -> ∃ v, (∀ w', (execOp a.eval o).run P w' = .ok (.value v) w') /\ G f v w /\ fresh f = false)
  (final : ∀ vs w', Below w0.heap.size w0 w' -> (∀ i, i < k -> G i (vs i) w') ->
   (∀ i j b, i < k -> j < k -> i ≠ j -> fresh i = true -> fresh j = true -> qz2y (vs i) = some b -> qz2y (vs j) ≠ some b) ->
   wpList P l.toArray Q (l.drop k) (laid l.toArray vs (upTo l.toArray k) (List.range l.toArray.size) a0) w') :
  (Code.region id l.toArray true).wp P Q a0 w0 := by
 refine qz5c k f hfk hm G fresh hT hL hBk hg hdst0 mono blk step hQf float (fun vs w' hb hG hD c => ?_)
 have := qz1l (P := P) (md := .any) (Q := Q) c (l.drop k) k (upTo l.toArray k) _ w' (fun j => by simp) (by simpa using hS) (final vs w' hb hG hD)
 rw [show c + (l.length - k) = (l.drop k).length + c by simp; omega]
 exact this
end
section
open Go.RowKit
structure Only (b : Nat) (w w' : World) : Prop where
 os : w'.os = w.os
 tape : w'.tape = w.tape
 output : w'.output = w.output
 size : w.heap.size <= w'.heap.size
 block : ∀ k, k < w.heap.size -> k ≠ b -> w'.heap[k]? = w.heap[k]?
theorem Only.refl (b : Nat) (w : World) : Only b w w := ⟨rfl, rfl, rfl, Nat.le_refl _, fun _ _ _ => rfl⟩
theorem Only.trans {b : Nat} {x y z : World} (h : Only b x y) (k : Only b y z) : Only b x z :=
 ⟨k.os.trans h.os, k.tape.trans h.tape, k.output.trans h.output, Nat.le_trans h.size k.size, fun i hi hb => (k.block i (Nat.lt_of_lt_of_le hi h.size) hb).trans (h.block i hi hb)⟩
theorem Only.setCell {b : Nat} {x w : World} (h : Only b x w) {p : Addr} (hp : p.block = b ∨ x.heap.size <= p.block) (u : Value) : Only b x (w.setCell p u) :=
 ⟨h.os, h.tape, h.output, by simpa [World.setCell] using h.size, fun k hk hb => (Below.heap_setCell _ _ _ _ (by omega)).trans (h.block k hk hb)⟩
theorem Only.below {b B : Nat} {w w' : World} (h : Only b w w') (hb : B <= b) (hB : B <= w.heap.size) : Below B w w' := ⟨h.os, h.tape, h.output, h.size, fun k hk => h.block k (by omega) (by omega)⟩
theorem Only.cell {b : Nat} {w w' : World} (h : Only b w w') {p : Addr} (h1 : p.block < w.heap.size) (h2 : p.block ≠ b) : w'.cell? p = w.cell? p := World.cell?_of_block (w := w) (h.block p.block h1 h2)
theorem qzg (b : Nat) : ∀ (vs : List Value) (o : Nat) (w : World), Only b w (w.setCells b o vs)
 | [], _, w => Only.refl b w
 | v :: vs, o, w => ((Only.refl b w).setCell (p := ⟨b, o, none⟩) (Or.inl rfl) v).trans (qzg b vs (o + 1) (w.setCell ⟨b, o, none⟩ v))
structure But (S : Nat -> Prop) (w w' : World) : Prop where
 os : w'.os = w.os
 tape : w'.tape = w.tape
 output : w'.output = w.output
 size : w.heap.size <= w'.heap.size
 block : ∀ k, k < w.heap.size -> ¬ S k -> w'.heap[k]? = w.heap[k]?
theorem But.refl (S : Nat -> Prop) (w : World) : But S w w := ⟨rfl, rfl, rfl, Nat.le_refl _, fun _ _ _ => rfl⟩
theorem But.trans {S : Nat -> Prop} {x y z : World} (h : But S x y) (k : But S y z) : But S x z :=
 ⟨k.os.trans h.os, k.tape.trans h.tape, k.output.trans h.output, Nat.le_trans h.size k.size, fun i hi hb => (k.block i (Nat.lt_of_lt_of_le hi h.size) hb).trans (h.block i hi hb)⟩
theorem But.of_only {S : Nat -> Prop} {b : Nat} {w w' : World} (h : Only b w w') (hb : S b) : But S w w' := ⟨h.os, h.tape, h.output, h.size, fun k hk hn => h.block k hk (fun e => hn (e ▸ hb))⟩
theorem But.of_below {S : Nat -> Prop} {w w' : World} (h : Below w.heap.size w w') : But S w w' := ⟨h.os, h.tape, h.output, h.size, fun k hk _ => h.block k hk⟩
theorem But.mono {S S' : Nat -> Prop} {w w' : World} (h : But S w w') (hS : ∀ k, S k -> S' k) : But S' w w' := ⟨h.os, h.tape, h.output, h.size, fun k hk hn => h.block k hk (fun e => hn (hS k e))⟩
theorem But.below {S : Nat -> Prop} {B : Nat} {w w' : World} (h : But S w w') (hB : B <= w.heap.size) (hS : ∀ k, S k -> B <= k) : Below B w w' := ⟨h.os, h.tape, h.output, h.size, fun k hk => h.block k (by omega) (fun e => by have := hS k e; omega)⟩
theorem But.cell {S : Nat -> Prop} {w w' : World} (h : But S w w') {p : Addr} (h1 : p.block < w.heap.size) (h2 : ¬ S p.block) : w'.cell? p = w.cell? p := World.cell?_of_block (w := w) (h.block p.block h1 h2)
theorem But.frozen {S : Nat -> Prop} {w w' : World} (h : But S w w') {p : Addr} (h1 : p.block < w.heap.size) (h2 : ¬ S p.block) : w'.frozen? p = w.frozen? p := World.frozen?_of_block (w := w) (h.block p.block h1 h2)
theorem But.range {S : Nat -> Prop} {w w' : World} (h : But S w w') {b o : Nat} {cs : List Value} (R : w.rangeAt b o cs) (h1 : b < w.heap.size) (h2 : ¬ S b) : w'.rangeAt b o cs := fun j v hv => (h.cell (p := ⟨b, o + j, none⟩) h1 h2).trans (R j v hv)
theorem But.there {S : Nat -> Prop} {w w' : World} (h : But S w w') {b o n : Nat} (T : w.there b o n) (h1 : b < w.heap.size) (h2 : ¬ S b) : w'.there b o n := fun j hj => by rw [h.cell (p := ⟨b, o + j, none⟩) h1 h2, h.frozen (p := ⟨b, o + j, none⟩) h1 h2]; exact T j hj
end
section
attribute [local go_sem ↓] Go.wp_at_zero Go.wp_at_succ
theorem qz2l (w : World) (T : TypeId) : ∀ (vs pre zs : List Value), zs.length = vs.length ->
  (w.alloc (.cells (pre ++ zs).toArray T)).setCells w.heap.size pre.length vs = w.alloc (.cells (pre ++ vs).toArray T)
 | [], pre, zs, h => by
  obtain rfl : zs = [] := List.eq_nil_of_length_eq_zero h
  rfl
 | v :: vs, pre, z :: zs, h => by
  simp only [World.setCells]
  have e : (w.alloc (.cells (pre ++ z :: zs).toArray T)).setCell ⟨w.heap.size, pre.length, none⟩ v = w.alloc (.cells ((pre ++ [v]) ++ zs).toArray T) := by
   rw [World.setCell_alloc_new]
   simp
  rw [e]
  have := qz2l w T vs (pre ++ [v]) zs (by simpa using h)
  simp only [List.length_append, List.length_cons, List.length_nil, Nat.zero_add] at this
  rw [this]
  simp
def newH : Hd := ⟨0, 0, 0, -1, 0, 0, 0, 0, 0, -1, 0, 0, 0, 0, 0, 0, -1, 0, -1, 0, 0, 0⟩
def qzb (h : Hd) (rp ot sm : Int) : Hd := ⟨0, 0, 0, -1, 0, 0, rp, ot, sm, h.held, 0, 0, 0, 0, 0, 0, -1, 0, -1, 0, 0, 0⟩
theorem qz63 (w : World) : Calls Tryz.prog 117 #[] w fun e w' => e = .returned (.agg (hdC newH).toArray) /\ Below w.heap.size w w' := by
 have F0 := qzf w #[.int .i64 0, .int .i64 0, .int .i64 0, .int .i64 0, .int .i64 0, .int .i64 0, .int .i64 0, .int .i64 0, .int .i64 0, .int .i64 0, .int .i64 0, .int .i64 0, .int .i64 0, .int .i64 0, .int .i64 0, .int .i64 0, .int .i64 0, .int .i64 0, .int .i64 0, .int .i64 0, .int .i64 0, .int .i64 0] 36 22 (by decide)
 go_enter Tryz.func117, Tryz.ntmps117
 go_wp2_with (refine wpList_store_mid rfl 36 (.tmp 0) (.tmp 1) rfl w.heap.size 0 _ rfl rfl ?ht ?hi ?h1 ?_)
 case ht => exact F0
 case hi => exact qz8 newH
 case h1 => exact qzc newH
 refine bodyPost_ret (v := .agg (hdC newH).toArray) ?_ rfl ⟨rfl, ?_⟩
 ·exact qz4 Tryz.results117 _ _ w.heap.size 0 rfl (hdC newH) _ (World.rangeAt_setCells_same _ _ _ _ F0) Tryz.underlying36 rfl (qz1 newH)
 ·exact Below.setCells (Nat.le_refl _) _ _ _ ((Below.refl _ _).alloc (Nat.le_refl _) _)
theorem qz5j (h : Hd) (rp ot sm : Int) (w : World) :
  Calls Tryz.prog 113 #[.agg (hdC h).toArray, .int .i64 rp, .int .i64 ot, .int .i64 sm] w fun e w' => e = .returned (.agg (hdC (qzb h rp ot sm)).toArray) /\ Below w.heap.size w w' := by
 show Calls Tryz.prog 113 #[.agg #[.int .i64 h.at_, .int .i64 h.then_, .int .i64 h.code, .int .i64 h.key, .int .i64 h.value, .int .i64 h.begin, .int .i64 h.reply, .int .i64 h.out, .int .i64 h.sum, .int .i64 h.held, .int .i64 h.x_, .int .i64 h.ver, .int .i64 h.cam, .int .i64 h.camAt, .int .i64 h.pred, .int .i64 h.predVer, .int .i64 h.curr, .int .i64 h.currVer, .int .i64 h.new_, .int .i64 h.least, .int .i64 h.index, .int .i64 h.round], .int .i64 rp, .int .i64 ot, .int .i64 sm] w fun e w' => e = .returned (.agg (hdC (qzb h rp ot sm)).toArray) /\ Below w.heap.size w w'
 have X0 := World.rangeAt_alloc (qz5 w (hdC h) 36) (.cells #[.int .i64 0, .int .i64 0, .int .i64 0, .int .i64 0, .int .i64 0, .int .i64 0, .int .i64 0, .int .i64 0, .int .i64 0, .int .i64 0, .int .i64 0, .int .i64 0, .int .i64 0, .int .i64 0, .int .i64 0, .int .i64 0, .int .i64 0, .int .i64 0, .int .i64 0, .int .i64 0, .int .i64 0, .int .i64 0] 36)
 have F0 := qzf (w.alloc (.cells (hdC h).toArray 36)) #[.int .i64 0, .int .i64 0, .int .i64 0, .int .i64 0, .int .i64 0, .int .i64 0, .int .i64 0, .int .i64 0, .int .i64 0, .int .i64 0, .int .i64 0, .int .i64 0, .int .i64 0, .int .i64 0, .int .i64 0, .int .i64 0, .int .i64 0, .int .i64 0, .int .i64 0, .int .i64 0, .int .i64 0, .int .i64 0] 36 22 (by decide)
 have K0 := ((Below.refl w.heap.size w).alloc (Nat.le_refl _) (.cells (hdC h).toArray 36)).alloc (by simp) (.cells #[.int .i64 0, .int .i64 0, .int .i64 0, .int .i64 0, .int .i64 0, .int .i64 0, .int .i64 0, .int .i64 0, .int .i64 0, .int .i64 0, .int .i64 0, .int .i64 0, .int .i64 0, .int .i64 0, .int .i64 0, .int .i64 0, .int .i64 0, .int .i64 0, .int .i64 0, .int .i64 0, .int .i64 0, .int .i64 0] 36)
 have hz0 : w.heap.size + 1 < ((w.alloc (.cells (hdC h).toArray 36)).alloc (.cells #[.int .i64 0, .int .i64 0, .int .i64 0, .int .i64 0, .int .i64 0, .int .i64 0, .int .i64 0, .int .i64 0, .int .i64 0, .int .i64 0, .int .i64 0, .int .i64 0, .int .i64 0, .int .i64 0, .int .i64 0, .int .i64 0, .int .i64 0, .int .i64 0, .int .i64 0, .int .i64 0, .int .i64 0, .int .i64 0] 36)).heap.size := by simp
 simp only [World.size_alloc] at F0
 go_enter Tryz.func113, Tryz.ntmps113
 go_wp2_with fail
 change Calls Tryz.prog _ _ ((w.alloc (.cells (hdC h).toArray 36)).alloc (.cells #[.int .i64 0, .int .i64 0, .int .i64 0, .int .i64 0, .int .i64 0, .int .i64 0, .int .i64 0, .int .i64 0, .int .i64 0, .int .i64 0, .int .i64 0, .int .i64 0, .int .i64 0, .int .i64 0, .int .i64 0, .int .i64 0, .int .i64 0, .int .i64 0, .int .i64 0, .int .i64 0, .int .i64 0, .int .i64 0] 36)) _
 generalize hw0 : (w.alloc (.cells (hdC h).toArray 36)).alloc (.cells #[.int .i64 0, .int .i64 0, .int .i64 0, .int .i64 0, .int .i64 0, .int .i64 0, .int .i64 0, .int .i64 0, .int .i64 0, .int .i64 0, .int .i64 0, .int .i64 0, .int .i64 0, .int .i64 0, .int .i64 0, .int .i64 0, .int .i64 0, .int .i64 0, .int .i64 0, .int .i64 0, .int .i64 0, .int .i64 0] 36) = w0 at *
 clear hw0
 refine (qz63 _).mono ?_
 rintro e w1 ⟨rfl, b1⟩
 have q9 : w1.cell? ⟨w.heap.size, 9, none⟩ = some (.int .i64 h.held) := (b1.cell (p := ⟨w.heap.size, 9, none⟩) (by show w.heap.size < w0.heap.size; omega)).trans (by have := X0 9 (.int .i64 h.held) rfl; simpa using this)
 have F1 := qz3 F0 b1 hz0
 have K1 := K0.trans (b1.mono (by omega))
 have hz1 := Nat.lt_of_lt_of_le hz0 b1.size
 have qa : ∀ o : Obj, (w1.alloc o).cell? ⟨w.heap.size, 9, none⟩ = some (.int .i64 h.held) := fun o => (World.cell?_alloc_lt _ _ _ (by show w.heap.size < w1.heap.size; omega)).trans q9
 clear X0 F0 K0 b1 hz0 q9
 have hset : (w1.alloc (.cells #[.int .i64 0, .int .i64 0, .int .i64 0, .int .i64 0, .int .i64 0, .int .i64 0, .int .i64 0, .int .i64 0, .int .i64 0, .int .i64 0, .int .i64 0, .int .i64 0, .int .i64 0, .int .i64 0, .int .i64 0, .int .i64 0, .int .i64 0, .int .i64 0, .int .i64 0, .int .i64 0, .int .i64 0, .int .i64 0] 36)).setCells w1.heap.size 0 (hdC newH).toArray.toList = w1.alloc (.cells #[.int .i64 0, .int .i64 0, .int .i64 0, .int .i64 (-1), .int .i64 0, .int .i64 0, .int .i64 0, .int .i64 0, .int .i64 0, .int .i64 (-1), .int .i64 0, .int .i64 0, .int .i64 0, .int .i64 0, .int .i64 0, .int .i64 0, .int .i64 (-1), .int .i64 0, .int .i64 (-1), .int .i64 0, .int .i64 0, .int .i64 0] 36) := qz2l w1 36 (hdC newH) [] [.int .i64 0, .int .i64 0, .int .i64 0, .int .i64 0, .int .i64 0, .int .i64 0, .int .i64 0, .int .i64 0, .int .i64 0, .int .i64 0, .int .i64 0, .int .i64 0, .int .i64 0, .int .i64 0, .int .i64 0, .int .i64 0, .int .i64 0, .int .i64 0, .int .i64 0, .int .i64 0, .int .i64 0, .int .i64 0] rfl
 have FA := qzf w1 #[.int .i64 0, .int .i64 0, .int .i64 0, .int .i64 0, .int .i64 0, .int .i64 0, .int .i64 0, .int .i64 0, .int .i64 0, .int .i64 0, .int .i64 0, .int .i64 0, .int .i64 0, .int .i64 0, .int .i64 0, .int .i64 0, .int .i64 0, .int .i64 0, .int .i64 0, .int .i64 0, .int .i64 0, .int .i64 0] 36 22 (by decide)
 have K2 := K1.alloc (by omega) (.cells (hdC (qzb h rp ot sm)).toArray 36)
 have R2 := qz5 w1 (hdC (qzb h rp ot sm)) 36
 have F2 := World.there_alloc F1 (.cells (hdC (qzb h rp ot sm)).toArray 36)
 go_wp2_with (first | (refine wpList_store_mid rfl 36 (.tmp 9) (.tmp 10) rfl w1.heap.size 0 _ rfl rfl FA (qz8 newH) (qzc newH) ?_; rw [hset]) | (refine wpList_load_mid rfl 36 (.tmp 9) rfl w1.heap.size 0 rfl (hdC (qzb h rp ot sm)) _ ?hc Tryz.underlying36 rfl (qz1 _) ?_) | (refine wpList_store_mid rfl 36 (.tmp 8) _ rfl (w.heap.size + 1) 0 _ rfl rfl ?ht ?hi ?h1 ?_))
 case hc => exact R2
 case ht => exact F2
 case hi => exact qz8 _
 case h1 => exact qzc _
 refine bodyPost_ret (v := .agg (hdC (qzb h rp ot sm)).toArray) ?_ rfl ⟨rfl, ?_⟩
 ·exact qz4 Tryz.results113 _ _ (w.heap.size + 1) 0 rfl (hdC (qzb h rp ot sm)) _ (World.rangeAt_setCells_same _ _ _ _ F2) Tryz.underlying36 rfl (qz1 _)
 ·exact Below.setCells (by omega) _ _ _ K2
end
section
attribute [local go_sem ↓] Go.wp_at_zero Go.wp_at_succ
def qz8u : Hd := ⟨0, 0, 0, 0, 0, 0, 0, 0, 0, 0, 0, 0, 0, 0, 0, 0, 0, 0, 0, 0, 0, 0⟩
end
section
attribute [local go_sem ↓] Go.wp_at_zero Go.wp_at_succ
def vrOf (A : Ar) (v : Int) : Vr := A.vers.getD v.toNat ⟨-1, false, -1, -1, 0⟩
def ndOf (A : Ar) (n : Int) : Nd := A.nodes.getD n.toNat ⟨-1, 0, 0⟩
theorem qz2z (A : Ar) (n : Nat) (h : n < A.vers.length) : vrOf A n = A.vers[n] := by simp [vrOf, h]
theorem qzs (A : Ar) (n : Nat) (h : n < A.nodes.length) : ndOf A n = A.nodes[n] := by simp [ndOf, h]
def qz1a (A : Ar) (v : Int) : Bool := inB v 0 ((A.vers.length : Int) - 1) && ((vrOf A v).stamp != -1)
theorem qz36 {x y z u : Int} {A : Ar} (h : qz14 x y z u A = true) : qz84 x y z u A = true /\ qz1g (fun _ v => inB v (-1) 100) A.slots = true /\ qz1g (fun _ v => inB v 0 ((A.nodes.length : Int) - 1)) A.guides = true /\ qz1g (qz3c A.vers.length) A.nodes = true /\ qz1g (verB A.nodes.length A.camera) A.vers = true := by
 simp only [qz14, Bool.and_eq_true] at h
 exact ⟨h.1.1.1.1, h.1.1.1.2, h.1.1.2, h.1.2, h.2⟩
theorem qz28 (B : Nat) (A : Ar) (v : Int) (a0 a1 a2 a3 : Option Addr) (c0 c1 c2 c3 : Nat) (w : World) (hB : B <= w.heap.size) (hA : A.size <= 1048576) (I : qzi B w (.slice a0 A.slots.length c0) (.slice a1 A.guides.length c1) (.slice a2 A.nodes.length c2) (.slice a3 A.vers.length c3) A) :
  Calls Tryz.prog 41 #[.agg #[.int .i64 A.camera, .slice a0 A.slots.length c0, .slice a1 A.guides.length c1, .slice a2 A.nodes.length c2, .slice a3 A.vers.length c3], .int .i64 v] w fun e w' => e = .returned (.bool (qz1a A v)) /\ Below w.heap.size w w' := by
 unfold Ar.size at hA
 have X0 := qz5 w [.int .i64 A.camera, .slice a0 A.slots.length c0, .slice a1 A.guides.length c1, .slice a2 A.nodes.length c2, .slice a3 A.vers.length c3] 35
 have K0 := (Below.refl w.heap.size w).alloc (Nat.le_refl _) (.cells #[.int .i64 A.camera, .slice a0 A.slots.length c0, .slice a1 A.guides.length c1, .slice a2 A.nodes.length c2, .slice a3 A.vers.length c3] 35)
 have hz0 : w.heap.size < (w.alloc (.cells #[.int .i64 A.camera, .slice a0 A.slots.length c0, .slice a1 A.guides.length c1, .slice a2 A.nodes.length c2, .slice a3 A.vers.length c3] 35)).heap.size := by simp
 obtain ⟨x0, x1, x2, x3, x4⟩ := row5 X0
 go_enter Tryz.func41, Tryz.ntmps41
 go_wp2_with fail
 refine (qz1d _ _ _ _ _ _ _ _ _ (by omega)).mono ?_
 rintro e w1 ⟨rfl, b1⟩
 have X1 := qz0 X0 b1 hz0
 have K1 := K0.trans (b1.mono (by omega))
 have I1 := I.below (K1.mono hB)
 have hz1 := Nat.lt_of_lt_of_le hz0 b1.size
 clear X0 K0 I b1 hz0 x0 x1 x2 x3 x4
 obtain ⟨x0, x1, x2, x3, x4⟩ := row5 X1
 cases hq : inB v 0 ((A.vers.length : Int) - 1)
 ·have hv : qz1a A v = false := by simp [qz1a, hq]
  go_wp2
  go_ret
  exact ⟨by first | rfl | (rw [hv]; rfl), K1⟩
 ·have hq' := (qz2c _ _ _).1 hq
  obtain ⟨n, rfl⟩ : ∃ n : Nat, v = n := ⟨v.toNat, by omega⟩
  have hn : n < A.vers.length := by omega
  have hn' : (n : Int) < (A.vers.length : Int) := by omega
  have hn0 : (0 : Int) <= (n : Int) := by omega
  have hv : qz1a A n = (A.vers[n].stamp != -1) := by simp [qz1a, hq, qz2z A n hn]
  obtain ⟨bb, off, rfl, hbb, R⟩ := qzh.at I1.r (by omega)
  have hc : w1.cell? ⟨bb, off + n * 5 + 2, none⟩ = some (.int .i64 A.vers[n].stamp) := (qza (sz := 5) (fun _ => rfl) R n hn) 2 _ rfl
  clear R hq'
  go_wp2
  go_ret
  exact ⟨by first | rfl | (rw [hv]; rfl), K1⟩
end
section
attribute [local go_sem ↓] Go.wp_at_zero Go.wp_at_succ
def qzo (A : Ar) (h : Hd) : Hd :=
 if h.code = 3 then (if 0 <= h.curr /\ (ndOf A h.curr).key = h.key then qzb h 2 (ndOf A h.curr).value 0 else qzb h 3 0 0)
 else if h.code = 1 then (if 0 <= h.curr /\ (ndOf A h.curr).key = h.key then qzb h 2 (ndOf A h.curr).value 0 else { h with at_ := if 0 <= h.new_ then 8 else 7 })
 else if h.code = 2 then (if 0 <= h.curr /\ (ndOf A h.curr).key = h.key then { h with at_ := 11 } else qzb h 3 0 0)
 else { h with at_ := 0 }
def qz2f (A : Ar) (h : Hd) (n : Int) : Hd :=
 if n = -1 then qzo A { h with curr := n } else { h with curr := n, x_ := n, then_ := 2, at_ := 2 }
theorem qzu (h : Hd) (rp ot sm : Int) (w : World) :
  Calls Tryz.prog 103 #[.agg (hdC h).toArray, .int .i64 rp, .int .i64 ot, .int .i64 sm] w fun e w' => e = .returned (.agg (hdC (qzb h rp ot sm)).toArray) /\ Below w.heap.size w w' := by
 have X0 := World.rangeAt_alloc (qz5 w (hdC h) 36) (.cells #[.int .i64 0, .int .i64 0, .int .i64 0, .int .i64 0, .int .i64 0, .int .i64 0, .int .i64 0, .int .i64 0, .int .i64 0, .int .i64 0, .int .i64 0, .int .i64 0, .int .i64 0, .int .i64 0, .int .i64 0, .int .i64 0, .int .i64 0, .int .i64 0, .int .i64 0, .int .i64 0, .int .i64 0, .int .i64 0] 36)
 have F0 := qzf (w.alloc (.cells (hdC h).toArray 36)) #[.int .i64 0, .int .i64 0, .int .i64 0, .int .i64 0, .int .i64 0, .int .i64 0, .int .i64 0, .int .i64 0, .int .i64 0, .int .i64 0, .int .i64 0, .int .i64 0, .int .i64 0, .int .i64 0, .int .i64 0, .int .i64 0, .int .i64 0, .int .i64 0, .int .i64 0, .int .i64 0, .int .i64 0, .int .i64 0] 36 22 (by decide)
 have K0 := ((Below.refl w.heap.size w).alloc (Nat.le_refl _) (.cells (hdC h).toArray 36)).alloc (by simp) (.cells #[.int .i64 0, .int .i64 0, .int .i64 0, .int .i64 0, .int .i64 0, .int .i64 0, .int .i64 0, .int .i64 0, .int .i64 0, .int .i64 0, .int .i64 0, .int .i64 0, .int .i64 0, .int .i64 0, .int .i64 0, .int .i64 0, .int .i64 0, .int .i64 0, .int .i64 0, .int .i64 0, .int .i64 0, .int .i64 0] 36)
 have hz0 : w.heap.size + 1 < ((w.alloc (.cells (hdC h).toArray 36)).alloc (.cells #[.int .i64 0, .int .i64 0, .int .i64 0, .int .i64 0, .int .i64 0, .int .i64 0, .int .i64 0, .int .i64 0, .int .i64 0, .int .i64 0, .int .i64 0, .int .i64 0, .int .i64 0, .int .i64 0, .int .i64 0, .int .i64 0, .int .i64 0, .int .i64 0, .int .i64 0, .int .i64 0, .int .i64 0, .int .i64 0] 36)).heap.size := by simp
 simp only [World.size_alloc] at F0
 go_enter Tryz.func103, Tryz.ntmps103
 go_wp2_with (refine wpList_load_mid rfl 36 (.tmp 4) rfl w.heap.size 0 rfl (hdC h) _ ?hc Tryz.underlying36 rfl (qz1 h) ?_)
 case hc => exact X0
 generalize hw0 : (w.alloc (.cells (hdC h).toArray 36)).alloc (.cells #[.int .i64 0, .int .i64 0, .int .i64 0, .int .i64 0, .int .i64 0, .int .i64 0, .int .i64 0, .int .i64 0, .int .i64 0, .int .i64 0, .int .i64 0, .int .i64 0, .int .i64 0, .int .i64 0, .int .i64 0, .int .i64 0, .int .i64 0, .int .i64 0, .int .i64 0, .int .i64 0, .int .i64 0, .int .i64 0] 36) = w0 at *
 clear hw0
 refine (qz5j h rp ot sm _).mono ?_
 rintro e w1 ⟨rfl, b1⟩
 have F1 := qz3 F0 b1 (by omega)
 have K1 := K0.trans (b1.mono (by omega))
 clear X0 F0 K0
 go_wp2_with (refine wpList_store_mid rfl 36 (.tmp 8) _ rfl (w.heap.size + 1) 0 _ rfl rfl ?ht ?hi ?h1 ?_)
 case ht => exact F1
 case hi => exact qz8 _
 case h1 => exact qzc _
 refine bodyPost_ret (v := .agg (hdC (qzb h rp ot sm)).toArray) ?_ rfl ⟨rfl, ?_⟩
 ·exact qz4 Tryz.results103 _ _ (w.heap.size + 1) 0 rfl (hdC (qzb h rp ot sm)) _ (World.rangeAt_setCells_same _ _ _ _ F1) Tryz.underlying36 rfl (qz1 _)
 ·exact Below.setCells (by omega) _ _ _ K1
theorem qz5r (B : Nat) (A : Ar) (h : Hd) (a0 a1 a2 a3 : Option Addr) (c0 c1 c2 c3 : Nat) (w : World) (hB : B <= w.heap.size) (hA : A.size <= 1048576) (I : qzi B w (.slice a0 A.slots.length c0) (.slice a1 A.guides.length c1) (.slice a2 A.nodes.length c2) (.slice a3 A.vers.length c3) A) (hcu : h.curr < (A.nodes.length : Int)) :
  Calls Tryz.prog 75 #[.agg #[.int .i64 A.camera, .slice a0 A.slots.length c0, .slice a1 A.guides.length c1, .slice a2 A.nodes.length c2, .slice a3 A.vers.length c3], .agg (hdC h).toArray] w fun e w' => e = .returned (.agg (hdC (qzo A h)).toArray) /\ Below w.heap.size w w' := by
 have hA' := hA
 unfold Ar.size at hA
 have X0 := World.rangeAt_alloc (World.rangeAt_alloc (qz5 w [.int .i64 A.camera, .slice a0 A.slots.length c0, .slice a1 A.guides.length c1, .slice a2 A.nodes.length c2, .slice a3 A.vers.length c3] 35) (.cells (hdC h).toArray 36)) (.cells #[.int .i64 0, .int .i64 0, .int .i64 0, .int .i64 0, .int .i64 0, .int .i64 0, .int .i64 0, .int .i64 0, .int .i64 0, .int .i64 0, .int .i64 0, .int .i64 0, .int .i64 0, .int .i64 0, .int .i64 0, .int .i64 0, .int .i64 0, .int .i64 0, .int .i64 0, .int .i64 0, .int .i64 0, .int .i64 0] 36)
 have H0 := World.rangeAt_alloc (qz5 (w.alloc (.cells #[.int .i64 A.camera, .slice a0 A.slots.length c0, .slice a1 A.guides.length c1, .slice a2 A.nodes.length c2, .slice a3 A.vers.length c3] 35)) (hdC h) 36) (.cells #[.int .i64 0, .int .i64 0, .int .i64 0, .int .i64 0, .int .i64 0, .int .i64 0, .int .i64 0, .int .i64 0, .int .i64 0, .int .i64 0, .int .i64 0, .int .i64 0, .int .i64 0, .int .i64 0, .int .i64 0, .int .i64 0, .int .i64 0, .int .i64 0, .int .i64 0, .int .i64 0, .int .i64 0, .int .i64 0] 36)
 have G0 := World.there_alloc (qzf (w.alloc (.cells #[.int .i64 A.camera, .slice a0 A.slots.length c0, .slice a1 A.guides.length c1, .slice a2 A.nodes.length c2, .slice a3 A.vers.length c3] 35)) (hdC h).toArray 36 22 (by simp [hdC])) (.cells #[.int .i64 0, .int .i64 0, .int .i64 0, .int .i64 0, .int .i64 0, .int .i64 0, .int .i64 0, .int .i64 0, .int .i64 0, .int .i64 0, .int .i64 0, .int .i64 0, .int .i64 0, .int .i64 0, .int .i64 0, .int .i64 0, .int .i64 0, .int .i64 0, .int .i64 0, .int .i64 0, .int .i64 0, .int .i64 0] 36)
 have F0 := qzf ((w.alloc (.cells #[.int .i64 A.camera, .slice a0 A.slots.length c0, .slice a1 A.guides.length c1, .slice a2 A.nodes.length c2, .slice a3 A.vers.length c3] 35)).alloc (.cells (hdC h).toArray 36)) #[.int .i64 0, .int .i64 0, .int .i64 0, .int .i64 0, .int .i64 0, .int .i64 0, .int .i64 0, .int .i64 0, .int .i64 0, .int .i64 0, .int .i64 0, .int .i64 0, .int .i64 0, .int .i64 0, .int .i64 0, .int .i64 0, .int .i64 0, .int .i64 0, .int .i64 0, .int .i64 0, .int .i64 0, .int .i64 0] 36 22 (by decide)
 have K0 := (((Below.refl w.heap.size w).alloc (Nat.le_refl _) (.cells #[.int .i64 A.camera, .slice a0 A.slots.length c0, .slice a1 A.guides.length c1, .slice a2 A.nodes.length c2, .slice a3 A.vers.length c3] 35)).alloc (by simp) (.cells (hdC h).toArray 36)).alloc (by simp; omega) (.cells #[.int .i64 0, .int .i64 0, .int .i64 0, .int .i64 0, .int .i64 0, .int .i64 0, .int .i64 0, .int .i64 0, .int .i64 0, .int .i64 0, .int .i64 0, .int .i64 0, .int .i64 0, .int .i64 0, .int .i64 0, .int .i64 0, .int .i64 0, .int .i64 0, .int .i64 0, .int .i64 0, .int .i64 0, .int .i64 0] 36)
 have hz0 : w.heap.size + 1 + 1 < (((w.alloc (.cells #[.int .i64 A.camera, .slice a0 A.slots.length c0, .slice a1 A.guides.length c1, .slice a2 A.nodes.length c2, .slice a3 A.vers.length c3] 35)).alloc (.cells (hdC h).toArray 36)).alloc (.cells #[.int .i64 0, .int .i64 0, .int .i64 0, .int .i64 0, .int .i64 0, .int .i64 0, .int .i64 0, .int .i64 0, .int .i64 0, .int .i64 0, .int .i64 0, .int .i64 0, .int .i64 0, .int .i64 0, .int .i64 0, .int .i64 0, .int .i64 0, .int .i64 0, .int .i64 0, .int .i64 0, .int .i64 0, .int .i64 0] 36)).heap.size := by simp
 simp only [World.size_alloc] at H0 G0 F0
 have I0 := I.below (K0.mono hB)
 go_enter Tryz.func75, Tryz.ntmps75
 go_wp2_with fail
 generalize hw0 : ((w.alloc (.cells #[.int .i64 A.camera, .slice a0 A.slots.length c0, .slice a1 A.guides.length c1, .slice a2 A.nodes.length c2, .slice a3 A.vers.length c3] 35)).alloc (.cells (hdC h).toArray 36)).alloc (.cells #[.int .i64 0, .int .i64 0, .int .i64 0, .int .i64 0, .int .i64 0, .int .i64 0, .int .i64 0, .int .i64 0, .int .i64 0, .int .i64 0, .int .i64 0, .int .i64 0, .int .i64 0, .int .i64 0, .int .i64 0, .int .i64 0, .int .i64 0, .int .i64 0, .int .i64 0, .int .i64 0, .int .i64 0, .int .i64 0] 36) = w0 at *
 clear hw0 I
 obtain ⟨x0, x1, x2, x3, x4⟩ := row5 X0
 have q2 : w0.cell? ⟨w.heap.size + 1, 2, none⟩ = some (.int .i64 h.code) := by simpa using H0 2 (.int .i64 h.code) rfl
 have q3 : w0.cell? ⟨w.heap.size + 1, 3, none⟩ = some (.int .i64 h.key) := by simpa using H0 3 (.int .i64 h.key) rfl
 have q16 : w0.cell? ⟨w.heap.size + 1, 16, none⟩ = some (.int .i64 h.curr) := by simpa using H0 16 (.int .i64 h.curr) rfl
 have q18 : w0.cell? ⟨w.heap.size + 1, 18, none⟩ = some (.int .i64 h.new_) := by simpa using H0 18 (.int .i64 h.new_) rfl
 have f0 : w0.frozen? ⟨w.heap.size + 1, 0, none⟩ = false := by simpa using (G0 0 (by decide)).2
 by_cases hc0 : 0 <= h.curr
 case neg =>
  go_quiet (fail)
  have X1 : (w0.drewN nq).rangeAt w.heap.size 0 [.int .i64 A.camera, .slice a0 A.slots.length c0, .slice a1 A.guides.length c1, .slice a2 A.nodes.length c2, .slice a3 A.vers.length c3] := X0
  have H1 : (w0.drewN nq).rangeAt (w.heap.size + 1) 0 (hdC h) := H0
  have F1 : (w0.drewN nq).there (w.heap.size + 1 + 1) 0 22 := F0
  have K1 : Below w.heap.size w (w0.drewN nq) := ⟨K0.os, K0.tape, K0.output, K0.size, K0.block⟩
  have hz1 : w.heap.size + 1 + 1 < (w0.drewN nq).heap.size := hz0
  have I1 : qzi B (w0.drewN nq) (.slice a0 A.slots.length c0) (.slice a1 A.guides.length c1) (.slice a2 A.nodes.length c2) (.slice a3 A.vers.length c3) A := I0.below ⟨rfl, rfl, rfl, Nat.le_refl _, fun _ _ => rfl⟩
  have y3 : (w0.drewN nq).cell? ⟨w.heap.size, 3, none⟩ = some (.slice a2 A.nodes.length c2) := x3
  have y2 : (w0.drewN nq).cell? ⟨w.heap.size + 1, 2, none⟩ = some (.int .i64 h.code) := q2
  have y16 : (w0.drewN nq).cell? ⟨w.heap.size + 1, 16, none⟩ = some (.int .i64 h.curr) := q16
  have y18 : (w0.drewN nq).cell? ⟨w.heap.size + 1, 18, none⟩ = some (.int .i64 h.new_) := q18
  have g0 : (w0.drewN nq).frozen? ⟨w.heap.size + 1, 0, none⟩ = false := f0
  have y0 : (w0.drewN nq).cell? ⟨w.heap.size + 1, 0, none⟩ = some (.int .i64 h.at_) := by simpa using H1 0 (.int .i64 h.at_) rfl
  generalize hw1 : w0.drewN nq = w1 at *
  clear hw1 X0 H0 F0 K0 I0 hz0 x0 x1 x2 x3 x4 q2 q3 q16 q18 f0 G0
  by_cases k3 : h.code = 3
  ·have hv : Hid (qzo A h = (qzb h 3 0 0)) := by show _ = _; simp [qzo, hc0, k3]
   go_wp2_with (first | (refine wpList_load_mid rfl 36 (.tmp 3) rfl (w.heap.size + 1) 0 ?hxln1 (hdC h) _ ?hcn1 Tryz.underlying36 rfl (qz1 _) ?_))
   try (case hxln1 => rfl)
   try (case hcn1 => exact H1)
   refine (qzu h 3 0 0 _).mono ?_
   rintro e w2 ⟨rfl, b2⟩
   have F2 := qz3 F1 b2 (by omega)
   have K2 := K1.trans (b2.mono (by omega))
   go_wp2_with (refine wpList_store_mid rfl 36 (.tmp 4) _ rfl (w.heap.size + 1 + 1) 0 (hdC (qzb h 3 0 0)).toArray ?hxn1 ?hyn1 ?htn1 (qz8 (qzb h 3 0 0)) (qzc (qzb h 3 0 0)) ?_)
   try (case hxn1 => rfl)
   try (case hyn1 => rfl)
   case htn1 => exact F2
   refine bodyPost_ret (v := .agg (hdC (qzb h 3 0 0)).toArray) ?_ rfl ⟨by rw [hv.out], ?_⟩
   ·exact qz4 Tryz.results75 _ _ (w.heap.size + 1 + 1) 0 rfl (hdC (qzb h 3 0 0)) _ (World.rangeAt_setCells_same _ _ _ _ F2) Tryz.underlying36 rfl (qz1 _)
   ·exact Below.setCells (by omega) _ _ _ K2
  have b3 : (h.code == 3) = false := by simp [k3]
  by_cases k1 : h.code = 1
  ·by_cases kn : 0 <= h.new_
   ·obtain ⟨H', hH⟩ : ∃ H' : Hd, Hid (H' = { h with at_ := 8 }) := ⟨_, rfl⟩
    have hv : Hid (qzo A h = H') := by show _ = _; rw [hH.out]; simp [qzo, hc0, k1, kn]
    go_wp2_with (first | (refine wpList_load_mid rfl 36 (.tmp 3) rfl (w.heap.size + 1) 0 ?hxln2 (hdC H') _ ?hcn2 Tryz.underlying36 rfl (qz1 H') ?_) | (refine wpList_store_mid rfl 36 (.tmp 4) _ rfl (w.heap.size + 1 + 1) 0 (hdC H').toArray ?hxn2 ?hyn2 ?htn2 (qz8 H') (qzc H') ?_))
    try (case hxln2 => rfl)
    case hcn2 => rw [hH.out]; exact (qz6 (qz6 H1 0 (by simp [hdC]) _) 0 (by simp [hdC]) _)
    try (case hxn2 => rfl)
    try (case hyn2 => rfl)
    case htn2 => exact (qz2 (qz2 F1 _ _) _ _)
    refine bodyPost_ret (v := .agg (hdC H').toArray) ?_ rfl ⟨by rw [hv.out], ?_⟩
    ·exact qz4 Tryz.results75 _ _ (w.heap.size + 1 + 1) 0 rfl (hdC H') _ (World.rangeAt_setCells_same _ _ _ _ (qz2 (qz2 F1 _ _) _ _)) Tryz.underlying36 rfl (qz1 _)
    ·exact Below.setCells (by omega) _ _ _ (Below.setCell (Below.setCell K1 (p := ⟨w.heap.size + 1, 0, none⟩) (by show w.heap.size <= w.heap.size + 1; omega) _) (p := ⟨w.heap.size + 1, 0, none⟩) (by show w.heap.size <= w.heap.size + 1; omega) _)
   ·obtain ⟨H', hH⟩ : ∃ H' : Hd, Hid (H' = { h with at_ := 7 }) := ⟨_, rfl⟩
    have hv : Hid (qzo A h = H') := by show _ = _; rw [hH.out]; simp [qzo, hc0, k1, kn]
    go_wp2_with (first | (refine wpList_load_mid rfl 36 (.tmp 3) rfl (w.heap.size + 1) 0 ?hxln3 (hdC H') _ ?hcn3 Tryz.underlying36 rfl (qz1 H') ?_) | (refine wpList_store_mid rfl 36 (.tmp 4) _ rfl (w.heap.size + 1 + 1) 0 (hdC H').toArray ?hxn3 ?hyn3 ?htn3 (qz8 H') (qzc H') ?_))
    try (case hxln3 => rfl)
    case hcn3 => rw [hH.out]; exact (qz6 H1 0 (by simp [hdC]) _)
    try (case hxn3 => rfl)
    try (case hyn3 => rfl)
    case htn3 => exact (qz2 F1 _ _)
    refine bodyPost_ret (v := .agg (hdC H').toArray) ?_ rfl ⟨by rw [hv.out], ?_⟩
    ·exact qz4 Tryz.results75 _ _ (w.heap.size + 1 + 1) 0 rfl (hdC H') _ (World.rangeAt_setCells_same _ _ _ _ (qz2 F1 _ _)) Tryz.underlying36 rfl (qz1 _)
    ·exact Below.setCells (by omega) _ _ _ (Below.setCell K1 (p := ⟨w.heap.size + 1, 0, none⟩) (by show w.heap.size <= w.heap.size + 1; omega) _)
  have b1 : (h.code == 1) = false := by simp [k1]
  by_cases k2 : h.code = 2
  ·have hv : Hid (qzo A h = (qzb h 3 0 0)) := by show _ = _; simp [qzo, hc0, k2]
   go_wp2_with (first | (refine wpList_load_mid rfl 36 (.tmp 3) rfl (w.heap.size + 1) 0 ?hxln4 (hdC h) _ ?hcn4 Tryz.underlying36 rfl (qz1 _) ?_))
   try (case hxln4 => rfl)
   try (case hcn4 => exact H1)
   refine (qzu h 3 0 0 _).mono ?_
   rintro e w2 ⟨rfl, b2⟩
   have F2 := qz3 F1 b2 (by omega)
   have K2 := K1.trans (b2.mono (by omega))
   go_wp2_with (refine wpList_store_mid rfl 36 (.tmp 4) _ rfl (w.heap.size + 1 + 1) 0 (hdC (qzb h 3 0 0)).toArray ?hxn4 ?hyn4 ?htn4 (qz8 (qzb h 3 0 0)) (qzc (qzb h 3 0 0)) ?_)
   try (case hxn4 => rfl)
   try (case hyn4 => rfl)
   case htn4 => exact F2
   refine bodyPost_ret (v := .agg (hdC (qzb h 3 0 0)).toArray) ?_ rfl ⟨by rw [hv.out], ?_⟩
   ·exact qz4 Tryz.results75 _ _ (w.heap.size + 1 + 1) 0 rfl (hdC (qzb h 3 0 0)) _ (World.rangeAt_setCells_same _ _ _ _ F2) Tryz.underlying36 rfl (qz1 _)
   ·exact Below.setCells (by omega) _ _ _ K2
  have b2 : (h.code == 2) = false := by simp [k2]
  obtain ⟨H', hH⟩ : ∃ H' : Hd, Hid (H' = { h with at_ := 0 }) := ⟨_, rfl⟩
  have hv : Hid (qzo A h = H') := by show _ = _; rw [hH.out]; simp [qzo, k1, k2, k3]
  go_wp2_with (first | (refine wpList_load_mid rfl 36 (.tmp 3) rfl (w.heap.size + 1) 0 ?hxln5 (hdC H') _ ?hcn5 Tryz.underlying36 rfl (qz1 H') ?_) | (refine wpList_store_mid rfl 36 (.tmp 4) _ rfl (w.heap.size + 1 + 1) 0 (hdC H').toArray ?hxn5 ?hyn5 ?htn5 (qz8 H') (qzc H') ?_))
  try (case hxln5 => rfl)
  case hcn5 => rw [hH.out]; exact (qz6 H1 0 (by simp [hdC]) _)
  try (case hxn5 => rfl)
  try (case hyn5 => rfl)
  case htn5 => exact (qz2 F1 _ _)
  refine bodyPost_ret (v := .agg (hdC H').toArray) ?_ rfl ⟨by rw [hv.out], ?_⟩
  ·exact qz4 Tryz.results75 _ _ (w.heap.size + 1 + 1) 0 rfl (hdC H') _ (World.rangeAt_setCells_same _ _ _ _ (qz2 F1 _ _)) Tryz.underlying36 rfl (qz1 _)
  ·exact Below.setCells (by omega) _ _ _ (Below.setCell K1 (p := ⟨w.heap.size + 1, 0, none⟩) (by show w.heap.size <= w.heap.size + 1; omega) _)
 obtain ⟨m, hcm⟩ : ∃ m : Nat, h.curr = m := ⟨h.curr.toNat, by omega⟩
 have hm : m < A.nodes.length := by omega
 have hm' : (m : Int) < (A.nodes.length : Int) := by omega
 have hm0 : (0 : Int) <= (m : Int) := by omega
 rw [hcm] at q16
 obtain ⟨bb, off, rfl, hbb, R⟩ := qzh.at I0.n (by omega)
 have z0 : w0.cell? ⟨bb, off + m * 3 + 0, none⟩ = some (.int .i64 A.nodes[m].key) := (qza (sz := 3) (fun _ => rfl) R m hm) 0 _ rfl
 have z1 : w0.cell? ⟨bb, off + m * 3 + 1, none⟩ = some (.int .i64 A.nodes[m].value) := (qza (sz := 3) (fun _ => rfl) R m hm) 1 _ rfl
 simp only [Nat.add_zero] at z0
 clear R
 by_cases hkey : A.nodes[m].key = h.key
 case neg =>
  have bk : (A.nodes[m].key == h.key) = false := by simp [hkey]
  go_quiet (fail)
  have X1 : (w0.drewN nq).rangeAt w.heap.size 0 [.int .i64 A.camera, .slice a0 A.slots.length c0, .slice a1 A.guides.length c1, .slice (some ⟨bb, off, none⟩) A.nodes.length c2, .slice a3 A.vers.length c3] := X0
  have H1 : (w0.drewN nq).rangeAt (w.heap.size + 1) 0 (hdC h) := H0
  have F1 : (w0.drewN nq).there (w.heap.size + 1 + 1) 0 22 := F0
  have K1 : Below w.heap.size w (w0.drewN nq) := ⟨K0.os, K0.tape, K0.output, K0.size, K0.block⟩
  have hz1 : w.heap.size + 1 + 1 < (w0.drewN nq).heap.size := hz0
  have I1 : qzi B (w0.drewN nq) (.slice a0 A.slots.length c0) (.slice a1 A.guides.length c1) (.slice (some ⟨bb, off, none⟩) A.nodes.length c2) (.slice a3 A.vers.length c3) A := I0.below ⟨rfl, rfl, rfl, Nat.le_refl _, fun _ _ => rfl⟩
  have y3 : (w0.drewN nq).cell? ⟨w.heap.size, 3, none⟩ = some (.slice (some ⟨bb, off, none⟩) A.nodes.length c2) := x3
  have y2 : (w0.drewN nq).cell? ⟨w.heap.size + 1, 2, none⟩ = some (.int .i64 h.code) := q2
  have y16 : (w0.drewN nq).cell? ⟨w.heap.size + 1, 16, none⟩ = some (.int .i64 m) := q16
  have y18 : (w0.drewN nq).cell? ⟨w.heap.size + 1, 18, none⟩ = some (.int .i64 h.new_) := q18
  have g0 : (w0.drewN nq).frozen? ⟨w.heap.size + 1, 0, none⟩ = false := f0
  have y0 : (w0.drewN nq).cell? ⟨w.heap.size + 1, 0, none⟩ = some (.int .i64 h.at_) := by simpa using H1 0 (.int .i64 h.at_) rfl
  generalize hw1 : w0.drewN nq = w1 at *
  clear hw1 X0 H0 F0 K0 I0 hz0 x0 x1 x2 x3 x4 q2 q3 q16 q18 f0 G0 z0 z1 bk
  by_cases k3 : h.code = 3
  ·have hv : Hid (qzo A h = (qzb h 3 0 0)) := by show _ = _; simp [qzo, hcm, qzs A m hm, hkey, k3]
   go_wp2_with (first | (refine wpList_load_mid rfl 36 (.tmp 3) rfl (w.heap.size + 1) 0 ?hxln6 (hdC h) _ ?hcn6 Tryz.underlying36 rfl (qz1 _) ?_))
   try (case hxln6 => rfl)
   try (case hcn6 => exact H1)
   refine (qzu h 3 0 0 _).mono ?_
   rintro e w2 ⟨rfl, b2⟩
   have F2 := qz3 F1 b2 (by omega)
   have K2 := K1.trans (b2.mono (by omega))
   go_wp2_with (refine wpList_store_mid rfl 36 (.tmp 4) _ rfl (w.heap.size + 1 + 1) 0 (hdC (qzb h 3 0 0)).toArray ?hxn6 ?hyn6 ?htn6 (qz8 (qzb h 3 0 0)) (qzc (qzb h 3 0 0)) ?_)
   try (case hxn6 => rfl)
   try (case hyn6 => rfl)
   case htn6 => exact F2
   refine bodyPost_ret (v := .agg (hdC (qzb h 3 0 0)).toArray) ?_ rfl ⟨by rw [hv.out], ?_⟩
   ·exact qz4 Tryz.results75 _ _ (w.heap.size + 1 + 1) 0 rfl (hdC (qzb h 3 0 0)) _ (World.rangeAt_setCells_same _ _ _ _ F2) Tryz.underlying36 rfl (qz1 _)
   ·exact Below.setCells (by omega) _ _ _ K2
  have b3 : (h.code == 3) = false := by simp [k3]
  by_cases k1 : h.code = 1
  ·by_cases kn : 0 <= h.new_
   ·obtain ⟨H', hH⟩ : ∃ H' : Hd, Hid (H' = { h with at_ := 8 }) := ⟨_, rfl⟩
    have hv : Hid (qzo A h = H') := by show _ = _; rw [hH.out]; simp [qzo, hcm, qzs A m hm, hkey, k1, kn]
    go_wp2_with (first | (refine wpList_load_mid rfl 36 (.tmp 3) rfl (w.heap.size + 1) 0 ?hxln7 (hdC H') _ ?hcn7 Tryz.underlying36 rfl (qz1 H') ?_) | (refine wpList_store_mid rfl 36 (.tmp 4) _ rfl (w.heap.size + 1 + 1) 0 (hdC H').toArray ?hxn7 ?hyn7 ?htn7 (qz8 H') (qzc H') ?_))
    try (case hxln7 => rfl)
    case hcn7 => rw [hH.out]; exact (qz6 (qz6 H1 0 (by simp [hdC]) _) 0 (by simp [hdC]) _)
    try (case hxn7 => rfl)
    try (case hyn7 => rfl)
    case htn7 => exact (qz2 (qz2 F1 _ _) _ _)
    refine bodyPost_ret (v := .agg (hdC H').toArray) ?_ rfl ⟨by rw [hv.out], ?_⟩
    ·exact qz4 Tryz.results75 _ _ (w.heap.size + 1 + 1) 0 rfl (hdC H') _ (World.rangeAt_setCells_same _ _ _ _ (qz2 (qz2 F1 _ _) _ _)) Tryz.underlying36 rfl (qz1 _)
    ·exact Below.setCells (by omega) _ _ _ (Below.setCell (Below.setCell K1 (p := ⟨w.heap.size + 1, 0, none⟩) (by show w.heap.size <= w.heap.size + 1; omega) _) (p := ⟨w.heap.size + 1, 0, none⟩) (by show w.heap.size <= w.heap.size + 1; omega) _)
   ·obtain ⟨H', hH⟩ : ∃ H' : Hd, Hid (H' = { h with at_ := 7 }) := ⟨_, rfl⟩
    have hv : Hid (qzo A h = H') := by show _ = _; rw [hH.out]; simp [qzo, hcm, qzs A m hm, hkey, k1, kn]
    go_wp2_with (first | (refine wpList_load_mid rfl 36 (.tmp 3) rfl (w.heap.size + 1) 0 ?hxln8 (hdC H') _ ?hcn8 Tryz.underlying36 rfl (qz1 H') ?_) | (refine wpList_store_mid rfl 36 (.tmp 4) _ rfl (w.heap.size + 1 + 1) 0 (hdC H').toArray ?hxn8 ?hyn8 ?htn8 (qz8 H') (qzc H') ?_))
    try (case hxln8 => rfl)
    case hcn8 => rw [hH.out]; exact (qz6 H1 0 (by simp [hdC]) _)
    try (case hxn8 => rfl)
    try (case hyn8 => rfl)
    case htn8 => exact (qz2 F1 _ _)
    refine bodyPost_ret (v := .agg (hdC H').toArray) ?_ rfl ⟨by rw [hv.out], ?_⟩
    ·exact qz4 Tryz.results75 _ _ (w.heap.size + 1 + 1) 0 rfl (hdC H') _ (World.rangeAt_setCells_same _ _ _ _ (qz2 F1 _ _)) Tryz.underlying36 rfl (qz1 _)
    ·exact Below.setCells (by omega) _ _ _ (Below.setCell K1 (p := ⟨w.heap.size + 1, 0, none⟩) (by show w.heap.size <= w.heap.size + 1; omega) _)
  have b1 : (h.code == 1) = false := by simp [k1]
  by_cases k2 : h.code = 2
  ·have hv : Hid (qzo A h = (qzb h 3 0 0)) := by show _ = _; simp [qzo, hcm, qzs A m hm, hkey, k2]
   go_wp2_with (first | (refine wpList_load_mid rfl 36 (.tmp 3) rfl (w.heap.size + 1) 0 ?hxln9 (hdC h) _ ?hcn9 Tryz.underlying36 rfl (qz1 _) ?_))
   try (case hxln9 => rfl)
   try (case hcn9 => exact H1)
   refine (qzu h 3 0 0 _).mono ?_
   rintro e w2 ⟨rfl, b2⟩
   have F2 := qz3 F1 b2 (by omega)
   have K2 := K1.trans (b2.mono (by omega))
   go_wp2_with (refine wpList_store_mid rfl 36 (.tmp 4) _ rfl (w.heap.size + 1 + 1) 0 (hdC (qzb h 3 0 0)).toArray ?hxn9 ?hyn9 ?htn9 (qz8 (qzb h 3 0 0)) (qzc (qzb h 3 0 0)) ?_)
   try (case hxn9 => rfl)
   try (case hyn9 => rfl)
   case htn9 => exact F2
   refine bodyPost_ret (v := .agg (hdC (qzb h 3 0 0)).toArray) ?_ rfl ⟨by rw [hv.out], ?_⟩
   ·exact qz4 Tryz.results75 _ _ (w.heap.size + 1 + 1) 0 rfl (hdC (qzb h 3 0 0)) _ (World.rangeAt_setCells_same _ _ _ _ F2) Tryz.underlying36 rfl (qz1 _)
   ·exact Below.setCells (by omega) _ _ _ K2
  have b2 : (h.code == 2) = false := by simp [k2]
  obtain ⟨H', hH⟩ : ∃ H' : Hd, Hid (H' = { h with at_ := 0 }) := ⟨_, rfl⟩
  have hv : Hid (qzo A h = H') := by show _ = _; rw [hH.out]; simp [qzo, k1, k2, k3]
  go_wp2_with (first | (refine wpList_load_mid rfl 36 (.tmp 3) rfl (w.heap.size + 1) 0 ?hxln10 (hdC H') _ ?hcn10 Tryz.underlying36 rfl (qz1 H') ?_) | (refine wpList_store_mid rfl 36 (.tmp 4) _ rfl (w.heap.size + 1 + 1) 0 (hdC H').toArray ?hxn10 ?hyn10 ?htn10 (qz8 H') (qzc H') ?_))
  try (case hxln10 => rfl)
  case hcn10 => rw [hH.out]; exact (qz6 H1 0 (by simp [hdC]) _)
  try (case hxn10 => rfl)
  try (case hyn10 => rfl)
  case htn10 => exact (qz2 F1 _ _)
  refine bodyPost_ret (v := .agg (hdC H').toArray) ?_ rfl ⟨by rw [hv.out], ?_⟩
  ·exact qz4 Tryz.results75 _ _ (w.heap.size + 1 + 1) 0 rfl (hdC H') _ (World.rangeAt_setCells_same _ _ _ _ (qz2 F1 _ _)) Tryz.underlying36 rfl (qz1 _)
  ·exact Below.setCells (by omega) _ _ _ (Below.setCell K1 (p := ⟨w.heap.size + 1, 0, none⟩) (by show w.heap.size <= w.heap.size + 1; omega) _)
 go_quiet (fail)
 have X1 : (w0.drewN nq).rangeAt w.heap.size 0 [.int .i64 A.camera, .slice a0 A.slots.length c0, .slice a1 A.guides.length c1, .slice (some ⟨bb, off, none⟩) A.nodes.length c2, .slice a3 A.vers.length c3] := X0
 have H1 : (w0.drewN nq).rangeAt (w.heap.size + 1) 0 (hdC h) := H0
 have F1 : (w0.drewN nq).there (w.heap.size + 1 + 1) 0 22 := F0
 have K1 : Below w.heap.size w (w0.drewN nq) := ⟨K0.os, K0.tape, K0.output, K0.size, K0.block⟩
 have hz1 : w.heap.size + 1 + 1 < (w0.drewN nq).heap.size := hz0
 have I1 : qzi B (w0.drewN nq) (.slice a0 A.slots.length c0) (.slice a1 A.guides.length c1) (.slice (some ⟨bb, off, none⟩) A.nodes.length c2) (.slice a3 A.vers.length c3) A := I0.below ⟨rfl, rfl, rfl, Nat.le_refl _, fun _ _ => rfl⟩
 have y3 : (w0.drewN nq).cell? ⟨w.heap.size, 3, none⟩ = some (.slice (some ⟨bb, off, none⟩) A.nodes.length c2) := x3
 have y2 : (w0.drewN nq).cell? ⟨w.heap.size + 1, 2, none⟩ = some (.int .i64 h.code) := q2
 have y16 : (w0.drewN nq).cell? ⟨w.heap.size + 1, 16, none⟩ = some (.int .i64 m) := q16
 have y18 : (w0.drewN nq).cell? ⟨w.heap.size + 1, 18, none⟩ = some (.int .i64 h.new_) := q18
 have g0 : (w0.drewN nq).frozen? ⟨w.heap.size + 1, 0, none⟩ = false := f0
 have y0 : (w0.drewN nq).cell? ⟨w.heap.size + 1, 0, none⟩ = some (.int .i64 h.at_) := by simpa using H1 0 (.int .i64 h.at_) rfl
 have y1 : (w0.drewN nq).cell? ⟨bb, off + m * 3 + 1, none⟩ = some (.int .i64 A.nodes[m].value) := z1
 generalize hw1 : w0.drewN nq = w1 at *
 clear hw1 X0 H0 F0 K0 I0 hz0 x0 x1 x2 x3 x4 q2 q3 q16 q18 f0 G0 z0 z1
 by_cases k3 : h.code = 3
 ·have hv : Hid (qzo A h = (qzb h 2 A.nodes[m].value 0)) := by show _ = _; simp [qzo, hcm, k3, qzs A m hm, hkey]
  go_wp2_with fail
  refine qzz 8 (by kernel_rfl) (by kernel_rfl) ?_
  simp only [List.take_succ_cons, List.take_zero, List.drop_succ_cons, List.drop_zero]
  repeat (first | (refine qz18 rfl 36 (.tmp 3) rfl (w.heap.size + 1) 0 ?s11x0 (hdC h) _ ?s11c0 Tryz.underlying36 rfl (qz1 _) ?_; (case s11x0 => rfl); (case s11c0 => rintro _ ⟨m, rfl⟩; exact H1)) | (quiet_step (fail)))
  refine wpQuiet_nil ?_
  rintro _ ⟨nr, rfl⟩
  go_wp2_with fail
  refine (qzu h 2 A.nodes[m].value 0 _).mono ?_
  rintro e w2 ⟨rfl, b2⟩
  have F2 := qz3 F1 (b := w.heap.size + 1 + 1) (B := w1.heap.size) (w' := w2) ⟨b2.os, b2.tape, b2.output, b2.size, b2.block⟩ (by omega)
  have K2 : Below w.heap.size w w2 := K1.trans (b := w1) ⟨b2.os, b2.tape, b2.output, b2.size, fun k hk => b2.block k (by show k < w1.heap.size; omega)⟩
  go_wp2_with (refine wpList_store_mid rfl 36 (.tmp 4) _ rfl (w.heap.size + 1 + 1) 0 (hdC (qzb h 2 A.nodes[m].value 0)).toArray ?hxn12 ?hyn12 ?htn12 (qz8 (qzb h 2 A.nodes[m].value 0)) (qzc (qzb h 2 A.nodes[m].value 0)) ?_)
  try (case hxn12 => rfl)
  try (case hyn12 => rfl)
  case htn12 => exact F2
  refine bodyPost_ret (v := .agg (hdC (qzb h 2 A.nodes[m].value 0)).toArray) ?_ rfl ⟨by rw [hv.out], ?_⟩
  ·exact qz4 Tryz.results75 _ _ (w.heap.size + 1 + 1) 0 rfl (hdC (qzb h 2 A.nodes[m].value 0)) _ (World.rangeAt_setCells_same _ _ _ _ F2) Tryz.underlying36 rfl (qz1 _)
  ·exact Below.setCells (by omega) _ _ _ K2
 have b3 : (h.code == 3) = false := by simp [k3]
 by_cases k1 : h.code = 1
 ·have hv : Hid (qzo A h = (qzb h 2 A.nodes[m].value 0)) := by show _ = _; simp [qzo, hcm, k1, qzs A m hm, hkey]
  go_wp2_with fail
  refine qzz 8 (by kernel_rfl) (by kernel_rfl) ?_
  simp only [List.take_succ_cons, List.take_zero, List.drop_succ_cons, List.drop_zero]
  repeat (first | (refine qz18 rfl 36 (.tmp 3) rfl (w.heap.size + 1) 0 ?s13x0 (hdC h) _ ?s13c0 Tryz.underlying36 rfl (qz1 _) ?_; (case s13x0 => rfl); (case s13c0 => rintro _ ⟨m, rfl⟩; exact H1)) | (quiet_step (fail)))
  refine wpQuiet_nil ?_
  rintro _ ⟨nr, rfl⟩
  go_wp2_with fail
  refine (qzu h 2 A.nodes[m].value 0 _).mono ?_
  rintro e w2 ⟨rfl, b2⟩
  have F2 := qz3 F1 (b := w.heap.size + 1 + 1) (B := w1.heap.size) (w' := w2) ⟨b2.os, b2.tape, b2.output, b2.size, b2.block⟩ (by omega)
  have K2 : Below w.heap.size w w2 := K1.trans (b := w1) ⟨b2.os, b2.tape, b2.output, b2.size, fun k hk => b2.block k (by show k < w1.heap.size; omega)⟩
  go_wp2_with (refine wpList_store_mid rfl 36 (.tmp 4) _ rfl (w.heap.size + 1 + 1) 0 (hdC (qzb h 2 A.nodes[m].value 0)).toArray ?hxn14 ?hyn14 ?htn14 (qz8 (qzb h 2 A.nodes[m].value 0)) (qzc (qzb h 2 A.nodes[m].value 0)) ?_)
  try (case hxn14 => rfl)
  try (case hyn14 => rfl)
  case htn14 => exact F2
  refine bodyPost_ret (v := .agg (hdC (qzb h 2 A.nodes[m].value 0)).toArray) ?_ rfl ⟨by rw [hv.out], ?_⟩
  ·exact qz4 Tryz.results75 _ _ (w.heap.size + 1 + 1) 0 rfl (hdC (qzb h 2 A.nodes[m].value 0)) _ (World.rangeAt_setCells_same _ _ _ _ F2) Tryz.underlying36 rfl (qz1 _)
  ·exact Below.setCells (by omega) _ _ _ K2
 have b1 : (h.code == 1) = false := by simp [k1]
 by_cases k2 : h.code = 2
 ·obtain ⟨H', hH⟩ : ∃ H' : Hd, Hid (H' = { h with at_ := 11 }) := ⟨_, rfl⟩
  have hv : Hid (qzo A h = H') := by show _ = _; rw [hH.out]; simp [qzo, hcm, k2, qzs A m hm, hkey]
  go_wp2_with (first | (refine wpList_load_mid rfl 36 (.tmp 3) rfl (w.heap.size + 1) 0 ?hxln15 (hdC H') _ ?hcn15 Tryz.underlying36 rfl (qz1 H') ?_) | (refine wpList_store_mid rfl 36 (.tmp 4) _ rfl (w.heap.size + 1 + 1) 0 (hdC H').toArray ?hxn15 ?hyn15 ?htn15 (qz8 H') (qzc H') ?_))
  try (case hxln15 => rfl)
  case hcn15 => rw [hH.out]; exact (qz6 H1 0 (by simp [hdC]) _)
  try (case hxn15 => rfl)
  try (case hyn15 => rfl)
  case htn15 => exact (qz2 F1 _ _)
  refine bodyPost_ret (v := .agg (hdC H').toArray) ?_ rfl ⟨by rw [hv.out], ?_⟩
  ·exact qz4 Tryz.results75 _ _ (w.heap.size + 1 + 1) 0 rfl (hdC H') _ (World.rangeAt_setCells_same _ _ _ _ (qz2 F1 _ _)) Tryz.underlying36 rfl (qz1 _)
  ·exact Below.setCells (by omega) _ _ _ (Below.setCell K1 (p := ⟨w.heap.size + 1, 0, none⟩) (by show w.heap.size <= w.heap.size + 1; omega) _)
 have b2 : (h.code == 2) = false := by simp [k2]
 obtain ⟨H', hH⟩ : ∃ H' : Hd, Hid (H' = { h with at_ := 0 }) := ⟨_, rfl⟩
 have hv : Hid (qzo A h = H') := by show _ = _; rw [hH.out]; simp [qzo, k1, k2, k3]
 go_wp2_with (first | (refine wpList_load_mid rfl 36 (.tmp 3) rfl (w.heap.size + 1) 0 ?hxln16 (hdC H') _ ?hcn16 Tryz.underlying36 rfl (qz1 H') ?_) | (refine wpList_store_mid rfl 36 (.tmp 4) _ rfl (w.heap.size + 1 + 1) 0 (hdC H').toArray ?hxn16 ?hyn16 ?htn16 (qz8 H') (qzc H') ?_))
 try (case hxln16 => rfl)
 case hcn16 => rw [hH.out]; exact (qz6 H1 0 (by simp [hdC]) _)
 try (case hxn16 => rfl)
 try (case hyn16 => rfl)
 case htn16 => exact (qz2 F1 _ _)
 refine bodyPost_ret (v := .agg (hdC H').toArray) ?_ rfl ⟨by rw [hv.out], ?_⟩
 ·exact qz4 Tryz.results75 _ _ (w.heap.size + 1 + 1) 0 rfl (hdC H') _ (World.rangeAt_setCells_same _ _ _ _ (qz2 F1 _ _)) Tryz.underlying36 rfl (qz1 _)
 ·exact Below.setCells (by omega) _ _ _ (Below.setCell K1 (p := ⟨w.heap.size + 1, 0, none⟩) (by show w.heap.size <= w.heap.size + 1; omega) _)
theorem qz41 (B : Nat) (A : Ar) (h : Hd) (n : Int) (a0 a1 a2 a3 : Option Addr) (c0 c1 c2 c3 : Nat) (w : World) (hB : B <= w.heap.size) (hA : A.size <= 1048576) (I : qzi B w (.slice a0 A.slots.length c0) (.slice a1 A.guides.length c1) (.slice a2 A.nodes.length c2) (.slice a3 A.vers.length c3) A)  :
  Calls Tryz.prog 74 #[.agg #[.int .i64 A.camera, .slice a0 A.slots.length c0, .slice a1 A.guides.length c1, .slice a2 A.nodes.length c2, .slice a3 A.vers.length c3], .agg (hdC h).toArray, .int .i64 n] w fun e w' => e = .returned (.agg (hdC (qz2f A h n)).toArray) /\ Below w.heap.size w w' := by
 have hA' := hA
 unfold Ar.size at hA
 have X0 := World.rangeAt_alloc (World.rangeAt_alloc (qz5 w [.int .i64 A.camera, .slice a0 A.slots.length c0, .slice a1 A.guides.length c1, .slice a2 A.nodes.length c2, .slice a3 A.vers.length c3] 35) (.cells (hdC h).toArray 36)) (.cells #[.int .i64 0, .int .i64 0, .int .i64 0, .int .i64 0, .int .i64 0, .int .i64 0, .int .i64 0, .int .i64 0, .int .i64 0, .int .i64 0, .int .i64 0, .int .i64 0, .int .i64 0, .int .i64 0, .int .i64 0, .int .i64 0, .int .i64 0, .int .i64 0, .int .i64 0, .int .i64 0, .int .i64 0, .int .i64 0] 36)
 have H0 := World.rangeAt_alloc (qz5 (w.alloc (.cells #[.int .i64 A.camera, .slice a0 A.slots.length c0, .slice a1 A.guides.length c1, .slice a2 A.nodes.length c2, .slice a3 A.vers.length c3] 35)) (hdC h) 36) (.cells #[.int .i64 0, .int .i64 0, .int .i64 0, .int .i64 0, .int .i64 0, .int .i64 0, .int .i64 0, .int .i64 0, .int .i64 0, .int .i64 0, .int .i64 0, .int .i64 0, .int .i64 0, .int .i64 0, .int .i64 0, .int .i64 0, .int .i64 0, .int .i64 0, .int .i64 0, .int .i64 0, .int .i64 0, .int .i64 0] 36)
 have G0 := World.there_alloc (qzf (w.alloc (.cells #[.int .i64 A.camera, .slice a0 A.slots.length c0, .slice a1 A.guides.length c1, .slice a2 A.nodes.length c2, .slice a3 A.vers.length c3] 35)) (hdC h).toArray 36 22 (by simp [hdC])) (.cells #[.int .i64 0, .int .i64 0, .int .i64 0, .int .i64 0, .int .i64 0, .int .i64 0, .int .i64 0, .int .i64 0, .int .i64 0, .int .i64 0, .int .i64 0, .int .i64 0, .int .i64 0, .int .i64 0, .int .i64 0, .int .i64 0, .int .i64 0, .int .i64 0, .int .i64 0, .int .i64 0, .int .i64 0, .int .i64 0] 36)
 have F0 := qzf ((w.alloc (.cells #[.int .i64 A.camera, .slice a0 A.slots.length c0, .slice a1 A.guides.length c1, .slice a2 A.nodes.length c2, .slice a3 A.vers.length c3] 35)).alloc (.cells (hdC h).toArray 36)) #[.int .i64 0, .int .i64 0, .int .i64 0, .int .i64 0, .int .i64 0, .int .i64 0, .int .i64 0, .int .i64 0, .int .i64 0, .int .i64 0, .int .i64 0, .int .i64 0, .int .i64 0, .int .i64 0, .int .i64 0, .int .i64 0, .int .i64 0, .int .i64 0, .int .i64 0, .int .i64 0, .int .i64 0, .int .i64 0] 36 22 (by decide)
 have K0 := (((Below.refl w.heap.size w).alloc (Nat.le_refl _) (.cells #[.int .i64 A.camera, .slice a0 A.slots.length c0, .slice a1 A.guides.length c1, .slice a2 A.nodes.length c2, .slice a3 A.vers.length c3] 35)).alloc (by simp) (.cells (hdC h).toArray 36)).alloc (by simp; omega) (.cells #[.int .i64 0, .int .i64 0, .int .i64 0, .int .i64 0, .int .i64 0, .int .i64 0, .int .i64 0, .int .i64 0, .int .i64 0, .int .i64 0, .int .i64 0, .int .i64 0, .int .i64 0, .int .i64 0, .int .i64 0, .int .i64 0, .int .i64 0, .int .i64 0, .int .i64 0, .int .i64 0, .int .i64 0, .int .i64 0] 36)
 have hz0 : w.heap.size + 1 + 1 < (((w.alloc (.cells #[.int .i64 A.camera, .slice a0 A.slots.length c0, .slice a1 A.guides.length c1, .slice a2 A.nodes.length c2, .slice a3 A.vers.length c3] 35)).alloc (.cells (hdC h).toArray 36)).alloc (.cells #[.int .i64 0, .int .i64 0, .int .i64 0, .int .i64 0, .int .i64 0, .int .i64 0, .int .i64 0, .int .i64 0, .int .i64 0, .int .i64 0, .int .i64 0, .int .i64 0, .int .i64 0, .int .i64 0, .int .i64 0, .int .i64 0, .int .i64 0, .int .i64 0, .int .i64 0, .int .i64 0, .int .i64 0, .int .i64 0] 36)).heap.size := by simp
 simp only [World.size_alloc] at H0 G0 F0
 have I0 := I.below (K0.mono hB)
 go_enter Tryz.func74, Tryz.ntmps74
 have tok : True := trivial
 go_wp2_with (clear tok; refine qz24 (((w.alloc (.cells #[.int .i64 A.camera, .slice a0 A.slots.length c0, .slice a1 A.guides.length c1, .slice a2 A.nodes.length c2, .slice a3 A.vers.length c3] 35)).alloc (.cells (hdC h).toArray 36)).alloc (.cells #[.int .i64 0, .int .i64 0, .int .i64 0, .int .i64 0, .int .i64 0, .int .i64 0, .int .i64 0, .int .i64 0, .int .i64 0, .int .i64 0, .int .i64 0, .int .i64 0, .int .i64 0, .int .i64 0, .int .i64 0, .int .i64 0, .int .i64 0, .int .i64 0, .int .i64 0, .int .i64 0, .int .i64 0, .int .i64 0] 36)) ?_)
 generalize hw0 : ((w.alloc (.cells #[.int .i64 A.camera, .slice a0 A.slots.length c0, .slice a1 A.guides.length c1, .slice a2 A.nodes.length c2, .slice a3 A.vers.length c3] 35)).alloc (.cells (hdC h).toArray 36)).alloc (.cells #[.int .i64 0, .int .i64 0, .int .i64 0, .int .i64 0, .int .i64 0, .int .i64 0, .int .i64 0, .int .i64 0, .int .i64 0, .int .i64 0, .int .i64 0, .int .i64 0, .int .i64 0, .int .i64 0, .int .i64 0, .int .i64 0, .int .i64 0, .int .i64 0, .int .i64 0, .int .i64 0, .int .i64 0, .int .i64 0] 36) = w0 at *
 clear hw0 I
 show wpList _ _ _ _ _ w0
 obtain ⟨x0, x1, x2, x3, x4⟩ := row5 X0
 have q0 : w0.cell? ⟨w.heap.size + 1, 0, none⟩ = some (.int .i64 h.at_) := by simpa using H0 0 (.int .i64 h.at_) rfl
 have q1 : w0.cell? ⟨w.heap.size + 1, 1, none⟩ = some (.int .i64 h.then_) := by simpa using H0 1 (.int .i64 h.then_) rfl
 have q10 : w0.cell? ⟨w.heap.size + 1, 10, none⟩ = some (.int .i64 h.x_) := by simpa using H0 10 (.int .i64 h.x_) rfl
 have q16 : w0.cell? ⟨w.heap.size + 1, 16, none⟩ = some (.int .i64 h.curr) := by simpa using H0 16 (.int .i64 h.curr) rfl
 have f0 : w0.frozen? ⟨w.heap.size + 1, 0, none⟩ = false := by simpa using (G0 0 (by decide)).2
 have f1 : w0.frozen? ⟨w.heap.size + 1, 1, none⟩ = false := by simpa using (G0 1 (by decide)).2
 have f10 : w0.frozen? ⟨w.heap.size + 1, 10, none⟩ = false := by simpa using (G0 10 (by decide)).2
 have f16 : w0.frozen? ⟨w.heap.size + 1, 16, none⟩ = false := by simpa using (G0 16 (by decide)).2
 by_cases hn : n = -1
 ·subst hn
  obtain ⟨H', hH⟩ : ∃ H' : Hd, Hid (H' = { h with curr := -1 }) := by exact ⟨_, rfl⟩
  have hv : Hid (qz2f A h (-1) = qzo A H') := by show _ = _; rw [hH.out]; simp [qz2f]
  go_wp2_with (first | (refine wpList_load_mid rfl 36 (.tmp 4) rfl (w.heap.size + 1) 0 ?hxln17 (hdC H') _ ?hcn17 Tryz.underlying36 rfl (qz1 H') ?_))
  try (case hxln17 => rfl)
  case hcn17 => rw [hH.out]; exact (qz6 H0 16 (by simp [hdC]) _)
  refine (qz5r B A H' _ _ _ _ _ _ _ _ _ (by first | omega | (simp; omega)) hA' (I0.below (Below.setCell (Below.refl B w0) (p := ⟨w.heap.size + 1, 16, none⟩) (by show B <= w.heap.size + 1; omega) _)) (by rw [hH.out]; show (-1 : Int) < _; omega)).mono ?_
  rintro e w2 ⟨rfl, b2⟩
  have F2 := qz3 (qz2 F0 _ _) b2 (by first | omega | (simp; omega))
  have K2 := (Below.setCell K0 (p := ⟨w.heap.size + 1, 16, none⟩) (by show w.heap.size <= w.heap.size + 1; omega) _).trans (b2.mono (by first | omega | (simp; omega)))
  go_wp2_with (refine wpList_store_mid rfl 36 (.tmp 6) _ rfl (w.heap.size + 1 + 1) 0 (hdC (qzo A H')).toArray ?hxn17 ?hyn17 ?htn17 (qz8 _) (qzc _) ?_)
  try (case hxn17 => rfl)
  try (case hyn17 => rfl)
  case htn17 => exact F2
  refine bodyPost_ret (v := .agg (hdC (qzo A H')).toArray) ?_ rfl ⟨by rw [hv.out], ?_⟩
  ·exact qz4 Tryz.results74 _ _ (w.heap.size + 1 + 1) 0 rfl (hdC (qzo A H')) _ (World.rangeAt_setCells_same _ _ _ _ F2) Tryz.underlying36 rfl (qz1 _)
  ·exact Below.setCells (by omega) _ _ _ K2
 have bn : (n == -1) = false := by simp [hn]
 obtain ⟨H', hH⟩ : ∃ H' : Hd, Hid (H' = { h with curr := n, x_ := n, then_ := 2, at_ := 2 }) := by exact ⟨_, rfl⟩
 have hv : Hid (qz2f A h n = H') := by show _ = _; rw [hH.out]; simp [qz2f, hn]
 go_wp2_with (first | (refine wpList_load_mid rfl 36 (.tmp 4) rfl (w.heap.size + 1) 0 ?hxln18 (hdC H') _ ?hcn18 Tryz.underlying36 rfl (qz1 H') ?_) | (refine wpList_store_mid rfl 36 (.tmp 6) _ rfl (w.heap.size + 1 + 1) 0 (hdC H').toArray ?hxn18 ?hyn18 ?htn18 (qz8 _) (qzc _) ?_))
 try (case hxln18 => rfl)
 case hcn18 => rw [hH.out]; exact (qz6 (qz6 (qz6 (qz6 H0 16 (by simp [hdC]) _) 10 (by simp [hdC]) _) 1 (by simp [hdC]) _) 0 (by simp [hdC]) _)
 try (case hxn18 => rfl)
 try (case hyn18 => rfl)
 case htn18 => exact (qz2 (qz2 (qz2 (qz2 F0 _ _) _ _) _ _) _ _)
 refine bodyPost_ret (v := .agg (hdC H').toArray) ?_ rfl ⟨by rw [hv.out], ?_⟩
 ·exact qz4 Tryz.results74 _ _ (w.heap.size + 1 + 1) 0 rfl (hdC H') _ (World.rangeAt_setCells_same _ _ _ _ (qz2 (qz2 (qz2 (qz2 F0 _ _) _ _) _ _) _ _)) Tryz.underlying36 rfl (qz1 _)
 ·exact Below.setCells (by omega) _ _ _ (Below.setCell (Below.setCell (Below.setCell (Below.setCell K0 (p := ⟨w.heap.size + 1, 16, none⟩) (by show w.heap.size <= w.heap.size + 1; omega) _) (p := ⟨w.heap.size + 1, 10, none⟩) (by show w.heap.size <= w.heap.size + 1; omega) _) (p := ⟨w.heap.size + 1, 1, none⟩) (by show w.heap.size <= w.heap.size + 1; omega) _) (p := ⟨w.heap.size + 1, 0, none⟩) (by show w.heap.size <= w.heap.size + 1; omega) _)
end
section
attribute [local go_sem ↓] Go.wp_at_zero Go.wp_at_succ
theorem qzk (x y : Int) (w : World) : Calls Tryz.prog 43 #[.int .i64 x, .int .i64 y] w fun e w' => e = .returned (.int .i64 (min x y)) /\ w' = w := by
 by_cases h : x < y
 ·go_enter Tryz.func43, Tryz.ntmps43
  go_wp2
  go_ret
  exact ⟨by rw [show min x y = x by omega]; rfl, rfl⟩
 ·go_enter Tryz.func43, Tryz.ntmps43
  go_wp2
  go_ret
  exact ⟨by rw [show min x y = y by omega]; rfl, rfl⟩
theorem qz10 (x y : Int) (w : World) : Calls Tryz.prog 76 #[.int .i64 x, .int .i64 y] w fun e w' => e = .returned (.int .i64 (max x y)) /\ w' = w := by
 by_cases h : y < x
 ·go_enter Tryz.func76, Tryz.ntmps76
  go_wp2
  go_ret
  exact ⟨by rw [show max x y = x by omega]; rfl, rfl⟩
 ·go_enter Tryz.func76, Tryz.ntmps76
  go_wp2
  go_ret
  exact ⟨by rw [show max x y = y by omega]; rfl, rfl⟩
theorem qz4q {x y z u : Int} {A : Ar} (h : qz14 x y z u A = true) (n : Nat) (hn : n < A.nodes.length) : 0 <= A.nodes[n].value /\ A.nodes[n].value <= 9999 := by
 have := (qz1e _ _).1 (qz36 h).2.2.2.1 n hn
 unfold qz3c at this
 split at this <;> (simp only [Bool.and_eq_true, qz2c, beq_iff_eq] at this; omega)
theorem qz44 {x y z u : Int} {A : Ar} (h : qz14 x y z u A = true) (n : Nat) (hn : n < A.vers.length) : (A.vers[n].next = -1 ∨ 1 <= A.vers[n].next /\ A.vers[n].next < (A.nodes.length : Int)) /\ (-1 <= A.vers[n].stamp /\ A.vers[n].stamp <= A.camera) /\ (-1 <= A.vers[n].prev /\ A.vers[n].prev < (n : Int)) /\ (0 <= A.vers[n].kind /\ A.vers[n].kind <= 2) := by
 have := (qz1e _ _).1 (qz36 h).2.2.2.2 n hn
 simp only [verB, Bool.and_eq_true, Bool.or_eq_true, qz2c, beq_iff_eq] at this
 omega
def qz6v (A : Ar) (h : Hd) : Hd := { h with out := min (h.out + 1) 1000000, sum := min (h.sum + (ndOf A h.x_).value) 1000000 }
def qz2q (A : Ar) (h : Hd) : Bool := decide (h.x_ ≠ 0) && (h.code == 7) && inB (ndOf A h.x_).key h.key h.value && !(vrOf A h.ver).gone
def qz2k (A : Ar) (h : Hd) : Bool := decide ((vrOf A h.ver).next < 0) || decide ((if h.code = 7 then h.value else h.key) < (ndOf A (vrOf A h.ver).next).key)
def useH (A : Ar) (h : Hd) : Hd :=
 if h.code ≠ 6 /\ h.code ≠ 7 then { h with at_ := 0 }
 else if h.x_ ≠ 0 /\ h.code = 6 /\ (ndOf A h.x_).key = h.key then (if (vrOf A h.ver).gone then qzb h 3 0 0 else qzb h 2 (ndOf A h.x_).value 0)
 else if qz2k A h then (if h.code = 6 then qzb h 3 0 0 else qzb h 4 (if qz2q A h then qz6v A h else h).out (if qz2q A h then qz6v A h else h).sum)
 else { (if qz2q A h then qz6v A h else h) with x_ := (vrOf A h.ver).next, at_ := 2 }
end
end Go.Proofs.YtknncnaikeinbaaGreat
