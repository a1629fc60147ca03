/-
  What the law's proof goes by, part 4.
-/
import Derived.Test.YthjkdnlmopafkaaGreatDoorFnSwappedCard00
import Derived.Test.YthjkdnlmopafkaaGreatDoorFnSwappedCard01
import Derived.Test.YthjkdnlmopafkaaGreatDoorFnSwappedCard02
namespace Go.Proofs.YthjkdnlmopafkaaGreatDoor
open Go.ChangeShapes Go.WideShapes Go.ChangeAt Go.RowKit
set_option maxRecDepth 100000
set_option maxHeartbeats 16000000
set_option linter.unusedVariables false
set_option linter.unusedSimpArgs false
set_option linter.unnecessarySimpa false
set_option linter.unusedSectionVars false
section
theorem qz1m {P : Program} {ops : Array Oper} {md : Region.Mode} {Q : Exit -> Act -> World -> Prop} (c : Nat) : ∀ (l : List Oper) (n : Nat) (listed : Array Bool) (a : Act) (w : World), (∀ j, l[j]? = ops[n + j]?) -> qz4x md ops l.length n listed = true -> wpList P ops Q l a w -> wpAny P md ops Q (l.length + c) listed a w
 | [], _, listed, a, w, _, hB, h => by
  have h0 : Region.ready md ops listed = [] := by simpa [qz4x] using hB
  exact wpAny_done h0 h _
 | o :: l, n, listed, a, w, hl, hB, h => by
  have h0 : ops[n]? = some o := by simpa using (hl 0).symm
  simp only [List.length_cons, qz4x, Bool.and_eq_true] at hB
  obtain ⟨hr, hB'⟩ := hB
  have hr' : Region.ready md ops listed = [n] := by simpa using hr
  have ih := fun a w => qz1m (P := P) (Q := Q) c l (n + 1) (listed.setIfInBounds n true) a w (fun j => by have := hl (j + 1); simpa [Nat.add_assoc, Nat.add_comm 1 j] using this) hB'
  rw [show (o :: l).length + c = (l.length + c) + 1 by simp; omega]
  refine wpAny_all hr' (by simp) (fun i hi => ?_)
  obtain rfl := List.mem_singleton.1 hi
  unfold wpOp
  unfold wpList at h
  simp only [h0]
  split
  ·rename_i hwd
   rw [if_pos hwd] at h
   rcases h with h | h
   ·exact .inl (Oper.wp_mono ih h)
   ·exact .inr h
  ·rename_i hwd
   rw [if_neg hwd] at h
   exact ih _ _ h
theorem qz3o (a : Array Bool) (i : Nat) (h : i < a.size) : a[i] = a.getD i false := by simp [h]
theorem qz40 {listed : Array Bool} {k m i : Nat} (hs : listed.size = k + m) (ht : ∀ j, k <= j -> listed.getD j false = false) (hi : i < k) (hu : listed.getD i false = false) : m + 1 <= qz4c listed := by
 unfold qz4c
 rw [<- List.take_append_drop k listed.toList, List.count_append]
 have h1 : (listed.toList.drop k).count false = m := by
  rw [List.count_eq_length.2]
  ·simp [hs]
  ·intro b hb
   obtain ⟨j, hj, rfl⟩ := List.getElem_of_mem hb
   have h2 := ht (k + j) (by omega)
   simp at hj
   have h3 : k + j < listed.size := by omega
   simp [h3] at h2
   simp [h2]
 have h2 : 0 < (listed.toList.take k).count false := by
  apply List.count_pos_iff.2
  have h3 : i < listed.size := by omega
  have h4 : listed[i] = false := by simpa [h3] using hu
  rw [<- h4]
  apply List.mem_iff_getElem.2
  exact ⟨i, by simp; omega, by simp⟩
 omega
def qze2 (ops : Array Oper) (k m : Nat) : Bool := (ops.size == k + m) && qzan .any ops k && qz4x .any ops m k Q56
theorem qz2o {P : Program} {l : List Oper} {Q : Exit -> Act -> World -> Prop} {id : Nat} {a0 : Act} {w0 : World} (k : Nat) (hm : P.follows .mixedOrders = true)
  (G : Nat -> Value -> World -> Prop) (fresh : Nat -> Bool) (hT : qze2 l.toArray k (l.length - k) = true) (hL : qze1 l.toArray = true) (hBk : qzgq l.toArray = true) (hg : (l.take k).all (fun o => o.guard.isNone) = true)
  (hdst0 : dstB l.toArray a0.tmps.size = true)
  (mono : ∀ i v w w', Q73 <= Q6o -> G i v w -> Below Q6o w w' -> G i v w')
  (blk : ∀ i v w b, fresh i = true -> G i v w -> qz3e v = some b -> b < Q6o)
  (step : ∀ (i : Nat) (o : Oper), i < k -> l[i]? = some o -> ∀ (a : Act) (w : World), Below Q73 w0 w -> (∀ t, qz7m l.toArray t = true -> a.eval (.tmp t) = a0.tmps.getD t undef) ->
   (∀ e ∈ o.after, Region.binds .any e = true -> ∀ d, qz2v l.toArray e.on = some d -> G e.on (a.eval (.tmp d)) w) ->
   ∀ K : Act -> World -> Prop, (∀ v w', G i v w' -> Below Q6o w w' -> (fresh i = true -> ∀ b, qz3e v = some b -> Q6o <= b) -> K (a.put o.dst v) w') -> o.wp P a w K Q)
  (final : ∀ vs w', Below Q73 w0 w' -> (∀ i, i < k -> G i (vs i) w') ->
   (∀ i j b, i < k -> j < k -> i ≠ j -> fresh i = true -> fresh j = true -> qz3e (vs i) = some b -> qz3e (vs j) ≠ some b) ->
   wpList P l.toArray Q (l.drop k) (laid l.toArray vs Q15 (List.range Q70) a0) w') :
  (Code.region id l.toArray true).wp P Q a0 w0 := by
 have hdst := qz9b hdst0
 have L := qz67 hL
 have hBack : ∀ i, i < k -> ∀ o, l.toArray[i]? = some o -> ∀ e ∈ o.after, e.on < i := fun i _ o ho => qzbc hBk i o ho
 simp only [qze2, Bool.and_eq_true, beq_iff_eq] at hT
 obtain ⟨⟨hkm, hw⟩, hseq⟩ := hT
 have hsl : Q70 = l.length := by simp
 have hkl : k <= l.length := by omega
 refine wp_region_any hm ?_
 have key : ∀ (c : Nat) (listed : Array Bool) (vs : Nat -> Value) (w : World), qz4c listed <= c + (l.length - k) -> listed.size = Q70 -> qz4r .any l.toArray listed -> (∀ j, k <= j -> listed.getD j false = false) -> Below Q73 w0 w ->
   (∀ i, i < Q70 -> listed.getD i false = true -> G i (vs i) w) ->
   (∀ i j b, i < Q70 -> j < Q70 -> i ≠ j -> listed.getD i false = true -> listed.getD j false = true -> fresh i = true -> fresh j = true -> qz3e (vs i) = some b -> qz3e (vs j) ≠ some b) ->
   wpAny P .any l.toArray Q (c + (l.length - k)) listed (laid l.toArray vs listed (List.range Q70) a0) w := by
  intro c
  induction c with
  | zero =>
   intro listed vs w hf hs hc htail hb hG hD
   by_cases hall : ∀ i, i < k -> listed.getD i false = true
   ·have he : listed = qz3c k 0 (Array.replicate Q70 false) := by
     apply Array.ext
     ·rw [qz28, hs]; simp
     ·intro i h1 h2
      have g := qz2p k 0 (Array.replicate Q70 false) i (by simp; omega)
      have g1 : Q15[i] = (Q15).getD i false := qz3o _ _ h2
      have g2 : listed[i] = listed.getD i false := by simp [h1]
      rw [g1, g2, g]
      by_cases c : i < k
      ·rw [if_pos (by omega), hall i c]
      ·have hio : i < l.length := by omega
       rw [if_neg (by omega), htail i (by omega)]
       simp [hio]
    have hfin := final vs w hb (fun i hi => hG i (by omega) (hall i hi)) (fun i j b hi hj hij => hD i j b (by omega) (by omega) hij (hall i hi) (hall j hj))
    rw [<- he] at hfin
    have := qz1m (P := P) (md := .any) (Q := Q) 0 (l.drop k) k listed _ w (fun j => by simp) (by rw [he]; simpa using hseq) hfin
    simpa using this
   ·exfalso
    simp only [Classical.not_forall] at hall
    obtain ⟨i, hi, hu⟩ := hall
    have := qz40 (m := l.length - k) (by omega) htail hi (by simpa using hu)
    omega
  | succ c ih =>
   intro listed vs w hf hs hc htail hb hG hD
   by_cases hall : ∀ i, i < k -> listed.getD i false = true
   ·have he : listed = qz3c k 0 (Array.replicate Q70 false) := by
     apply Array.ext
     ·rw [qz28, hs]; simp
     ·intro i h1 h2
      have g := qz2p k 0 (Array.replicate Q70 false) i (by simp; omega)
      have g1 : Q15[i] = (Q15).getD i false := qz3o _ _ h2
      have g2 : listed[i] = listed.getD i false := by simp [h1]
      rw [g1, g2, g]
      by_cases c : i < k
      ·rw [if_pos (by omega), hall i c]
      ·have hio : i < l.length := by omega
       rw [if_neg (by omega), htail i (by omega)]
       simp [hio]
    have hfin := final vs w hb (fun i hi => hG i (by omega) (hall i hi)) (fun i j b hi hj hij => hD i j b (by omega) (by omega) hij (hall i hi) (hall j hj))
    rw [<- he] at hfin
    have := qz1m (P := P) (md := .any) (Q := Q) (c + 1) (l.drop k) k listed _ w (fun j => by simp) (by rw [he]; simpa using hseq) hfin
    rw [show c + 1 + (l.length - k) = (l.drop k).length + (c + 1) by simp; omega]
    exact this
   simp only [Classical.not_forall] at hall
   obtain ⟨i1, hi1, hu1⟩ := hall
   have hu1' : listed.getD i1 false = false := by simpa using hu1
   have hu1'' : listed.getD i1 true = false := by
    have : i1 < listed.size := by omega
    simpa [this] using hu1'
   have hex : ∃ i, i < k /\ i ∈ Region.ready .any l.toArray listed := by
    apply Classical.byContradiction
    intro hno
    have : ∀ n i, i < n -> i < k -> listed.getD i false = true := by
     intro n
     induction n with
     | zero => intro i hi; omega
     | succ n ihn =>
      intro i hi hik
      rcases Nat.lt_or_ge i n with h | h
      ·exact ihn i h hik
      ·have hin : i = n := by omega
       subst hin
       cases hq : listed.getD i false with
       | true => rfl
       | false =>
        exfalso
        apply hno
        refine ⟨i, hik, mem_ready.2 ⟨?_, ?_⟩⟩
        ·have : i < listed.size := by omega
         simpa [this] using hq
        ·have hil : i < Q70 := by omega
         refine ⟨l.toArray[i], by simp, fun e he hbd => ?_⟩
         exact ihn e.on (hBack i hik _ (by simp) e he) (Nat.lt_trans (hBack i hik _ (by simp) e he) hik)
    have h9 := this (i1 + 1) i1 (by omega) hi1
    rw [hu1'] at h9
    cases h9
   rw [show c + 1 + (l.length - k) = (c + (l.length - k)) + 1 by omega]
   obtain ⟨i0, hi0, hr0⟩ := hex
   refine ⟨fun h0 => (by rw [h0] at hr0; cases hr0), ?_⟩
   intro i hi
   have hik := qz37 hw hc hi1 hu1'' hi
   obtain ⟨h0, o, ho, hall⟩ := mem_ready.1 hi
   have hi' : i < Q70 := (Array.getElem?_eq_some_iff.1 ho).1
   have hlt : i < listed.size := by omega
   have h1 : listed.getD i false = false := by simpa [hlt] using h0
   have ho' : l[i]? = some o := by simpa using ho
   have hguard : o.guard = none := by
    have := (List.all_eq_true.1 hg) o (List.mem_of_getElem? (i := i) (by rw [List.getElem?_take]; simp [hik, ho']))
    simpa using this
   have hnd : (List.range Q70).Nodup := List.nodup_range
   have hlt' : ∀ e ∈ o.after, Region.binds .any e = true -> ∀ d, qz2v l.toArray e.on = some d -> e.on < Q70 /\ listed.getD e.on false = true /\ (laid l.toArray vs listed (List.range Q70) a0).eval (.tmp d) = vs e.on := by
    intro e he hbd d hd
    have hel := hall e he hbd
    have hes : e.on < Q70 := by
     rcases Nat.lt_or_ge e.on Q70 with h | h
     ·exact h
     ·simp only [qz2v, Array.getElem?_eq_none h] at hd
      cases hd
    exact ⟨hes, hel, qz43 L vs listed e.on d hd hel _ _ hnd (List.mem_range.2 hes) (hdst _ _ hd)⟩
   have hstep := step i o hik ho' (laid l.toArray vs listed (List.range Q70) a0) w hb
    (fun t ht => qz21 l.toArray vs listed t _ _ (fun k _ => qz4s ht k))
    (fun e he hbd d hd => by
     obtain ⟨h2, h3, h4⟩ := hlt' e he hbd d hd
     rw [h4]
     exact hG e.on h2 h3)
   have hwn : Region.wanted o (yielded l.toArray (laid l.toArray vs listed (List.range Q70) a0).tmps) = true := by simp [Region.wanted, hguard]
   unfold wpOp
   simp only [ho, hwn, if_true]
   refine Or.inl (hstep _ ?_)
   intro v w' hGi hb' hfr
   have hd' : o.dst = qz2v l.toArray i := by simp only [qz2v, ho, Option.bind_some]
   rw [hd', qz4d L vs listed i v hlt h1 _ _ hnd (List.mem_range.2 hi')]
   have hsz := hb.size
   refine ih _ _ _ (by have := qz2w hlt h1; omega) (by simpa using hs) (hc.set hi) (fun j hj => by rw [getD_set_ne false (by omega)]; exact htail j hj) (hb.trans (hb'.mono hsz)) ?_ ?_
   ·intro j hj hjl
    by_cases hji : j = i
    ·subst hji
     simp only [upd, if_true]
     exact hGi
    ·rw [getD_set_ne false (Ne.symm hji)] at hjl
     simp only [upd, hji, if_false]
     exact mono j _ w w' hsz (hG j hj hjl) hb'
   ·intro j k b hj hk hjk hjl hkl hfj hfk hbj hbk
    by_cases hji : j = i
    ·subst hji
     have hkj : k ≠ j := Ne.symm hjk
     rw [getD_set_ne false hjk] at hkl
     simp only [upd, if_true] at hbj
     simp only [upd, hkj, if_false] at hbk
     have h2 := hfr hfj b hbj
     have h3 := blk k _ w b hfk (hG k hk hkl) hbk
     omega
    ·rw [getD_set_ne false (Ne.symm hji)] at hjl
     simp only [upd, hji, if_false] at hbj
     by_cases hki : k = i
     ·subst hki
      simp only [upd, if_true] at hbk
      have h2 := hfr hfk b hbk
      have h3 := blk j _ w b hfj (hG j hj hjl) hbj
      omega
     ·rw [getD_set_ne false (Ne.symm hki)] at hkl
      simp only [upd, hki, if_false] at hbk
      exact hD j k b hj hk hjk hjl hkl hfj hfk hbj hbk
 have hgf : ∀ i, (Array.replicate Q70 false).getD i false = false := by
  intro i
  rcases Nat.lt_or_ge i Q70 with h | h
  ·simp at h; simp [h]
  ·simp at h; simp [h]
 have h0 : laid l.toArray (fun _ => undef) (Array.replicate Q70 false) (List.range Q70) a0 = a0 := by
  have : ∀ (q : List Nat) (a : Act), laid l.toArray (fun _ => undef) (Array.replicate Q70 false) q a = a := by
   intro q
   induction q with
   | nil => intro a; rfl
   | cons i q ih =>
    intro a
    simp only [laid]
    rw [hgf i]
    simpa using ih a
  exact this _ _
 have hk := key k (Array.replicate Q70 false) (fun _ => undef) { w0 with drawn := w0.drawn + 1 } (by unfold qz4c; simp; omega) (by simp) (fun j o _ hj => by rw [hgf j] at hj; cases hj) (fun j _ => hgf j) ⟨rfl, rfl, rfl, Q6v _, fun _ _ => rfl⟩ (fun i hi h => by rw [hgf i] at h; cases h) (fun i j b hi hj hij h => by rw [hgf i] at h; cases h)
 rw [h0, show k + (l.length - k) = l.toArray.size by simp; omega] at hk
 exact hk
end
section
def qz30 (lo : Nat) (w : World) (v : Value) (len sz : Nat) (cs : List Value) (b : Nat) : Prop :=
 ∃ a cap off, v = .slice a len cap /\ (len = 0 ∨ (a = some ⟨b, off, none⟩ /\ lo <= b /\ b < Q6o /\ w.rangeAt b off cs /\ w.there b off (len * sz)))
theorem qz30.but {lo : Nat} {w w' : World} {v : Value} {len sz b : Nat} {cs : List Value} {S : Nat -> Prop} (h : qz30 lo w v len sz cs b) (hO : But S w w') (hne : 0 < len -> ¬ S b) : qz30 lo w' v len sz cs b := by
 obtain ⟨a, cap, off, rfl, h⟩ := h
 refine ⟨a, cap, off, rfl, ?_⟩
 rcases h with h | ⟨rfl, h1, h2, h3, h4⟩
 ·exact Or.inl h
 ·rcases Nat.eq_zero_or_pos len with h0 | hp
  ·exact Or.inl h0
  ·exact Or.inr ⟨rfl, h1, Q72 h2 hO.size, hO.range h3 h2 (hne hp), hO.there h4 h2 (hne hp)⟩
theorem qz30.below {lo : Nat} {w w' : World} {v : Value} {len sz b : Nat} {cs : List Value} (h : qz30 lo w v len sz cs b) (hb : Below Q6o w w') : qz30 lo w' v len sz cs b := by
 obtain ⟨a, cap, off, rfl, h⟩ := h
 refine ⟨a, cap, off, rfl, ?_⟩
 rcases h with h | ⟨rfl, h1, h2, h3, h4⟩
 ·exact Or.inl h
 ·exact Or.inr ⟨rfl, h1, Q72 h2 hb.size, qz0 h3 hb h2, qz5 h4 hb h2⟩
theorem qz30.slice {lo : Nat} {w : World} {v : Value} {len sz b : Nat} {cs : List Value} (h : qz30 lo w v len sz cs b) : qzu Q6o w v len cs := by
 obtain ⟨a, cap, off, rfl, h⟩ := h
 refine ⟨a, cap, rfl, ?_⟩
 rcases h with h | ⟨rfl, h1, h2, h3, h4⟩
 ·exact Or.inl h
 ·exact Or.inr ⟨b, off, rfl, h2, h3⟩
structure qz3f (lo : Nat) (w : World) (s g n r : Value) (A : Ar) (b0 b1 b2 b3 : Nat) : Prop where
 s : qz30 lo w s Q74 1 (qz8 intC A.slots) b0
 g : qz30 lo w g Q75 1 (qz8 intC A.guides) b1
 n : qz30 lo w n Q6q 3 (qz8 ndC A.nodes) b2
 r : qz30 lo w r Q6r 5 (qz8 vrC A.vers) b3
 d01 : b0 ≠ b1
 d02 : b0 ≠ b2
 d03 : b0 ≠ b3
 d12 : b1 ≠ b2
 d13 : b1 ≠ b3
 d23 : b2 ≠ b3
theorem qz3f.is {lo : Nat} {w : World} {s g n r : Value} {A : Ar} {b0 b1 b2 b3 : Nat} (N : qz3f lo w s g n r A b0 b1 b2 b3) : qz1j Q6o w s g n r A := ⟨N.s.slice, N.g.slice, N.n.slice, N.r.slice⟩
theorem qz3f.below {lo : Nat} {w w' : World} {s g n r : Value} {A : Ar} {b0 b1 b2 b3 : Nat} (N : qz3f lo w s g n r A b0 b1 b2 b3) (hb : Below Q6o w w') : qz3f lo w' s g n r A b0 b1 b2 b3 := ⟨N.s.below hb, N.g.below hb, N.n.below hb, N.r.below hb, N.d01, N.d02, N.d03, N.d12, N.d13, N.d23⟩
theorem qz30.lo {lo lo' : Nat} {w : World} {v : Value} {len sz b : Nat} {cs : List Value} (h : qz30 lo w v len sz cs b) (hl : lo' <= lo) : qz30 lo' w v len sz cs b := by
 obtain ⟨a, cap, off, rfl, h⟩ := h
 refine ⟨a, cap, off, rfl, ?_⟩
 rcases h with h | ⟨rfl, h1, h2, h3, h4⟩
 ·exact Or.inl h
 ·exact Or.inr ⟨rfl, Q77 hl h1, h2, h3, h4⟩
theorem qz3f.lo {lo lo' : Nat} {w : World} {s g n r : Value} {A : Ar} {b0 b1 b2 b3 : Nat} (N : qz3f lo w s g n r A b0 b1 b2 b3) (hl : lo' <= lo) : qz3f lo' w s g n r A b0 b1 b2 b3 :=
 ⟨N.s.lo hl, N.g.lo hl, N.n.lo hl, N.r.lo hl, N.d01, N.d02, N.d03, N.d12, N.d13, N.d23⟩
theorem qz30.lt {lo : Nat} {w : World} {v : Value} {len sz b : Nat} {cs : List Value} (h : qz30 lo w v len sz cs b) (hp : 0 < len) : lo <= b /\ b < Q6o := by
 obtain ⟨a, cap, off, rfl, h⟩ := h
 rcases h with h | ⟨rfl, h1, h2, h3, h4⟩
 ·omega
 ·exact ⟨h1, h2⟩
end
section
theorem qzgc {w : World} {base : Nat} {e : TypeId} {sz : Nat} {v : Value} {n : Nat} {xs : List Value} (h : w.ownsRow base e sz v n xs) : ∃ b, qz30 base w v n sz xs b := by
 rcases h.2 with ⟨rfl, rfl⟩ | ⟨g, cap, cur, rfl, hg, hh, hnc, _, hs, ht⟩
 ·exact ⟨0, _, _, 0, rfl, Or.inl rfl⟩
 ·have hlt : g < Q6o := by
   rcases Nat.lt_or_ge g Q6o with hl | hl
   ·exact hl
   ·rw [Array.getElem?_eq_none hl] at hh; cases hh
  have hm : n * sz <= cur.size := by rw [hs]; exact Nat.mul_le_mul_right _ hnc
  refine ⟨g, _, _, 0, rfl, Or.inr ⟨rfl, hg, hlt, ?_, ?_⟩⟩
  ·have R := World.rangeAt_of_block hh 0 (n * sz)
   have e1 : (cur.extract 0 (0 + n * sz)).toList = xs := by rw [<- ht]; simp
   rw [e1] at R
   exact R
  ·intro j hj
   refine ⟨?_, ?_⟩
   ·simp only [World.cell?, hh]
    simp
    omega
   ·simp [World.frozen?, hh]
theorem qze4 {w w' : World} {base B : Nat} {e : TypeId} {sz : Nat} {v : Value} {n : Nat} {xs : List Value} (h : w.ownsRow base e sz v n xs) (hb : Below B w w') (hv : ∀ j, v.ownBlock = some j -> j < B) : w'.ownsRow base e sz v n xs := by
 refine ⟨h.1, ?_⟩
 rcases h.2 with h0 | ⟨g, cap, cur, rfl, hg, hh, rest⟩
 ·exact Or.inl h0
 ·exact Or.inr ⟨g, cap, cur, rfl, hg, (hb.block g (hv g rfl)).trans hh, rest⟩
theorem qz2d {w : World} {base : Nat} {e : TypeId} {sz : Nat} {v : Value} {n : Nat} {xs : List Value} (h : w.ownsRow base e sz v n xs) {j : Nat} (hj : v.ownBlock = some j) : j < Q6o := by
 rcases h.2 with ⟨rfl, _⟩ | ⟨g, cap, cur, rfl, hg, hh, _⟩
 ·simp [Value.ownBlock] at hj
 ·simp [Value.ownBlock] at hj
  subst hj
  rcases Nat.lt_or_ge g Q6o with hl | hl
  ·exact hl
  ·rw [Array.getElem?_eq_none hl] at hh; cases hh
theorem qzf {w : World} {base : Nat} {e : TypeId} {sz : Nat} {v : Value} {n : Nat} {xs : List Value} (h : w.ownsRow base e sz v n xs) : ∃ a cap, v = .slice a n cap := by
 rcases h.2 with ⟨rfl, rfl⟩ | ⟨g, cap, cur, rfl, _⟩
 ·exact ⟨_, _, rfl⟩
 ·exact ⟨_, _, rfl⟩
end
end Go.Proofs.YthjkdnlmopafkaaGreatDoor
