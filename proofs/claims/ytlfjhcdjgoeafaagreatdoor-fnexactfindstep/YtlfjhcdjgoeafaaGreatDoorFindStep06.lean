/-
  What the law's proof goes by, part 7.
-/
import Derived.Test.YtlfjhcdjgoeafaaGreatDoorFindStep00
import Derived.Test.YtlfjhcdjgoeafaaGreatDoorFindStep05
namespace Go.Proofs.YtlfjhcdjgoeafaaGreatDoor
open Go.ChangeShapes Go.WideShapes Go.ChangeAt Go.RowKit
set_option linter.unusedVariables false
set_option linter.unusedSimpArgs false
set_option linter.unnecessarySimpa false
set_option linter.unusedSectionVars false
section
theorem wpAny_seq_more {P : Program} {ops : Array Oper} {md : Region.Mode} {Q : Exit → Act → World → Prop} (c : Nat) : ∀ (l : List Oper) (n : Nat) (listed : Array Bool) (a : Act) (w : World), (∀ j, l[j]? = ops[n + j]?) → seqFrom md ops l.length n listed = true → wpList P ops Q l a w → wpAny P md ops Q (l.length + c) listed a w
 | [], _, listed, a, w, _, hB, h => by
  have h0 : Region.ready md ops listed = [] := by simpa [seqFrom] using hB
  exact wpAny_done h0 h _
 | o :: l, n, listed, a, w, hl, hB, h => by
  have h0 : ops[n]? = some o := by simpa using (hl 0).symm
  simp only [List.length_cons, seqFrom, Bool.and_eq_true] at hB
  obtain ⟨hr, hB'⟩ := hB
  have hr' : Region.ready md ops listed = [n] := by simpa using hr
  have ih := fun a w => wpAny_seq_more (P := P) (Q := Q) c l (n + 1) (listed.setIfInBounds n true) a w (fun j => by have := hl (j + 1); simpa [Nat.add_assoc, Nat.add_comm 1 j] using this) hB'
  rw [show (o :: l).length + c = (l.length + c) + 1 by simp; omega]
  refine wpAny_all hr' (by simp) (fun i hi => ?_)
  obtain rfl := List.mem_singleton.1 hi
  unfold wpOp
  unfold wpList at h
  simp only [h0]
  split
  ·rename_i hwd
   rw [if_pos hwd] at h
   rcases h with h | h
   ·exact .inl (Oper.wp_mono ih h)
   ·exact .inr h
  ·rename_i hwd
   rw [if_neg hwd] at h
   exact ih _ _ h
theorem get_getD (a : Array Bool) (i : Nat) (h : i < a.size) : a[i] = a.getD i false := by simp [h]
theorem leftIn_tail {listed : Array Bool} {k m i : Nat} (hs : listed.size = k + m) (ht : ∀ j, k ≤ j → listed.getD j false = false) (hi : i < k) (hu : listed.getD i false = false) : m + 1 ≤ leftIn listed := by
 unfold leftIn
 rw [← List.take_append_drop k listed.toList, List.count_append]
 have h1 : (listed.toList.drop k).count false = m := by
  rw [List.count_eq_length.2]
  ·simp [hs]
  ·intro b hb
   obtain ⟨j, hj, rfl⟩ := List.getElem_of_mem hb
   have h2 := ht (k + j) (by omega)
   simp at hj
   have h3 : k + j < listed.size := by omega
   simp [h3] at h2
   simp [h2]
 have h2 : 0 < (listed.toList.take k).count false := by
  apply List.count_pos_iff.2
  have h3 : i < listed.size := by omega
  have h4 : listed[i] = false := by simpa [h3] using hu
  rw [← h4]
  apply List.mem_iff_getElem.2
  exact ⟨i, by simp; omega, by simp⟩
 omega
def tailB (ops : Array Oper) (k m : Nat) : Bool := (ops.size == k + m) && waitsB .any ops k && seqFrom .any ops m k (setTo k 0 (Array.replicate ops.size false))
theorem any_order_tail {P : Program} {l : List Oper} {Q : Exit → Act → World → Prop} {id : Nat} {a0 : Act} {w0 : World} (k : Nat) (hm : P.follows .mixedOrders = true)
  (G : Nat → Value → World → Prop) (fresh : Nat → Bool) (hT : tailB l.toArray k (l.length - k) = true) (hL : loneB l.toArray = true) (hBk : backB l.toArray = true) (hg : (l.take k).all (fun o => o.guard.isNone) = true)
  (hdst0 : dstB l.toArray a0.tmps.size = true)
  (mono : ∀ i v w w', w0.heap.size ≤ w.heap.size → G i v w → Below w.heap.size w w' → G i v w')
  (blk : ∀ i v w b, fresh i = true → G i v w → blkOf v = some b → b < w.heap.size)
  (step : ∀ (i : Nat) (o : Oper), i < k → l[i]? = some o → ∀ (a : Act) (w : World), Below w0.heap.size w0 w → (∀ t, noDstB l.toArray t = true → a.eval (.tmp t) = a0.tmps.getD t undef) →
   (∀ e ∈ o.after, Region.binds .any e = true → ∀ d, dstOf l.toArray e.on = some d → G e.on (a.eval (.tmp d)) w) →
   ∀ K : Act → World → Prop, (∀ v w', G i v w' → Below w.heap.size w w' → (fresh i = true → ∀ b, blkOf v = some b → w.heap.size ≤ b) → K (a.put o.dst v) w') → o.wp P a w K Q)
  (final : ∀ vs w', Below w0.heap.size w0 w' → (∀ i, i < k → G i (vs i) w') →
   (∀ i j b, i < k → j < k → i ≠ j → fresh i = true → fresh j = true → blkOf (vs i) = some b → blkOf (vs j) ≠ some b) →
   wpList P l.toArray Q (l.drop k) (laid l.toArray vs (setTo k 0 (Array.replicate l.toArray.size false)) (List.range l.toArray.size) a0) w') :
  (Code.region id l.toArray true).wp P Q a0 w0 := by
 have hdst := dst_of hdst0
 have L := lone_of hL
 have hBack : ∀ i, i < k → ∀ o, l.toArray[i]? = some o → ∀ e ∈ o.after, e.on < i := fun i _ o ho => back_of hBk i o ho
 simp only [tailB, Bool.and_eq_true, beq_iff_eq] at hT
 obtain ⟨⟨hkm, hw⟩, hseq⟩ := hT
 have hsl : l.toArray.size = l.length := by simp
 have hkl : k ≤ l.length := by omega
 refine wp_region_any hm ?_
 have key : ∀ (c : Nat) (listed : Array Bool) (vs : Nat → Value) (w : World), leftIn listed ≤ c + (l.length - k) → listed.size = l.toArray.size → Closed .any l.toArray listed → (∀ j, k ≤ j → listed.getD j false = false) → Below w0.heap.size w0 w →
   (∀ i, i < l.toArray.size → listed.getD i false = true → G i (vs i) w) →
   (∀ i j b, i < l.toArray.size → j < l.toArray.size → i ≠ j → listed.getD i false = true → listed.getD j false = true → fresh i = true → fresh j = true → blkOf (vs i) = some b → blkOf (vs j) ≠ some b) →
   wpAny P .any l.toArray Q (c + (l.length - k)) listed (laid l.toArray vs listed (List.range l.toArray.size) a0) w := by
  intro c
  induction c with
  | zero =>
   intro listed vs w hf hs hc htail hb hG hD
   by_cases hall : ∀ i, i < k → listed.getD i false = true
   ·have he : listed = setTo k 0 (Array.replicate l.toArray.size false) := by
     apply Array.ext
     ·rw [setTo_size, hs]; simp
     ·intro i h1 h2
      have g := setTo_get k 0 (Array.replicate l.toArray.size false) i (by simp; omega)
      have g1 : (setTo k 0 (Array.replicate l.toArray.size false))[i] = (setTo k 0 (Array.replicate l.toArray.size false)).getD i false := get_getD _ _ h2
      have g2 : listed[i] = listed.getD i false := by simp [h1]
      rw [g1, g2, g]
      by_cases c : i < k
      ·rw [if_pos (by omega), hall i c]
      ·have hio : i < l.length := by omega
       rw [if_neg (by omega), htail i (by omega)]
       simp [hio]
    have hfin := final vs w hb (fun i hi => hG i (by omega) (hall i hi)) (fun i j b hi hj hij => hD i j b (by omega) (by omega) hij (hall i hi) (hall j hj))
    rw [← he] at hfin
    have := wpAny_seq_more (P := P) (md := .any) (Q := Q) 0 (l.drop k) k listed _ w (fun j => by simp) (by rw [he]; simpa using hseq) hfin
    simpa using this
   ·exfalso
    simp only [Classical.not_forall] at hall
    obtain ⟨i, hi, hu⟩ := hall
    have := leftIn_tail (m := l.length - k) (by omega) htail hi (by simpa using hu)
    omega
  | succ c ih =>
   intro listed vs w hf hs hc htail hb hG hD
   by_cases hall : ∀ i, i < k → listed.getD i false = true
   ·have he : listed = setTo k 0 (Array.replicate l.toArray.size false) := by
     apply Array.ext
     ·rw [setTo_size, hs]; simp
     ·intro i h1 h2
      have g := setTo_get k 0 (Array.replicate l.toArray.size false) i (by simp; omega)
      have g1 : (setTo k 0 (Array.replicate l.toArray.size false))[i] = (setTo k 0 (Array.replicate l.toArray.size false)).getD i false := get_getD _ _ h2
      have g2 : listed[i] = listed.getD i false := by simp [h1]
      rw [g1, g2, g]
      by_cases c : i < k
      ·rw [if_pos (by omega), hall i c]
      ·have hio : i < l.length := by omega
       rw [if_neg (by omega), htail i (by omega)]
       simp [hio]
    have hfin := final vs w hb (fun i hi => hG i (by omega) (hall i hi)) (fun i j b hi hj hij => hD i j b (by omega) (by omega) hij (hall i hi) (hall j hj))
    rw [← he] at hfin
    have := wpAny_seq_more (P := P) (md := .any) (Q := Q) (c + 1) (l.drop k) k listed _ w (fun j => by simp) (by rw [he]; simpa using hseq) hfin
    rw [show c + 1 + (l.length - k) = (l.drop k).length + (c + 1) by simp; omega]
    exact this
   simp only [Classical.not_forall] at hall
   obtain ⟨i1, hi1, hu1⟩ := hall
   have hu1' : listed.getD i1 false = false := by simpa using hu1
   have hu1'' : listed.getD i1 true = false := by
    have : i1 < listed.size := by omega
    simpa [this] using hu1'
   have hex : ∃ i, i < k ∧ i ∈ Region.ready .any l.toArray listed := by
    apply Classical.byContradiction
    intro hno
    have : ∀ n i, i < n → i < k → listed.getD i false = true := by
     intro n
     induction n with
     | zero => intro i hi; omega
     | succ n ihn =>
      intro i hi hik
      rcases Nat.lt_or_ge i n with h | h
      ·exact ihn i h hik
      ·have hin : i = n := by omega
       subst hin
       cases hq : listed.getD i false with
       | true => rfl
       | false =>
        exfalso
        apply hno
        refine ⟨i, hik, mem_ready.2 ⟨?_, ?_⟩⟩
        ·have : i < listed.size := by omega
         simpa [this] using hq
        ·have hil : i < l.toArray.size := by omega
         refine ⟨l.toArray[i], by simp, fun e he hbd => ?_⟩
         exact ihn e.on (hBack i hik _ (by simp) e he) (Nat.lt_trans (hBack i hik _ (by simp) e he) hik)
    have h9 := this (i1 + 1) i1 (by omega) hi1
    rw [hu1'] at h9
    cases h9
   rw [show c + 1 + (l.length - k) = (c + (l.length - k)) + 1 by omega]
   obtain ⟨i0, hi0, hr0⟩ := hex
   refine ⟨fun h0 => (by rw [h0] at hr0; cases hr0), ?_⟩
   intro i hi
   have hik := ready_prefix hw hc hi1 hu1'' hi
   obtain ⟨h0, o, ho, hall⟩ := mem_ready.1 hi
   have hi' : i < l.toArray.size := (Array.getElem?_eq_some_iff.1 ho).1
   have hlt : i < listed.size := by omega
   have h1 : listed.getD i false = false := by simpa [hlt] using h0
   have ho' : l[i]? = some o := by simpa using ho
   have hguard : o.guard = none := by
    have := (List.all_eq_true.1 hg) o (List.mem_of_getElem? (i := i) (by rw [List.getElem?_take]; simp [hik, ho']))
    simpa using this
   have hnd : (List.range l.toArray.size).Nodup := List.nodup_range
   have hlt' : ∀ e ∈ o.after, Region.binds .any e = true → ∀ d, dstOf l.toArray e.on = some d → e.on < l.toArray.size ∧ listed.getD e.on false = true ∧ (laid l.toArray vs listed (List.range l.toArray.size) a0).eval (.tmp d) = vs e.on := by
    intro e he hbd d hd
    have hel := hall e he hbd
    have hes : e.on < l.toArray.size := by
     rcases Nat.lt_or_ge e.on l.toArray.size with h | h
     ·exact h
     ·simp only [dstOf, Array.getElem?_eq_none h] at hd
      cases hd
    exact ⟨hes, hel, laid_get L vs listed e.on d hd hel _ _ hnd (List.mem_range.2 hes) (hdst _ _ hd)⟩
   have hstep := step i o hik ho' (laid l.toArray vs listed (List.range l.toArray.size) a0) w hb
    (fun t ht => laid_get_out l.toArray vs listed t _ _ (fun k _ => noDst_of ht k))
    (fun e he hbd d hd => by
     obtain ⟨h2, h3, h4⟩ := hlt' e he hbd d hd
     rw [h4]
     exact hG e.on h2 h3)
   have hwn : Region.wanted o (yielded l.toArray (laid l.toArray vs listed (List.range l.toArray.size) a0).tmps) = true := by simp [Region.wanted, hguard]
   unfold wpOp
   simp only [ho, hwn, if_true]
   refine Or.inl (hstep _ ?_)
   intro v w' hGi hb' hfr
   have hd' : o.dst = dstOf l.toArray i := by simp only [dstOf, ho, Option.bind_some]
   rw [hd', laid_put L vs listed i v hlt h1 _ _ hnd (List.mem_range.2 hi')]
   have hsz := hb.size
   refine ih _ _ _ (by have := leftIn_set hlt h1; omega) (by simpa using hs) (hc.set hi) (fun j hj => by rw [getD_set_ne false (by omega)]; exact htail j hj) (hb.trans (hb'.mono hsz)) ?_ ?_
   ·intro j hj hjl
    by_cases hji : j = i
    ·subst hji
     simp only [upd, if_true]
     exact hGi
    ·rw [getD_set_ne false (Ne.symm hji)] at hjl
     simp only [upd, hji, if_false]
     exact mono j _ w w' hsz (hG j hj hjl) hb'
   ·intro j k b hj hk hjk hjl hkl hfj hfk hbj hbk
    by_cases hji : j = i
    ·subst hji
     have hkj : k ≠ j := Ne.symm hjk
     rw [getD_set_ne false hjk] at hkl
     simp only [upd, if_true] at hbj
     simp only [upd, hkj, if_false] at hbk
     have h2 := hfr hfj b hbj
     have h3 := blk k _ w b hfk (hG k hk hkl) hbk
     omega
    ·rw [getD_set_ne false (Ne.symm hji)] at hjl
     simp only [upd, hji, if_false] at hbj
     by_cases hki : k = i
     ·subst hki
      simp only [upd, if_true] at hbk
      have h2 := hfr hfk b hbk
      have h3 := blk j _ w b hfj (hG j hj hjl) hbj
      omega
     ·rw [getD_set_ne false (Ne.symm hki)] at hkl
      simp only [upd, hki, if_false] at hbk
      exact hD j k b hj hk hjk hjl hkl hfj hfk hbj hbk
 have hgf : ∀ i, (Array.replicate l.toArray.size false).getD i false = false := by
  intro i
  rcases Nat.lt_or_ge i l.toArray.size with h | h
  ·simp at h; simp [h]
  ·simp at h; simp [h]
 have h0 : laid l.toArray (fun _ => undef) (Array.replicate l.toArray.size false) (List.range l.toArray.size) a0 = a0 := by
  have : ∀ (q : List Nat) (a : Act), laid l.toArray (fun _ => undef) (Array.replicate l.toArray.size false) q a = a := by
   intro q
   induction q with
   | nil => intro a; rfl
   | cons i q ih =>
    intro a
    simp only [laid]
    rw [hgf i]
    simpa using ih a
  exact this _ _
 have hk := key k (Array.replicate l.toArray.size false) (fun _ => undef) { w0 with drawn := w0.drawn + 1 } (by unfold leftIn; simp; omega) (by simp) (fun j o _ hj => by rw [hgf j] at hj; cases hj) (fun j _ => hgf j) ⟨rfl, rfl, rfl, Nat.le_refl _, fun _ _ => rfl⟩ (fun i hi h => by rw [hgf i] at h; cases h) (fun i j b hi hj hij h => by rw [hgf i] at h; cases h)
 rw [h0, show k + (l.length - k) = l.toArray.size by simp; omega] at hk
 exact hk
end
section
section
variable {P : Program}
def upTo (ops : Array Oper) (m : Nat) : Array Bool := setTo m 0 (Array.replicate ops.size false)
theorem setTo_set : ∀ (f k : Nat) (l : Array Bool), (setTo f k l).setIfInBounds (k + f) true = setTo (f + 1) k l
 | 0, k, l => by simp [setTo]
 | f + 1, k, l => by
  rw [setTo, show k + (f + 1) = (k + 1) + f by omega, setTo_set f (k + 1)]
  rfl
theorem upTo_set (ops : Array Oper) (m : Nat) : (upTo ops m).setIfInBounds m true = upTo ops (m + 1) := by
 have := setTo_set m 0 (Array.replicate ops.size false)
 rw [Nat.zero_add] at this
 exact this
def call2B (ops : Array Oper) (k : Nat) : Bool :=
 decide (k + 4 ≤ ops.size) && Region.noSelect ops && lexTo .any ops k 0 (Array.replicate ops.size false) && waitsB .any ops k &&
  (Region.ready .any ops (upTo ops k) == [k]) && (Region.ready .any ops (upTo ops (k + 1)) == [k + 1]) &&
  ((Region.ready .any ops (upTo ops (k + 2))).contains (k + 2) && Region.free .any ops (upTo ops (k + 2)) (k + 2)) &&
  ((Region.ready .any ops (upTo ops (k + 3))).contains (k + 3) && Region.free .any ops (upTo ops (k + 3)) (k + 3)) &&
  seqFrom .any ops (ops.size - (k + 4)) (k + 4) (upTo ops (k + 4))
theorem run_extract2 (v : Value) (ix : Nat) (v1 v2 : Value) (hv : v = .tuple #[v1, v2]) (o : Oper) (ev : Operand → Value) (x : Operand) (ho : o.op = .extract x ix) (hx : ev x = v) (hi : ix < 2) (w : World) : (execOp ev o).run P w = .ok (.value (if ix = 0 then v1 else v2)) w := by
 subst hv
 rcases (show ix = 0 ∨ ix = 1 by omega) with rfl | rfl <;> simp [execOp, ho, hx, go_sem]
theorem run_move (o : Oper) (ev : Operand → Value) (x : Operand) (ho : o.op = .move x) (w : World) : (execOp ev o).run P w = .ok (.value (ev x)) w := by
 simp [execOp, ho, go_sem]
end
theorem wp_region_call2 {P : Program} {id : Nat} {Q : Exit → Act → World → Prop} {a : Act} {w : World} {l : List Oper} (k : Nat) (hm : P.follows .mixedOrders = true) (hB : call2B l.toArray k = true)
  (o0 o1 o2 o3 : Oper) (h0 : l[k]? = some o0) (h1 : l[k + 1]? = some o1) (h2 : l[k + 2]? = some o2) (h3 : l[k + 3]? = some o3) (d0 d1 : Tmp) (d2 d3 : Option Tmp)
  (e0 : o0.dst = some d0) (e1 : o1.dst = some d1) (e2 : o2.dst = d2) (e3 : o3.dst = d3) (g0 : o0.guard = none) (g1 : o1.guard = none) (g2 : o2.guard = none) (g3 : o3.guard = none)
  (p1 : o1.op = .move (.tmp d0)) (p2 : o2.op = .extract (.tmp d1) 0) (p3 : o3.op = .extract (.tmp d1) 1) (hd2 : d2 ≠ some d1)
  (hQ2 : ∀ c (a : Act) v w, Q (.panic c) (a.put d2 v) w → Q (.panic c) a w) (hQ3 : ∀ c (a : Act) v w, Q (.panic c) (a.put d3 v) w → Q (.panic c) a w)
  (h : wpQuiet P l.toArray (fun w' => ∃ n, w' = w.drewN n) (fun a' => ∀ w', (∃ n, w' = w.drewN n) → d0 < a'.tmps.size ∧ d1 < a'.tmps.size ∧ ∃ f args, (execOp a'.eval o0).run P w' = .ok (.enter f args) w' ∧
   Calls P f args w' fun e w'' => ∃ v1 v2, e = .returned (.tuple #[v1, v2]) ∧ wpList P l.toArray Q (l.drop (k + 4)) ((((a'.put (some d0) (.tuple #[v1, v2])).put (some d1) (.tuple #[v1, v2])).put d2 v1).put d3 v2) w'') (l.take k) a) : (Code.region id l.toArray true).wp P Q a w := by
 simp only [call2B, Bool.and_eq_true, decide_eq_true_eq, beq_iff_eq] at hB
 obtain ⟨⟨⟨⟨⟨⟨⟨⟨hk4, hs⟩, hlex⟩, hw⟩, r0⟩, r1⟩, r2⟩, r3⟩, hseq⟩ := hB
 have hsz : l.toArray.size = l.length := by simp
 rw [hsz] at hk4
 refine wp_region_any hm ?_
 have hc0 : Closed .any l.toArray (Array.replicate l.toArray.size false) := by
  intro j o ho hj
  exfalso
  rcases Nat.lt_or_ge j l.toArray.size with h' | h'
  ·simp at h'; simp [h'] at hj
  ·simp at h'; simp [h'] at hj
 have hT := wpAnyT_lex (P := P) (md := .any) (C := fun w' => ∃ n, w' = w.drewN n) (Q := fun a' => ∀ w', (∃ n, w' = w.drewN n) → d0 < a'.tmps.size ∧ d1 < a'.tmps.size ∧ ∃ f args, (execOp a'.eval o0).run P w' = .ok (.enter f args) w' ∧
   Calls P f args w' fun e w'' => ∃ v1 v2, e = .returned (.tuple #[v1, v2]) ∧ wpList P l.toArray Q (l.drop (k + 4)) ((((a'.put (some d0) (.tuple #[v1, v2])).put (some d1) (.tuple #[v1, v2])).put d2 v1).put d3 v2) w'') hw hs (l.take k) 0 (Array.replicate l.toArray.size false) a (by simp; omega) (fun j hj => by simp at hj; simp [hj]) hc0 (fun i hi => by omega) (by simp; omega) (by simpa [Nat.min_eq_left (show k ≤ l.length by omega)] using hlex) h
 have hfin := wpAny_of_T (P := P) (md := .any) (Q' := Q) (m := l.length - k) hw (by rw [hsz]; omega) (fun a' w' hC hq => by
  obtain ⟨s0, s1, f, args, hrun, hcall⟩ := hq w' hC
  rw [show l.length - k = ((((l.length - (k + 4)) + 1) + 1) + 1) + 1 by omega]
  have hwant : ∀ (o : Oper) (b : Act), o.guard = none → Region.wanted o (yielded l.toArray b.tmps) = true := fun o b hg => by simp [Region.wanted, hg]
  refine wpAny_all (rs := [k]) r0 (by simp) (fun i hi => ?_)
  obtain rfl := List.mem_singleton.1 hi
  have h0' : l.toArray[i]? = some o0 := by simpa using h0
  unfold wpOp
  simp only [h0', hwant o0 a' g0, if_true]
  refine Or.inl ?_
  unfold Oper.wp
  rw [hrun]
  simp only [Oper.upon]
  refine hcall.mono ?_
  rintro e w2 ⟨v1, v2, rfl, hrest⟩
  show wpAny P .any l.toArray Q _ ((upTo l.toArray i).setIfInBounds i true) _ _
  rw [upTo_set, e0]
  refine wpAny_all (rs := [i + 1]) r1 (by simp) (fun j hj => ?_)
  obtain rfl := List.mem_singleton.1 hj
  have h1' : l.toArray[i + 1]? = some o1 := by simpa using h1
  unfold wpOp
  simp only [h1', hwant o1 _ g1, if_true]
  refine Or.inl ?_
  unfold Oper.wp
  rw [run_move o1 _ _ p1]
  simp only [Oper.upon]
  rw [upTo_set, e1]
  have ev0 : (a'.put (some d0) (.tuple #[v1, v2])).eval (.tmp d0) = .tuple #[v1, v2] := put_get _ _ _ s0
  rw [ev0]
  have ev1 : ((a'.put (some d0) (.tuple #[v1, v2])).put (some d1) (.tuple #[v1, v2])).eval (.tmp d1) = .tuple #[v1, v2] := put_get _ _ _ (by rw [put_size]; exact s1)
  have h2' : l.toArray[i + 2]? = some o2 := by simpa using h2
  have h3' : l.toArray[i + 3]? = some o3 := by simpa using h3
  refine wpAny_take (i := i + 2) (v := v1) h2' hs r2.2 r2.1 (fun c a w hh => hQ2 c a _ w (e2 ▸ hh)) (Or.inl ⟨hwant o2 _ g2, fun w => ?_⟩) ?_
  ·exact run_extract2 _ 0 v1 v2 rfl o2 _ _ p2 ev1 (by omega) w
  rw [upTo_set, e2]
  have ev2 : (((a'.put (some d0) (.tuple #[v1, v2])).put (some d1) (.tuple #[v1, v2])).put d2 v1).eval (.tmp d1) = .tuple #[v1, v2] := (put_get_ne _ _ _ _ hd2).trans ev1
  refine wpAny_take (i := i + 3) (v := v2) h3' hs r3.2 r3.1 (fun c a w hh => hQ3 c a _ w (e3 ▸ hh)) (Or.inl ⟨hwant o3 _ g3, fun w => ?_⟩) ?_
  ·exact run_extract2 _ 1 v1 v2 rfl o3 _ _ p3 ev2 (by omega) w
  rw [upTo_set, e3]
  have := wpAny_seq (P := P) (md := .any) (Q := Q) (l.drop (i + 4)) (i + 4) (upTo l.toArray (i + 4)) _ w2 (fun j => by simp) (by simpa using hseq) hrest
  simpa using this) (l.take k).length (Array.replicate l.toArray.size false) a { w with drawn := w.drawn + 1 } ⟨1, rfl⟩ hc0 (by simp) (fun j _ => by
   rcases Nat.lt_or_ge j l.toArray.size with h' | h'
   ·simp at h'; simp [h']
   ·simp at h'; simp [h']) hT
 rw [show (l.take k).length + (l.length - k) = l.toArray.size by simp; omega] at hfin
 exact hfin
end
section
def backTo (ops : Array Oper) (k : Nat) : Bool := (List.range k).all fun i => match ops[i]? with | some o => o.after.all fun e => !Region.binds .any e || decide (e.on < i) | none => true
theorem back_to {ops : Array Oper} {k : Nat} (h : backTo ops k = true) (i : Nat) (hik : i < k) (o : Oper) (ho : ops[i]? = some o) : ∀ e ∈ o.after, Region.binds .any e = true → e.on < i := by
 intro e he hbd
 have h1 := (List.all_eq_true.1 h) i (List.mem_range.2 hik)
 simp only [ho] at h1
 have h2 := Array.all_eq_true_iff_forall_mem.1 h1 e he
 rw [hbd] at h2
 exact of_decide_eq_true (by simpa using h2)
end
section
def waitsF (md : Region.Mode) (ops : Array Oper) (k f : Nat) : Bool := (List.range ops.size).all fun j => decide (j < k) || (List.range k).all fun i => (i == f) || reachB md ops ops.size j i
theorem ready_prefixF {md : Region.Mode} {ops : Array Oper} {k f : Nat} {listed : Array Bool} (hw : waitsF md ops k f = true) (hc : Closed md ops listed) {i j : Nat} (hi : i < k) (hif : i ≠ f) (hu : listed.getD i true = false) (hj : j ∈ Region.ready md ops listed) : j < k := by
 rcases Nat.lt_or_ge j k with h | h
 ·exact h
 ·obtain ⟨_, o, ho, hall⟩ := mem_ready.1 hj
  have hjs : j < ops.size := (Array.getElem?_eq_some_iff.1 ho).1
  have h1 := (List.all_eq_true.1 hw) j (List.mem_range.2 hjs)
  simp only [Bool.or_eq_true, decide_eq_true_eq] at h1
  rcases h1 with h1 | h1
  ·exact h1
  ·have h2 := (List.all_eq_true.1 h1) i (List.mem_range.2 hi)
   simp only [Bool.or_eq_true, beq_iff_eq] at h2
   rcases h2 with h2 | h2
   ·exact absurd h2 hif
   have h3 := reach_listed hc _ j i h2 (fun o' ho' => by rw [ho] at ho'; cases ho'; exact hall)
   rcases Nat.lt_or_ge i listed.size with h' | h'
   ·simp [h'] at hu h3; rw [hu] at h3; cases h3
   ·simp [Array.getElem?_eq_none h'] at hu
def headF (ops : Array Oper) (k f m : Nat) : Bool := (ops.size == k + m) && waitsF .any ops k f && Region.noSelect ops && Region.free .any ops ((upTo ops k).setIfInBounds f false) f
theorem any_order_float {P : Program} {l : List Oper} {Q : Exit → Act → World → Prop} {id : Nat} {a0 : Act} {w0 : World} (k f : Nat) (hfk : f < k) (hm : P.follows .mixedOrders = true)
  (G : Nat → Value → World → Prop) (fresh : Nat → Bool) (hT : headF l.toArray k f (l.length - k) = true) (hL : loneB l.toArray = true) (hBk : backTo l.toArray k = true) (hg : (l.take k).all (fun o => o.guard.isNone) = true)
  (hdst0 : dstB l.toArray a0.tmps.size = true)
  (mono : ∀ i v w w', w0.heap.size ≤ w.heap.size → G i v w → Below w.heap.size w w' → G i v w')
  (blk : ∀ i v w b, fresh i = true → G i v w → blkOf v = some b → b < w.heap.size)
  (step : ∀ (i : Nat) (o : Oper), i < k → l[i]? = some o → ∀ (a : Act) (w : World), Below w0.heap.size w0 w → (∀ t, noDstB l.toArray t = true → a.eval (.tmp t) = a0.tmps.getD t undef) →
   (∀ e ∈ o.after, Region.binds .any e = true → ∀ d, dstOf l.toArray e.on = some d → G e.on (a.eval (.tmp d)) w) →
   ∀ K : Act → World → Prop, (∀ v w', G i v w' → Below w.heap.size w w' → (fresh i = true → ∀ b, blkOf v = some b → w.heap.size ≤ b) → K (a.put o.dst v) w') → o.wp P a w K Q)
  (hQf : ∀ c (a : Act) v w, Q (.panic c) (a.put (dstOf l.toArray f) v) w → Q (.panic c) a w)
  (float : ∀ (o : Oper), l[f]? = some o → ∀ (a : Act) (w : World), (∀ e ∈ o.after, Region.binds .any e = true → ∀ d, dstOf l.toArray e.on = some d → G e.on (a.eval (.tmp d)) w) → ∃ v, (∀ w', (execOp a.eval o).run P w' = .ok (.value v) w') ∧ G f v w ∧ fresh f = false)
  (final : ∀ vs w', Below w0.heap.size w0 w' → (∀ i, i < k → G i (vs i) w') →
   (∀ i j b, i < k → j < k → i ≠ j → fresh i = true → fresh j = true → blkOf (vs i) = some b → blkOf (vs j) ≠ some b) →
   ∀ c, wpAny P .any l.toArray Q (c + (l.length - k)) (upTo l.toArray k) (laid l.toArray vs (upTo l.toArray k) (List.range l.toArray.size) a0) w') :
  (Code.region id l.toArray true).wp P Q a0 w0 := by
 have hdst := dst_of hdst0
 have L := lone_of hL
 have hBack : ∀ i, i < k → ∀ o, l.toArray[i]? = some o → ∀ e ∈ o.after, Region.binds .any e = true → e.on < i := fun i hik o ho => back_to hBk i hik o ho
 simp only [headF, Bool.and_eq_true, beq_iff_eq] at hT
 obtain ⟨⟨⟨hkm, hw⟩, hsel⟩, hfree⟩ := hT
 have hsl : l.toArray.size = l.length := by simp
 have hkl : k ≤ l.length := by omega
 refine wp_region_any hm ?_
 have key : ∀ (c : Nat) (listed : Array Bool) (vs : Nat → Value) (w : World), leftIn listed ≤ c + (l.length - k) → listed.size = l.toArray.size → Closed .any l.toArray listed → (∀ j, k ≤ j → listed.getD j false = false) → Below w0.heap.size w0 w →
   (∀ i, i < l.toArray.size → listed.getD i false = true → G i (vs i) w) →
   (∀ i j b, i < l.toArray.size → j < l.toArray.size → i ≠ j → listed.getD i false = true → listed.getD j false = true → fresh i = true → fresh j = true → blkOf (vs i) = some b → blkOf (vs j) ≠ some b) →
   wpAny P .any l.toArray Q (c + (l.length - k)) listed (laid l.toArray vs listed (List.range l.toArray.size) a0) w := by
  intro c
  induction c with
  | zero =>
   intro listed vs w hf hs hc htail hb hG hD
   by_cases hall : ∀ i, i < k → listed.getD i false = true
   ·have he : listed = setTo k 0 (Array.replicate l.toArray.size false) := by
     apply Array.ext
     ·rw [setTo_size, hs]; simp
     ·intro i h1 h2
      have g := setTo_get k 0 (Array.replicate l.toArray.size false) i (by simp; omega)
      have g1 : (setTo k 0 (Array.replicate l.toArray.size false))[i] = (setTo k 0 (Array.replicate l.toArray.size false)).getD i false := get_getD _ _ h2
      have g2 : listed[i] = listed.getD i false := by simp [h1]
      rw [g1, g2, g]
      by_cases c : i < k
      ·rw [if_pos (by omega), hall i c]
      ·have hio : i < l.length := by omega
       rw [if_neg (by omega), htail i (by omega)]
       simp [hio]
    have hfin := final vs w hb (fun i hi => hG i (by omega) (hall i hi)) (fun i j b hi hj hij => hD i j b (by omega) (by omega) hij (hall i hi) (hall j hj))
    unfold upTo at hfin
    rw [← he] at hfin
    exact hfin 0
   ·exfalso
    simp only [Classical.not_forall] at hall
    obtain ⟨i, hi, hu⟩ := hall
    have := leftIn_tail (m := l.length - k) (by omega) htail hi (by simpa using hu)
    omega
  | succ c ih =>
   intro listed vs w hf hs hc htail hb hG hD
   by_cases hall : ∀ i, i < k → listed.getD i false = true
   ·have he : listed = setTo k 0 (Array.replicate l.toArray.size false) := by
     apply Array.ext
     ·rw [setTo_size, hs]; simp
     ·intro i h1 h2
      have g := setTo_get k 0 (Array.replicate l.toArray.size false) i (by simp; omega)
      have g1 : (setTo k 0 (Array.replicate l.toArray.size false))[i] = (setTo k 0 (Array.replicate l.toArray.size false)).getD i false := get_getD _ _ h2
      have g2 : listed[i] = listed.getD i false := by simp [h1]
      rw [g1, g2, g]
      by_cases c : i < k
      ·rw [if_pos (by omega), hall i c]
      ·have hio : i < l.length := by omega
       rw [if_neg (by omega), htail i (by omega)]
       simp [hio]
    have hfin := final vs w hb (fun i hi => hG i (by omega) (hall i hi)) (fun i j b hi hj hij => hD i j b (by omega) (by omega) hij (hall i hi) (hall j hj))
    unfold upTo at hfin
    rw [← he] at hfin
    exact hfin (c + 1)
   by_cases hallF : ∀ i, i < k → i ≠ f → listed.getD i false = true
   ·have huf : listed.getD f false = false := by
     cases hq : listed.getD f false with
     | false => rfl
     | true =>
      exfalso
      apply hall
      intro i hi
      by_cases hif : i = f
      ·rw [hif]; exact hq
      ·exact hallF i hi hif
    have hfs : f < l.toArray.size := by omega
    have hfl : f < listed.size := by omega
    obtain ⟨o, ho⟩ : ∃ o, l.toArray[f]? = some o := ⟨l.toArray[f], by simp⟩
    have ho' : l[f]? = some o := by simpa using ho
    have hguard : o.guard = none := by
     have := (List.all_eq_true.1 hg) o (List.mem_of_getElem? (i := f) (by rw [List.getElem?_take]; simp [hfk, ho']))
     simpa using this
    have hdep : ∀ e ∈ o.after, Region.binds .any e = true → listed.getD e.on false = true := fun e he hbd => by
     have h1 := hBack f hfk o ho e he hbd
     exact hallF e.on (by omega) (by omega)
    have hrd : f ∈ Region.ready .any l.toArray listed := mem_ready.2 ⟨by simpa [hfl] using huf, o, ho, hdep⟩
    have hnd : (List.range l.toArray.size).Nodup := List.nodup_range
    obtain ⟨v, hrun, hGf, hff⟩ := float o ho' (laid l.toArray vs listed (List.range l.toArray.size) a0) w (fun e he hbd d hd => by
     have h1 := hBack f hfk o ho e he hbd
     have h2 := hdep e he hbd
     have h3 : (laid l.toArray vs listed (List.range l.toArray.size) a0).eval (.tmp d) = vs e.on := laid_get L vs listed e.on d hd h2 _ _ hnd (List.mem_range.2 (by omega)) (hdst _ _ hd)
     rw [h3]
     exact hG e.on (by omega) h2)
    have he' : listed = (upTo l.toArray k).setIfInBounds f false := by
     apply Array.ext
     ·simp only [Array.size_setIfInBounds, upTo, setTo_size]; rw [hs]; simp
     ·intro i h1 h2
      have hio : i < l.length := by omega
      have g1 : ((upTo l.toArray k).setIfInBounds f false)[i] = ((upTo l.toArray k).setIfInBounds f false).getD i false := get_getD _ _ h2
      have g2 : listed[i] = listed.getD i false := by simp [h1]
      rw [g1, g2]
      by_cases hif : f = i
      ·subst hif
       rw [huf]
       have h3 : f < (upTo l.toArray k).size := by simpa using h2
       simp [h3]
      ·rw [show ((upTo l.toArray k).setIfInBounds f false).getD i false = (upTo l.toArray k).getD i false from by simp [Array.getElem?_setIfInBounds_ne hif]]
       unfold upTo
       rw [setTo_get k 0 (Array.replicate l.toArray.size false) i (by simp; omega)]
       by_cases c : i < k
       ·rw [if_pos (by omega), hallF i c (fun e => hif e.symm)]
       ·rw [if_neg (by omega), htail i (by omega)]
        simp [hio]
    have hd' : o.dst = dstOf l.toArray f := by simp only [dstOf, ho, Option.bind_some]
    rw [show c + 1 + (l.length - k) = (c + (l.length - k)) + 1 by omega]
    refine wpAny_take (i := f) (v := v) ho hsel (by rw [he']; exact hfree) (by simpa using hrd) (fun c a w hh => hQf c a _ w (hd' ▸ hh)) (Or.inl ⟨by simp [Region.wanted, hguard], hrun⟩) ?_
    rw [hd', laid_put L vs listed f v hfl huf _ _ hnd (List.mem_range.2 hfs)]
    refine ih _ _ _ (by have := leftIn_set hfl huf; omega) (by simpa using hs) (hc.set hrd) (fun j hj => by rw [getD_set_ne false (by omega)]; exact htail j hj) hb ?_ ?_
    ·intro j hj hjl
     by_cases hji : j = f
     ·subst hji
      simp only [upd, if_true]
      exact hGf
     ·rw [getD_set_ne false (Ne.symm hji)] at hjl
      simp only [upd, hji, if_false]
      exact hG j hj hjl
    ·intro j q b hj hq hjq hjl hql hfj hfq hbj hbq
     have hjf : j ≠ f := fun e => by rw [e, hff] at hfj; cases hfj
     have hqf : q ≠ f := fun e => by rw [e, hff] at hfq; cases hfq
     rw [getD_set_ne false (Ne.symm hjf)] at hjl
     rw [getD_set_ne false (Ne.symm hqf)] at hql
     simp only [upd, hjf, if_false] at hbj
     simp only [upd, hqf, if_false] at hbq
     exact hD j q b hj hq hjq hjl hql hfj hfq hbj hbq
   simp only [Classical.not_forall] at hallF
   obtain ⟨i1, hi1, hi1f, hu1⟩ := hallF
   have hu1' : listed.getD i1 false = false := by simpa using hu1
   have hu1'' : listed.getD i1 true = false := by
    have : i1 < listed.size := by omega
    simpa [this] using hu1'
   have hex : ∃ i, i < k ∧ i ∈ Region.ready .any l.toArray listed := by
    apply Classical.byContradiction
    intro hno
    have : ∀ n i, i < n → i < k → listed.getD i false = true := by
     intro n
     induction n with
     | zero => intro i hi; omega
     | succ n ihn =>
      intro i hi hik
      rcases Nat.lt_or_ge i n with h | h
      ·exact ihn i h hik
      ·have hin : i = n := by omega
       subst hin
       cases hq : listed.getD i false with
       | true => rfl
       | false =>
        exfalso
        apply hno
        refine ⟨i, hik, mem_ready.2 ⟨?_, ?_⟩⟩
        ·have : i < listed.size := by omega
         simpa [this] using hq
        ·have hil : i < l.toArray.size := by omega
         refine ⟨l.toArray[i], by simp, fun e he hbd => ?_⟩
         exact ihn e.on (hBack i hik _ (by simp) e he hbd) (Nat.lt_trans (hBack i hik _ (by simp) e he hbd) hik)
    have h9 := this (i1 + 1) i1 (by omega) hi1
    rw [hu1'] at h9
    cases h9
   rw [show c + 1 + (l.length - k) = (c + (l.length - k)) + 1 by omega]
   obtain ⟨i0, hi0, hr0⟩ := hex
   refine ⟨fun h0 => (by rw [h0] at hr0; cases hr0), ?_⟩
   intro i hi
   have hik := ready_prefixF hw hc hi1 hi1f hu1'' hi
   obtain ⟨h0, o, ho, hall⟩ := mem_ready.1 hi
   have hi' : i < l.toArray.size := (Array.getElem?_eq_some_iff.1 ho).1
   have hlt : i < listed.size := by omega
   have h1 : listed.getD i false = false := by simpa [hlt] using h0
   have ho' : l[i]? = some o := by simpa using ho
   have hguard : o.guard = none := by
    have := (List.all_eq_true.1 hg) o (List.mem_of_getElem? (i := i) (by rw [List.getElem?_take]; simp [hik, ho']))
    simpa using this
   have hnd : (List.range l.toArray.size).Nodup := List.nodup_range
   have hlt' : ∀ e ∈ o.after, Region.binds .any e = true → ∀ d, dstOf l.toArray e.on = some d → e.on < l.toArray.size ∧ listed.getD e.on false = true ∧ (laid l.toArray vs listed (List.range l.toArray.size) a0).eval (.tmp d) = vs e.on := by
    intro e he hbd d hd
    have hel := hall e he hbd
    have hes : e.on < l.toArray.size := by
     rcases Nat.lt_or_ge e.on l.toArray.size with h | h
     ·exact h
     ·simp only [dstOf, Array.getElem?_eq_none h] at hd
      cases hd
    exact ⟨hes, hel, laid_get L vs listed e.on d hd hel _ _ hnd (List.mem_range.2 hes) (hdst _ _ hd)⟩
   have hstep := step i o hik ho' (laid l.toArray vs listed (List.range l.toArray.size) a0) w hb
    (fun t ht => laid_get_out l.toArray vs listed t _ _ (fun k _ => noDst_of ht k))
    (fun e he hbd d hd => by
     obtain ⟨h2, h3, h4⟩ := hlt' e he hbd d hd
     rw [h4]
     exact hG e.on h2 h3)
   have hwn : Region.wanted o (yielded l.toArray (laid l.toArray vs listed (List.range l.toArray.size) a0).tmps) = true := by simp [Region.wanted, hguard]
   unfold wpOp
   simp only [ho, hwn, if_true]
   refine Or.inl (hstep _ ?_)
   intro v w' hGi hb' hfr
   have hd' : o.dst = dstOf l.toArray i := by simp only [dstOf, ho, Option.bind_some]
   rw [hd', laid_put L vs listed i v hlt h1 _ _ hnd (List.mem_range.2 hi')]
   have hsz := hb.size
   refine ih _ _ _ (by have := leftIn_set hlt h1; omega) (by simpa using hs) (hc.set hi) (fun j hj => by rw [getD_set_ne false (by omega)]; exact htail j hj) (hb.trans (hb'.mono hsz)) ?_ ?_
   ·intro j hj hjl
    by_cases hji : j = i
    ·subst hji
     simp only [upd, if_true]
     exact hGi
    ·rw [getD_set_ne false (Ne.symm hji)] at hjl
     simp only [upd, hji, if_false]
     exact mono j _ w w' hsz (hG j hj hjl) hb'
   ·intro j k b hj hk hjk hjl hkl hfj hfk hbj hbk
    by_cases hji : j = i
    ·subst hji
     have hkj : k ≠ j := Ne.symm hjk
     rw [getD_set_ne false hjk] at hkl
     simp only [upd, if_true] at hbj
     simp only [upd, hkj, if_false] at hbk
     have h2 := hfr hfj b hbj
     have h3 := blk k _ w b hfk (hG k hk hkl) hbk
     omega
    ·rw [getD_set_ne false (Ne.symm hji)] at hjl
     simp only [upd, hji, if_false] at hbj
     by_cases hki : k = i
     ·subst hki
      simp only [upd, if_true] at hbk
      have h2 := hfr hfk b hbk
      have h3 := blk j _ w b hfj (hG j hj hjl) hbj
      omega
     ·rw [getD_set_ne false (Ne.symm hki)] at hkl
      simp only [upd, hki, if_false] at hbk
      exact hD j k b hj hk hjk hjl hkl hfj hfk hbj hbk
 have hgf : ∀ i, (Array.replicate l.toArray.size false).getD i false = false := by
  intro i
  rcases Nat.lt_or_ge i l.toArray.size with h | h
  ·simp at h; simp [h]
  ·simp at h; simp [h]
 have h0 : laid l.toArray (fun _ => undef) (Array.replicate l.toArray.size false) (List.range l.toArray.size) a0 = a0 := by
  have : ∀ (q : List Nat) (a : Act), laid l.toArray (fun _ => undef) (Array.replicate l.toArray.size false) q a = a := by
   intro q
   induction q with
   | nil => intro a; rfl
   | cons i q ih =>
    intro a
    simp only [laid]
    rw [hgf i]
    simpa using ih a
  exact this _ _
 have hk := key k (Array.replicate l.toArray.size false) (fun _ => undef) { w0 with drawn := w0.drawn + 1 } (by unfold leftIn; simp; omega) (by simp) (fun j o _ hj => by rw [hgf j] at hj; cases hj) (fun j _ => hgf j) ⟨rfl, rfl, rfl, Nat.le_refl _, fun _ _ => rfl⟩ (fun i hi h => by rw [hgf i] at h; cases h) (fun i j b hi hj hij h => by rw [hgf i] at h; cases h)
 rw [h0, show k + (l.length - k) = l.toArray.size by simp; omega] at hk
 exact hk
theorem any_order_floatT {P : Program} {l : List Oper} {Q : Exit → Act → World → Prop} {id : Nat} {a0 : Act} {w0 : World} (k f : Nat) (hfk : f < k) (hm : P.follows .mixedOrders = true)
  (G : Nat → Value → World → Prop) (fresh : Nat → Bool) (hT : headF l.toArray k f (l.length - k) = true) (hS : seqFrom .any l.toArray (l.length - k) k (upTo l.toArray k) = true) (hL : loneB l.toArray = true) (hBk : backTo l.toArray k = true) (hg : (l.take k).all (fun o => o.guard.isNone) = true)
  (hdst0 : dstB l.toArray a0.tmps.size = true)
  (mono : ∀ i v w w', w0.heap.size ≤ w.heap.size → G i v w → Below w.heap.size w w' → G i v w')
  (blk : ∀ i v w b, fresh i = true → G i v w → blkOf v = some b → b < w.heap.size)
  (step : ∀ (i : Nat) (o : Oper), i < k → l[i]? = some o → ∀ (a : Act) (w : World), Below w0.heap.size w0 w → (∀ t, noDstB l.toArray t = true → a.eval (.tmp t) = a0.tmps.getD t undef) →
   (∀ e ∈ o.after, Region.binds .any e = true → ∀ d, dstOf l.toArray e.on = some d → G e.on (a.eval (.tmp d)) w) →
   ∀ K : Act → World → Prop, (∀ v w', G i v w' → Below w.heap.size w w' → (fresh i = true → ∀ b, blkOf v = some b → w.heap.size ≤ b) → K (a.put o.dst v) w') → o.wp P a w K Q)
  (hQf : ∀ c (a : Act) v w, Q (.panic c) (a.put (dstOf l.toArray f) v) w → Q (.panic c) a w)
  (float : ∀ (o : Oper), l[f]? = some o → ∀ (a : Act) (w : World), (∀ e ∈ o.after, Region.binds .any e = true → ∀ d, dstOf l.toArray e.on = some d → G e.on (a.eval (.tmp d)) w) → ∃ v, (∀ w', (execOp a.eval o).run P w' = .ok (.value v) w') ∧ G f v w ∧ fresh f = false)
  (final : ∀ vs w', Below w0.heap.size w0 w' → (∀ i, i < k → G i (vs i) w') →
   (∀ i j b, i < k → j < k → i ≠ j → fresh i = true → fresh j = true → blkOf (vs i) = some b → blkOf (vs j) ≠ some b) →
   wpList P l.toArray Q (l.drop k) (laid l.toArray vs (upTo l.toArray k) (List.range l.toArray.size) a0) w') :
  (Code.region id l.toArray true).wp P Q a0 w0 := by
 refine any_order_float k f hfk hm G fresh hT hL hBk hg hdst0 mono blk step hQf float (fun vs w' hb hG hD c => ?_)
 have := wpAny_seq_more (P := P) (md := .any) (Q := Q) c (l.drop k) k (upTo l.toArray k) _ w' (fun j => by simp) (by simpa using hS) (final vs w' hb hG hD)
 rw [show c + (l.length - k) = (l.drop k).length + c by simp; omega]
 exact this
end
end Go.Proofs.YtlfjhcdjgoeafaaGreatDoor
