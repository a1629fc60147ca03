/-
  A region of which Go leaves the order open: its first operations may come in any order and make new memory, its last ones wait for them all and come in their order. A law of the walk.
-/
import Derived.Test.YtknncnaikeinbaaAnyOrder
import Derived.Test.YtknncnaikeinbaaSplit
namespace Go.Proofs.Ytknncnaikeinbaa
open Go.ChangeShapes Go.WideShapes Go.ChangeAt Go.RowKit
set_option linter.unusedVariables false

theorem wpAny_seq_more {P : Program} {ops : Array Oper} {md : Region.Mode} {Q : Exit → Act → World → Prop} (c : Nat) : ∀ (l : List Oper) (n : Nat) (listed : Array Bool) (a : Act) (w : World), (∀ j, l[j]? = ops[n + j]?) → seqFrom md ops l.length n listed = true → wpList P ops Q l a w → wpAny P md ops Q (l.length + c) listed a w
  | [], _, listed, a, w, _, hB, h => by
    have h0 : Region.ready md ops listed = [] := by simpa [seqFrom] using hB
    exact wpAny_done h0 h _
  | o :: l, n, listed, a, w, hl, hB, h => by
    have h0 : ops[n]? = some o := by simpa using (hl 0).symm
    simp only [List.length_cons, seqFrom, Bool.and_eq_true] at hB
    obtain ⟨hr, hB'⟩ := hB
    have hr' : Region.ready md ops listed = [n] := by simpa using hr
    have ih := fun a w => wpAny_seq_more (P := P) (Q := Q) c l (n + 1) (listed.setIfInBounds n true) a w (fun j => by have := hl (j + 1); simpa [Nat.add_assoc, Nat.add_comm 1 j] using this) hB'
    rw [show (o :: l).length + c = (l.length + c) + 1 by simp; omega]
    refine wpAny_all hr' (by simp) (fun i hi => ?_)
    obtain rfl := List.mem_singleton.1 hi
    unfold wpOp
    unfold wpList at h
    simp only [h0]
    split
    · rename_i hwd
      rw [if_pos hwd] at h
      rcases h with h | h
      · exact .inl (Oper.wp_mono ih h)
      · exact .inr h
    · rename_i hwd
      rw [if_neg hwd] at h
      exact ih _ _ h

theorem get_getD (a : Array Bool) (i : Nat) (h : i < a.size) : a[i] = a.getD i false := by simp [h]
theorem leftIn_tail {listed : Array Bool} {k m i : Nat} (hs : listed.size = k + m) (ht : ∀ j, k ≤ j → listed.getD j false = false) (hi : i < k) (hu : listed.getD i false = false) : m + 1 ≤ leftIn listed := by
  unfold leftIn
  rw [← List.take_append_drop k listed.toList, List.count_append]
  have h1 : (listed.toList.drop k).count false = m := by
    rw [List.count_eq_length.2]
    · simp [hs]
    · intro b hb
      obtain ⟨j, hj, rfl⟩ := List.getElem_of_mem hb
      have h2 := ht (k + j) (by omega)
      simp at hj
      have h3 : k + j < listed.size := by omega
      simp [h3] at h2
      simp [h2]
  have h2 : 0 < (listed.toList.take k).count false := by
    apply List.count_pos_iff.2
    have h3 : i < listed.size := by omega
    have h4 : listed[i] = false := by simpa [h3] using hu
    rw [← h4]
    apply List.mem_iff_getElem.2
    exact ⟨i, by simp; omega, by simp⟩
  omega

/-- What is asked of the bools of a region that is cut at k. -/
def tailB (ops : Array Oper) (k m : Nat) : Bool := (ops.size == k + m) && waitsB .any ops k && seqFrom .any ops m k (setTo k 0 (Array.replicate ops.size false))

theorem any_order_tail {P : Program} {l : List Oper} {Q : Exit → Act → World → Prop} {id : Nat} {a0 : Act} {w0 : World} (k : Nat) (hm : P.follows .mixedOrders = true)
    (G : Nat → Value → World → Prop) (fresh : Nat → Bool) (hT : tailB l.toArray k (l.length - k) = true) (hL : loneB l.toArray = true) (hBk : backB l.toArray = true) (hg : (l.take k).all (fun o => o.guard.isNone) = true)
    (hdst0 : dstB l.toArray a0.tmps.size = true)
    (mono : ∀ i v w w', w0.heap.size ≤ w.heap.size → G i v w → Below w.heap.size w w' → G i v w')
    (blk : ∀ i v w b, fresh i = true → G i v w → blkOf v = some b → b < w.heap.size)
    (step : ∀ (i : Nat) (o : Oper), i < k → l[i]? = some o → ∀ (a : Act) (w : World), Below w0.heap.size w0 w → (∀ t, noDstB l.toArray t = true → a.eval (.tmp t) = a0.tmps.getD t undef) →
      (∀ e ∈ o.after, Region.binds .any e = true → ∀ d, dstOf l.toArray e.on = some d → G e.on (a.eval (.tmp d)) w) →
      ∀ K : Act → World → Prop, (∀ v w', G i v w' → Below w.heap.size w w' → (fresh i = true → ∀ b, blkOf v = some b → w.heap.size ≤ b) → K (a.put o.dst v) w') → o.wp P a w K Q)
    (final : ∀ vs w', Below w0.heap.size w0 w' → (∀ i, i < k → G i (vs i) w') →
      (∀ i j b, i < k → j < k → i ≠ j → fresh i = true → fresh j = true → blkOf (vs i) = some b → blkOf (vs j) ≠ some b) →
      wpList P l.toArray Q (l.drop k) (laid l.toArray vs (setTo k 0 (Array.replicate l.toArray.size false)) (List.range l.toArray.size) a0) w') :
    (Code.region id l.toArray true).wp P Q a0 w0 := by
  have hdst := dst_of hdst0
  have L := lone_of hL
  have hBack : ∀ i, i < k → ∀ o, l.toArray[i]? = some o → ∀ e ∈ o.after, e.on < i := fun i _ o ho => back_of hBk i o ho
  simp only [tailB, Bool.and_eq_true, beq_iff_eq] at hT
  obtain ⟨⟨hkm, hw⟩, hseq⟩ := hT
  have hsl : l.toArray.size = l.length := by simp
  have hkl : k ≤ l.length := by omega
  refine wp_region_any hm ?_
  have key : ∀ (c : Nat) (listed : Array Bool) (vs : Nat → Value) (w : World), leftIn listed ≤ c + (l.length - k) → listed.size = l.toArray.size → Closed .any l.toArray listed → (∀ j, k ≤ j → listed.getD j false = false) → Below w0.heap.size w0 w →
      (∀ i, i < l.toArray.size → listed.getD i false = true → G i (vs i) w) →
      (∀ i j b, i < l.toArray.size → j < l.toArray.size → i ≠ j → listed.getD i false = true → listed.getD j false = true → fresh i = true → fresh j = true → blkOf (vs i) = some b → blkOf (vs j) ≠ some b) →
      wpAny P .any l.toArray Q (c + (l.length - k)) listed (laid l.toArray vs listed (List.range l.toArray.size) a0) w := by
    intro c
    induction c with
    | zero =>
      intro listed vs w hf hs hc htail hb hG hD
      by_cases hall : ∀ i, i < k → listed.getD i false = true
      · have he : listed = setTo k 0 (Array.replicate l.toArray.size false) := by
          apply Array.ext
          · rw [setTo_size, hs]; simp
          · intro i h1 h2
            have g := setTo_get k 0 (Array.replicate l.toArray.size false) i (by simp; omega)
            have g1 : (setTo k 0 (Array.replicate l.toArray.size false))[i] = (setTo k 0 (Array.replicate l.toArray.size false)).getD i false := get_getD _ _ h2
            have g2 : listed[i] = listed.getD i false := by simp [h1]
            rw [g1, g2, g]
            by_cases c : i < k
            · rw [if_pos (by omega), hall i c]
            · have hio : i < l.length := by omega
              rw [if_neg (by omega), htail i (by omega)]
              simp [hio]
        have hfin := final vs w hb (fun i hi => hG i (by omega) (hall i hi)) (fun i j b hi hj hij => hD i j b (by omega) (by omega) hij (hall i hi) (hall j hj))
        rw [← he] at hfin
        have := wpAny_seq_more (P := P) (md := .any) (Q := Q) 0 (l.drop k) k listed _ w (fun j => by simp) (by rw [he]; simpa using hseq) hfin
        simpa using this
      · exfalso
        simp only [Classical.not_forall] at hall
        obtain ⟨i, hi, hu⟩ := hall
        have := leftIn_tail (m := l.length - k) (by omega) htail hi (by simpa using hu)
        omega
    | succ c ih =>
      intro listed vs w hf hs hc htail hb hG hD
      by_cases hall : ∀ i, i < k → listed.getD i false = true
      · have he : listed = setTo k 0 (Array.replicate l.toArray.size false) := by
          apply Array.ext
          · rw [setTo_size, hs]; simp
          · intro i h1 h2
            have g := setTo_get k 0 (Array.replicate l.toArray.size false) i (by simp; omega)
            have g1 : (setTo k 0 (Array.replicate l.toArray.size false))[i] = (setTo k 0 (Array.replicate l.toArray.size false)).getD i false := get_getD _ _ h2
            have g2 : listed[i] = listed.getD i false := by simp [h1]
            rw [g1, g2, g]
            by_cases c : i < k
            · rw [if_pos (by omega), hall i c]
            · have hio : i < l.length := by omega
              rw [if_neg (by omega), htail i (by omega)]
              simp [hio]
        have hfin := final vs w hb (fun i hi => hG i (by omega) (hall i hi)) (fun i j b hi hj hij => hD i j b (by omega) (by omega) hij (hall i hi) (hall j hj))
        rw [← he] at hfin
        have := wpAny_seq_more (P := P) (md := .any) (Q := Q) (c + 1) (l.drop k) k listed _ w (fun j => by simp) (by rw [he]; simpa using hseq) hfin
        rw [show c + 1 + (l.length - k) = (l.drop k).length + (c + 1) by simp; omega]
        exact this
      simp only [Classical.not_forall] at hall
      obtain ⟨i1, hi1, hu1⟩ := hall
      have hu1' : listed.getD i1 false = false := by simpa using hu1
      have hu1'' : listed.getD i1 true = false := by
        have : i1 < listed.size := by omega
        simpa [this] using hu1'
      have hex : ∃ i, i < k ∧ i ∈ Region.ready .any l.toArray listed := by
        apply Classical.byContradiction
        intro hno
        have : ∀ n i, i < n → i < k → listed.getD i false = true := by
          intro n
          induction n with
          | zero => intro i hi; omega
          | succ n ihn =>
            intro i hi hik
            rcases Nat.lt_or_ge i n with h | h
            · exact ihn i h hik
            · have hin : i = n := by omega
              subst hin
              cases hq : listed.getD i false with
              | true => rfl
              | false =>
                exfalso
                apply hno
                refine ⟨i, hik, mem_ready.2 ⟨?_, ?_⟩⟩
                · have : i < listed.size := by omega
                  simpa [this] using hq
                · have hil : i < l.toArray.size := by omega
                  refine ⟨l.toArray[i], by simp, fun e he hbd => ?_⟩
                  exact ihn e.on (hBack i hik _ (by simp) e he) (Nat.lt_trans (hBack i hik _ (by simp) e he) hik)
        have h9 := this (i1 + 1) i1 (by omega) hi1
        rw [hu1'] at h9
        cases h9
      rw [show c + 1 + (l.length - k) = (c + (l.length - k)) + 1 by omega]
      obtain ⟨i0, hi0, hr0⟩ := hex
      refine ⟨fun h0 => (by rw [h0] at hr0; cases hr0), ?_⟩
      intro i hi
      have hik := ready_prefix hw hc hi1 hu1'' hi
      obtain ⟨h0, o, ho, hall⟩ := mem_ready.1 hi
      have hi' : i < l.toArray.size := (Array.getElem?_eq_some_iff.1 ho).1
      have hlt : i < listed.size := by omega
      have h1 : listed.getD i false = false := by simpa [hlt] using h0
      have ho' : l[i]? = some o := by simpa using ho
      have hguard : o.guard = none := by
        have := (List.all_eq_true.1 hg) o (List.mem_of_getElem? (i := i) (by rw [List.getElem?_take]; simp [hik, ho']))
        simpa using this
      have hnd : (List.range l.toArray.size).Nodup := List.nodup_range
      have hlt' : ∀ e ∈ o.after, Region.binds .any e = true → ∀ d, dstOf l.toArray e.on = some d → e.on < l.toArray.size ∧ listed.getD e.on false = true ∧ (laid l.toArray vs listed (List.range l.toArray.size) a0).eval (.tmp d) = vs e.on := by
        intro e he hbd d hd
        have hel := hall e he hbd
        have hes : e.on < l.toArray.size := by
          rcases Nat.lt_or_ge e.on l.toArray.size with h | h
          · exact h
          · simp only [dstOf, Array.getElem?_eq_none h] at hd
            cases hd
        exact ⟨hes, hel, laid_get L vs listed e.on d hd hel _ _ hnd (List.mem_range.2 hes) (hdst _ _ hd)⟩
      have hstep := step i o hik ho' (laid l.toArray vs listed (List.range l.toArray.size) a0) w hb
        (fun t ht => laid_get_out l.toArray vs listed t _ _ (fun k _ => noDst_of ht k))
        (fun e he hbd d hd => by
          obtain ⟨h2, h3, h4⟩ := hlt' e he hbd d hd
          rw [h4]
          exact hG e.on h2 h3)
      have hwn : Region.wanted o (yielded l.toArray (laid l.toArray vs listed (List.range l.toArray.size) a0).tmps) = true := by simp [Region.wanted, hguard]
      unfold wpOp
      simp only [ho, hwn, if_true]
      refine Or.inl (hstep _ ?_)
      intro v w' hGi hb' hfr
      have hd' : o.dst = dstOf l.toArray i := by simp only [dstOf, ho, Option.bind_some]
      rw [hd', laid_put L vs listed i v hlt h1 _ _ hnd (List.mem_range.2 hi')]
      have hsz := hb.size
      refine ih _ _ _ (by have := leftIn_set hlt h1; omega) (by simpa using hs) (hc.set hi) (fun j hj => by rw [getD_set_ne false (by omega)]; exact htail j hj) (hb.trans (hb'.mono hsz)) ?_ ?_
      · intro j hj hjl
        by_cases hji : j = i
        · subst hji
          simp only [upd, if_true]
          exact hGi
        · rw [getD_set_ne false (Ne.symm hji)] at hjl
          simp only [upd, hji, if_false]
          exact mono j _ w w' hsz (hG j hj hjl) hb'
      · intro j k b hj hk hjk hjl hkl hfj hfk hbj hbk
        by_cases hji : j = i
        · subst hji
          have hkj : k ≠ j := Ne.symm hjk
          rw [getD_set_ne false hjk] at hkl
          simp only [upd, if_true] at hbj
          simp only [upd, hkj, if_false] at hbk
          have h2 := hfr hfj b hbj
          have h3 := blk k _ w b hfk (hG k hk hkl) hbk
          omega
        · rw [getD_set_ne false (Ne.symm hji)] at hjl
          simp only [upd, hji, if_false] at hbj
          by_cases hki : k = i
          · subst hki
            simp only [upd, if_true] at hbk
            have h2 := hfr hfk b hbk
            have h3 := blk j _ w b hfj (hG j hj hjl) hbj
            omega
          · rw [getD_set_ne false (Ne.symm hki)] at hkl
            simp only [upd, hki, if_false] at hbk
            exact hD j k b hj hk hjk hjl hkl hfj hfk hbj hbk
  have hgf : ∀ i, (Array.replicate l.toArray.size false).getD i false = false := by
    intro i
    rcases Nat.lt_or_ge i l.toArray.size with h | h
    · simp at h; simp [h]
    · simp at h; simp [h]
  have h0 : laid l.toArray (fun _ => undef) (Array.replicate l.toArray.size false) (List.range l.toArray.size) a0 = a0 := by
    have : ∀ (q : List Nat) (a : Act), laid l.toArray (fun _ => undef) (Array.replicate l.toArray.size false) q a = a := by
      intro q
      induction q with
      | nil => intro a; rfl
      | cons i q ih =>
        intro a
        simp only [laid]
        rw [hgf i]
        simpa using ih a
    exact this _ _
  have hk := key k (Array.replicate l.toArray.size false) (fun _ => undef) { w0 with drawn := w0.drawn + 1 } (by unfold leftIn; simp; omega) (by simp) (fun j o _ hj => by rw [hgf j] at hj; cases hj) (fun j _ => hgf j) ⟨rfl, rfl, rfl, Nat.le_refl _, fun _ _ => rfl⟩ (fun i hi h => by rw [hgf i] at h; cases h) (fun i j b hi hj hij h => by rw [hgf i] at h; cases h)
  rw [h0, show k + (l.length - k) = l.toArray.size by simp; omega] at hk
  exact hk

end Go.Proofs.Ytknncnaikeinbaa
