/-
  A region of which Go leaves the order open: its first operations may come in any order and make new memory, then comes a call that hands back two values, which are taken apart in whatever order, then the rest in its order. A law of the walk.
-/
import Derived.Test.YtknncnaikeinbaaTail
import Derived.Test.YtknncnaikeinbaaSplit2
namespace Go.Proofs.Ytknncnaikeinbaa
open Go.ChangeShapes Go.WideShapes Go.ChangeAt Go.RowKit
set_option linter.unusedVariables false

def headB2 (ops : Array Oper) (k m : Nat) : Bool := (ops.size == k + m) && waitsB .any ops k
def backTo (ops : Array Oper) (k : Nat) : Bool := (List.range k).all fun i => match ops[i]? with | some o => o.after.all fun e => !Region.binds .any e || decide (e.on < i) | none => true
theorem back_to {ops : Array Oper} {k : Nat} (h : backTo ops k = true) (i : Nat) (hik : i < k) (o : Oper) (ho : ops[i]? = some o) : ∀ e ∈ o.after, Region.binds .any e = true → e.on < i := by
  intro e he hbd
  have h1 := (List.all_eq_true.1 h) i (List.mem_range.2 hik)
  simp only [ho] at h1
  have h2 := Array.all_eq_true_iff_forall_mem.1 h1 e he
  rw [hbd] at h2
  exact of_decide_eq_true (by simpa using h2)
def call2T (ops : Array Oper) (k : Nat) : Bool :=
  decide (k + 4 ≤ ops.size) && Region.noSelect ops &&
    (Region.ready .any ops (upTo ops k) == [k]) && (Region.ready .any ops (upTo ops (k + 1)) == [k + 1]) &&
    ((Region.ready .any ops (upTo ops (k + 2))).contains (k + 2) && Region.free .any ops (upTo ops (k + 2)) (k + 2)) &&
    ((Region.ready .any ops (upTo ops (k + 3))).contains (k + 3) && Region.free .any ops (upTo ops (k + 3)) (k + 3)) &&
    seqFrom .any ops (ops.size - (k + 4)) (k + 4) (upTo ops (k + 4))

theorem any_call2 {P : Program} {Q : Exit → Act → World → Prop} {l : List Oper} (k : Nat) (hB : call2T l.toArray k = true)
    (o0 o1 o2 o3 : Oper) (h0 : l[k]? = some o0) (h1 : l[k + 1]? = some o1) (h2 : l[k + 2]? = some o2) (h3 : l[k + 3]? = some o3) (d0 d1 : Tmp) (d2 d3 : Option Tmp)
    (e0 : o0.dst = some d0) (e1 : o1.dst = some d1) (e2 : o2.dst = d2) (e3 : o3.dst = d3) (g0 : o0.guard = none) (g1 : o1.guard = none) (g2 : o2.guard = none) (g3 : o3.guard = none)
    (p1 : o1.op = .move (.tmp d0)) (p2 : o2.op = .extract (.tmp d1) 0) (p3 : o3.op = .extract (.tmp d1) 1) (hd2 : d2 ≠ some d1)
    (hQ2 : ∀ c (a : Act) v w, Q (.panic c) (a.put d2 v) w → Q (.panic c) a w) (hQ3 : ∀ c (a : Act) v w, Q (.panic c) (a.put d3 v) w → Q (.panic c) a w)
    (a' : Act) (w' : World) (s0 : d0 < a'.tmps.size) (s1 : d1 < a'.tmps.size) (f : FuncId) (args : Array Value) (hrun : (execOp a'.eval o0).run P w' = .ok (.enter f args) w')
    (hcall : Calls P f args w' fun e w'' => ∃ v1 v2, e = .returned (.tuple #[v1, v2]) ∧ wpList P l.toArray Q (l.drop (k + 4)) ((((a'.put (some d0) (.tuple #[v1, v2])).put (some d1) (.tuple #[v1, v2])).put d2 v1).put d3 v2) w'') (c : Nat) :
    wpAny P .any l.toArray Q (c + (l.length - k)) (upTo l.toArray k) a' w' := by
  simp only [call2T, Bool.and_eq_true, decide_eq_true_eq, beq_iff_eq] at hB
  obtain ⟨⟨⟨⟨⟨⟨hk4, hs⟩, r0⟩, r1⟩, r2⟩, r3⟩, hseq⟩ := hB
  have hsz : l.toArray.size = l.length := by simp
  rw [hsz] at hk4
  rw [show c + (l.length - k) = (((((l.length - (k + 4)) + c) + 1) + 1) + 1) + 1 by omega]
  have hwant : ∀ (o : Oper) (b : Act), o.guard = none → Region.wanted o (yielded l.toArray b.tmps) = true := fun o b hg => by simp [Region.wanted, hg]
  refine wpAny_all (rs := [k]) r0 (by simp) (fun i hi => ?_)
  obtain rfl := List.mem_singleton.1 hi
  have h0' : l.toArray[i]? = some o0 := by simpa using h0
  unfold wpOp
  simp only [h0', hwant o0 a' g0, if_true]
  refine Or.inl ?_
  unfold Oper.wp
  rw [hrun]
  simp only [Oper.upon]
  refine hcall.mono ?_
  rintro e w2 ⟨v1, v2, rfl, hrest⟩
  show wpAny P .any l.toArray Q _ ((upTo l.toArray i).setIfInBounds i true) _ _
  rw [upTo_set, e0]
  refine wpAny_all (rs := [i + 1]) r1 (by simp) (fun j hj => ?_)
  obtain rfl := List.mem_singleton.1 hj
  have h1' : l.toArray[i + 1]? = some o1 := by simpa using h1
  unfold wpOp
  simp only [h1', hwant o1 _ g1, if_true]
  refine Or.inl ?_
  unfold Oper.wp
  rw [run_move o1 _ _ p1]
  simp only [Oper.upon]
  rw [upTo_set, e1]
  have ev0 : (a'.put (some d0) (.tuple #[v1, v2])).eval (.tmp d0) = .tuple #[v1, v2] := put_get _ _ _ s0
  rw [ev0]
  have ev1 : ((a'.put (some d0) (.tuple #[v1, v2])).put (some d1) (.tuple #[v1, v2])).eval (.tmp d1) = .tuple #[v1, v2] := put_get _ _ _ (by rw [put_size]; exact s1)
  have h2' : l.toArray[i + 2]? = some o2 := by simpa using h2
  have h3' : l.toArray[i + 3]? = some o3 := by simpa using h3
  refine wpAny_take (i := i + 2) (v := v1) h2' hs r2.2 r2.1 (fun c a w hh => hQ2 c a _ w (e2 ▸ hh)) (Or.inl ⟨hwant o2 _ g2, fun w => ?_⟩) ?_
  · exact run_extract2 _ 0 v1 v2 rfl o2 _ _ p2 ev1 (by omega) w
  rw [upTo_set, e2]
  have ev2 : (((a'.put (some d0) (.tuple #[v1, v2])).put (some d1) (.tuple #[v1, v2])).put d2 v1).eval (.tmp d1) = .tuple #[v1, v2] := (put_get_ne _ _ _ _ hd2).trans ev1
  refine wpAny_take (i := i + 3) (v := v2) h3' hs r3.2 r3.1 (fun c a w hh => hQ3 c a _ w (e3 ▸ hh)) (Or.inl ⟨hwant o3 _ g3, fun w => ?_⟩) ?_
  · exact run_extract2 _ 1 v1 v2 rfl o3 _ _ p3 ev2 (by omega) w
  rw [upTo_set, e3]
  have := wpAny_seq_more (P := P) (md := .any) (Q := Q) c (l.drop (i + 4)) (i + 4) (upTo l.toArray (i + 4)) _ w2 (fun j => by simp) (by simpa using hseq) hrest
  simpa using this

theorem any_order_head {P : Program} {l : List Oper} {Q : Exit → Act → World → Prop} {id : Nat} {a0 : Act} {w0 : World} (k : Nat) (hm : P.follows .mixedOrders = true)
    (G : Nat → Value → World → Prop) (fresh : Nat → Bool) (hT : headB2 l.toArray k (l.length - k) = true) (hL : loneB l.toArray = true) (hBk : backTo l.toArray k = true) (hg : (l.take k).all (fun o => o.guard.isNone) = true)
    (hdst0 : dstB l.toArray a0.tmps.size = true)
    (mono : ∀ i v w w', w0.heap.size ≤ w.heap.size → G i v w → Below w.heap.size w w' → G i v w')
    (blk : ∀ i v w b, fresh i = true → G i v w → blkOf v = some b → b < w.heap.size)
    (step : ∀ (i : Nat) (o : Oper), i < k → l[i]? = some o → ∀ (a : Act) (w : World), Below w0.heap.size w0 w → (∀ t, noDstB l.toArray t = true → a.eval (.tmp t) = a0.tmps.getD t undef) →
      (∀ e ∈ o.after, Region.binds .any e = true → ∀ d, dstOf l.toArray e.on = some d → G e.on (a.eval (.tmp d)) w) →
      ∀ K : Act → World → Prop, (∀ v w', G i v w' → Below w.heap.size w w' → (fresh i = true → ∀ b, blkOf v = some b → w.heap.size ≤ b) → K (a.put o.dst v) w') → o.wp P a w K Q)
    (final : ∀ vs w', Below w0.heap.size w0 w' → (∀ i, i < k → G i (vs i) w') →
      (∀ i j b, i < k → j < k → i ≠ j → fresh i = true → fresh j = true → blkOf (vs i) = some b → blkOf (vs j) ≠ some b) →
      ∀ c, wpAny P .any l.toArray Q (c + (l.length - k)) (upTo l.toArray k) (laid l.toArray vs (upTo l.toArray k) (List.range l.toArray.size) a0) w') :
    (Code.region id l.toArray true).wp P Q a0 w0 := by
  have hdst := dst_of hdst0
  have L := lone_of hL
  have hBack : ∀ i, i < k → ∀ o, l.toArray[i]? = some o → ∀ e ∈ o.after, Region.binds .any e = true → e.on < i := fun i hik o ho => back_to hBk i hik o ho
  simp only [headB2, Bool.and_eq_true, beq_iff_eq] at hT
  obtain ⟨hkm, hw⟩ := hT
  have hsl : l.toArray.size = l.length := by simp
  have hkl : k ≤ l.length := by omega
  refine wp_region_any hm ?_
  have key : ∀ (c : Nat) (listed : Array Bool) (vs : Nat → Value) (w : World), leftIn listed ≤ c + (l.length - k) → listed.size = l.toArray.size → Closed .any l.toArray listed → (∀ j, k ≤ j → listed.getD j false = false) → Below w0.heap.size w0 w →
      (∀ i, i < l.toArray.size → listed.getD i false = true → G i (vs i) w) →
      (∀ i j b, i < l.toArray.size → j < l.toArray.size → i ≠ j → listed.getD i false = true → listed.getD j false = true → fresh i = true → fresh j = true → blkOf (vs i) = some b → blkOf (vs j) ≠ some b) →
      wpAny P .any l.toArray Q (c + (l.length - k)) listed (laid l.toArray vs listed (List.range l.toArray.size) a0) w := by
    intro c
    induction c with
    | zero =>
      intro listed vs w hf hs hc htail hb hG hD
      by_cases hall : ∀ i, i < k → listed.getD i false = true
      · have he : listed = setTo k 0 (Array.replicate l.toArray.size false) := by
          apply Array.ext
          · rw [setTo_size, hs]; simp
          · intro i h1 h2
            have g := setTo_get k 0 (Array.replicate l.toArray.size false) i (by simp; omega)
            have g1 : (setTo k 0 (Array.replicate l.toArray.size false))[i] = (setTo k 0 (Array.replicate l.toArray.size false)).getD i false := get_getD _ _ h2
            have g2 : listed[i] = listed.getD i false := by simp [h1]
            rw [g1, g2, g]
            by_cases c : i < k
            · rw [if_pos (by omega), hall i c]
            · have hio : i < l.length := by omega
              rw [if_neg (by omega), htail i (by omega)]
              simp [hio]
        have hfin := final vs w hb (fun i hi => hG i (by omega) (hall i hi)) (fun i j b hi hj hij => hD i j b (by omega) (by omega) hij (hall i hi) (hall j hj))
        unfold upTo at hfin
        rw [← he] at hfin
        exact hfin 0
      · exfalso
        simp only [Classical.not_forall] at hall
        obtain ⟨i, hi, hu⟩ := hall
        have := leftIn_tail (m := l.length - k) (by omega) htail hi (by simpa using hu)
        omega
    | succ c ih =>
      intro listed vs w hf hs hc htail hb hG hD
      by_cases hall : ∀ i, i < k → listed.getD i false = true
      · have he : listed = setTo k 0 (Array.replicate l.toArray.size false) := by
          apply Array.ext
          · rw [setTo_size, hs]; simp
          · intro i h1 h2
            have g := setTo_get k 0 (Array.replicate l.toArray.size false) i (by simp; omega)
            have g1 : (setTo k 0 (Array.replicate l.toArray.size false))[i] = (setTo k 0 (Array.replicate l.toArray.size false)).getD i false := get_getD _ _ h2
            have g2 : listed[i] = listed.getD i false := by simp [h1]
            rw [g1, g2, g]
            by_cases c : i < k
            · rw [if_pos (by omega), hall i c]
            · have hio : i < l.length := by omega
              rw [if_neg (by omega), htail i (by omega)]
              simp [hio]
        have hfin := final vs w hb (fun i hi => hG i (by omega) (hall i hi)) (fun i j b hi hj hij => hD i j b (by omega) (by omega) hij (hall i hi) (hall j hj))
        unfold upTo at hfin
        rw [← he] at hfin
        exact hfin (c + 1)
      simp only [Classical.not_forall] at hall
      obtain ⟨i1, hi1, hu1⟩ := hall
      have hu1' : listed.getD i1 false = false := by simpa using hu1
      have hu1'' : listed.getD i1 true = false := by
        have : i1 < listed.size := by omega
        simpa [this] using hu1'
      have hex : ∃ i, i < k ∧ i ∈ Region.ready .any l.toArray listed := by
        apply Classical.byContradiction
        intro hno
        have : ∀ n i, i < n → i < k → listed.getD i false = true := by
          intro n
          induction n with
          | zero => intro i hi; omega
          | succ n ihn =>
            intro i hi hik
            rcases Nat.lt_or_ge i n with h | h
            · exact ihn i h hik
            · have hin : i = n := by omega
              subst hin
              cases hq : listed.getD i false with
              | true => rfl
              | false =>
                exfalso
                apply hno
                refine ⟨i, hik, mem_ready.2 ⟨?_, ?_⟩⟩
                · have : i < listed.size := by omega
                  simpa [this] using hq
                · have hil : i < l.toArray.size := by omega
                  refine ⟨l.toArray[i], by simp, fun e he hbd => ?_⟩
                  exact ihn e.on (hBack i hik _ (by simp) e he hbd) (Nat.lt_trans (hBack i hik _ (by simp) e he hbd) hik)
        have h9 := this (i1 + 1) i1 (by omega) hi1
        rw [hu1'] at h9
        cases h9
      rw [show c + 1 + (l.length - k) = (c + (l.length - k)) + 1 by omega]
      obtain ⟨i0, hi0, hr0⟩ := hex
      refine ⟨fun h0 => (by rw [h0] at hr0; cases hr0), ?_⟩
      intro i hi
      have hik := ready_prefix hw hc hi1 hu1'' hi
      obtain ⟨h0, o, ho, hall⟩ := mem_ready.1 hi
      have hi' : i < l.toArray.size := (Array.getElem?_eq_some_iff.1 ho).1
      have hlt : i < listed.size := by omega
      have h1 : listed.getD i false = false := by simpa [hlt] using h0
      have ho' : l[i]? = some o := by simpa using ho
      have hguard : o.guard = none := by
        have := (List.all_eq_true.1 hg) o (List.mem_of_getElem? (i := i) (by rw [List.getElem?_take]; simp [hik, ho']))
        simpa using this
      have hnd : (List.range l.toArray.size).Nodup := List.nodup_range
      have hlt' : ∀ e ∈ o.after, Region.binds .any e = true → ∀ d, dstOf l.toArray e.on = some d → e.on < l.toArray.size ∧ listed.getD e.on false = true ∧ (laid l.toArray vs listed (List.range l.toArray.size) a0).eval (.tmp d) = vs e.on := by
        intro e he hbd d hd
        have hel := hall e he hbd
        have hes : e.on < l.toArray.size := by
          rcases Nat.lt_or_ge e.on l.toArray.size with h | h
          · exact h
          · simp only [dstOf, Array.getElem?_eq_none h] at hd
            cases hd
        exact ⟨hes, hel, laid_get L vs listed e.on d hd hel _ _ hnd (List.mem_range.2 hes) (hdst _ _ hd)⟩
      have hstep := step i o hik ho' (laid l.toArray vs listed (List.range l.toArray.size) a0) w hb
        (fun t ht => laid_get_out l.toArray vs listed t _ _ (fun k _ => noDst_of ht k))
        (fun e he hbd d hd => by
          obtain ⟨h2, h3, h4⟩ := hlt' e he hbd d hd
          rw [h4]
          exact hG e.on h2 h3)
      have hwn : Region.wanted o (yielded l.toArray (laid l.toArray vs listed (List.range l.toArray.size) a0).tmps) = true := by simp [Region.wanted, hguard]
      unfold wpOp
      simp only [ho, hwn, if_true]
      refine Or.inl (hstep _ ?_)
      intro v w' hGi hb' hfr
      have hd' : o.dst = dstOf l.toArray i := by simp only [dstOf, ho, Option.bind_some]
      rw [hd', laid_put L vs listed i v hlt h1 _ _ hnd (List.mem_range.2 hi')]
      have hsz := hb.size
      refine ih _ _ _ (by have := leftIn_set hlt h1; omega) (by simpa using hs) (hc.set hi) (fun j hj => by rw [getD_set_ne false (by omega)]; exact htail j hj) (hb.trans (hb'.mono hsz)) ?_ ?_
      · intro j hj hjl
        by_cases hji : j = i
        · subst hji
          simp only [upd, if_true]
          exact hGi
        · rw [getD_set_ne false (Ne.symm hji)] at hjl
          simp only [upd, hji, if_false]
          exact mono j _ w w' hsz (hG j hj hjl) hb'
      · intro j k b hj hk hjk hjl hkl hfj hfk hbj hbk
        by_cases hji : j = i
        · subst hji
          have hkj : k ≠ j := Ne.symm hjk
          rw [getD_set_ne false hjk] at hkl
          simp only [upd, if_true] at hbj
          simp only [upd, hkj, if_false] at hbk
          have h2 := hfr hfj b hbj
          have h3 := blk k _ w b hfk (hG k hk hkl) hbk
          omega
        · rw [getD_set_ne false (Ne.symm hji)] at hjl
          simp only [upd, hji, if_false] at hbj
          by_cases hki : k = i
          · subst hki
            simp only [upd, if_true] at hbk
            have h2 := hfr hfk b hbk
            have h3 := blk j _ w b hfj (hG j hj hjl) hbj
            omega
          · rw [getD_set_ne false (Ne.symm hki)] at hkl
            simp only [upd, hki, if_false] at hbk
            exact hD j k b hj hk hjk hjl hkl hfj hfk hbj hbk
  have hgf : ∀ i, (Array.replicate l.toArray.size false).getD i false = false := by
    intro i
    rcases Nat.lt_or_ge i l.toArray.size with h | h
    · simp at h; simp [h]
    · simp at h; simp [h]
  have h0 : laid l.toArray (fun _ => undef) (Array.replicate l.toArray.size false) (List.range l.toArray.size) a0 = a0 := by
    have : ∀ (q : List Nat) (a : Act), laid l.toArray (fun _ => undef) (Array.replicate l.toArray.size false) q a = a := by
      intro q
      induction q with
      | nil => intro a; rfl
      | cons i q ih =>
        intro a
        simp only [laid]
        rw [hgf i]
        simpa using ih a
    exact this _ _
  have hk := key k (Array.replicate l.toArray.size false) (fun _ => undef) { w0 with drawn := w0.drawn + 1 } (by unfold leftIn; simp; omega) (by simp) (fun j o _ hj => by rw [hgf j] at hj; cases hj) (fun j _ => hgf j) ⟨rfl, rfl, rfl, Nat.le_refl _, fun _ _ => rfl⟩ (fun i hi h => by rw [hgf i] at h; cases h) (fun i j b hi hj hij h => by rw [hgf i] at h; cases h)
  rw [h0, show k + (l.length - k) = l.toArray.size by simp; omega] at hk
  exact hk



theorem any_order_tail2 {P : Program} {l : List Oper} {Q : Exit → Act → World → Prop} {id : Nat} {a0 : Act} {w0 : World} (k : Nat) (hm : P.follows .mixedOrders = true)
    (G : Nat → Value → World → Prop) (fresh : Nat → Bool) (hT : headB2 l.toArray k (l.length - k) = true) (hS : seqFrom .any l.toArray (l.length - k) k (upTo l.toArray k) = true) (hL : loneB l.toArray = true) (hBk : backTo l.toArray k = true) (hg : (l.take k).all (fun o => o.guard.isNone) = true)
    (hdst0 : dstB l.toArray a0.tmps.size = true)
    (mono : ∀ i v w w', w0.heap.size ≤ w.heap.size → G i v w → Below w.heap.size w w' → G i v w')
    (blk : ∀ i v w b, fresh i = true → G i v w → blkOf v = some b → b < w.heap.size)
    (step : ∀ (i : Nat) (o : Oper), i < k → l[i]? = some o → ∀ (a : Act) (w : World), Below w0.heap.size w0 w → (∀ t, noDstB l.toArray t = true → a.eval (.tmp t) = a0.tmps.getD t undef) →
      (∀ e ∈ o.after, Region.binds .any e = true → ∀ d, dstOf l.toArray e.on = some d → G e.on (a.eval (.tmp d)) w) →
      ∀ K : Act → World → Prop, (∀ v w', G i v w' → Below w.heap.size w w' → (fresh i = true → ∀ b, blkOf v = some b → w.heap.size ≤ b) → K (a.put o.dst v) w') → o.wp P a w K Q)
    (final : ∀ vs w', Below w0.heap.size w0 w' → (∀ i, i < k → G i (vs i) w') →
      (∀ i j b, i < k → j < k → i ≠ j → fresh i = true → fresh j = true → blkOf (vs i) = some b → blkOf (vs j) ≠ some b) →
      wpList P l.toArray Q (l.drop k) (laid l.toArray vs (upTo l.toArray k) (List.range l.toArray.size) a0) w') :
    (Code.region id l.toArray true).wp P Q a0 w0 := by
  refine any_order_head k hm G fresh hT hL hBk hg hdst0 mono blk step (fun vs w' hb hG hD c => ?_)
  have := wpAny_seq_more (P := P) (md := .any) (Q := Q) c (l.drop k) k (upTo l.toArray k) _ w' (fun j => by simp) (by simpa using hS) (final vs w' hb hG hD)
  rw [show c + (l.length - k) = (l.drop k).length + c by simp; omega]
  exact this

end Go.Proofs.Ytknncnaikeinbaa
