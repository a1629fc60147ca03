/-
  What the law's proof goes by, part 8.
-/
import Derived.Deep.AppendSrc
import Derived.Maps.AppendAt
import Derived.Test.YtlfjhcdjgoeafaaDoorStartFor00
import Derived.Test.YtlfjhcdjgoeafaaDoorStartFor02
import Derived.Test.YtlfjhcdjgoeafaaDoorStartFor03
import Derived.Test.YtlfjhcdjgoeafaaDoorStartFor04
import Derived.Test.YtlfjhcdjgoeafaaDoorStartFor05
namespace Go.Proofs.YtlfjhcdjgoeafaaDoor
open Go.ChangeShapes Go.WideShapes Go.ChangeAt Go.RowKit
set_option linter.unusedVariables false
set_option linter.unusedSimpArgs false
set_option linter.unnecessarySimpa false
set_option linter.unusedSectionVars false
section
theorem wpAny_seq_more {P : Program} {ops : Array Oper} {md : Region.Mode} {Q : Exit → Act → World → Prop} (c : Nat) : ∀ (l : List Oper) (n : Nat) (listed : Array Bool) (a : Act) (w : World), (∀ j, l[j]? = ops[n + j]?) → seqFrom md ops l.length n listed = true → wpList P ops Q l a w → wpAny P md ops Q (l.length + c) listed a w
 | [], _, listed, a, w, _, hB, h => by
  have h0 : Region.ready md ops listed = [] := by simpa [seqFrom] using hB
  exact wpAny_done h0 h _
 | o :: l, n, listed, a, w, hl, hB, h => by
  have h0 : ops[n]? = some o := by simpa using (hl 0).symm
  simp only [List.length_cons, seqFrom, Bool.and_eq_true] at hB
  obtain ⟨hr, hB'⟩ := hB
  have hr' : Region.ready md ops listed = [n] := by simpa using hr
  have ih := fun a w => wpAny_seq_more (P := P) (Q := Q) c l (n + 1) (listed.setIfInBounds n true) a w (fun j => by have := hl (j + 1); simpa [Nat.add_assoc, Nat.add_comm 1 j] using this) hB'
  rw [show (o :: l).length + c = (l.length + c) + 1 by simp; omega]
  refine wpAny_all hr' (by simp) (fun i hi => ?_)
  obtain rfl := List.mem_singleton.1 hi
  unfold wpOp
  unfold wpList at h
  simp only [h0]
  split
  ·rename_i hwd
   rw [if_pos hwd] at h
   rcases h with h | h
   ·exact .inl (Oper.wp_mono ih h)
   ·exact .inr h
  ·rename_i hwd
   rw [if_neg hwd] at h
   exact ih _ _ h
theorem get_getD (a : Array Bool) (i : Nat) (h : i < a.size) : a[i] = a.getD i false := by simp [h]
theorem leftIn_tail {listed : Array Bool} {k m i : Nat} (hs : listed.size = k + m) (ht : ∀ j, k ≤ j → listed.getD j false = false) (hi : i < k) (hu : listed.getD i false = false) : m + 1 ≤ leftIn listed := by
 unfold leftIn
 rw [← List.take_append_drop k listed.toList, List.count_append]
 have h1 : (listed.toList.drop k).count false = m := by
  rw [List.count_eq_length.2]
  ·simp [hs]
  ·intro b hb
   obtain ⟨j, hj, rfl⟩ := List.getElem_of_mem hb
   have h2 := ht (k + j) (by omega)
   simp at hj
   have h3 : k + j < listed.size := by omega
   simp [h3] at h2
   simp [h2]
 have h2 : 0 < (listed.toList.take k).count false := by
  apply List.count_pos_iff.2
  have h3 : i < listed.size := by omega
  have h4 : listed[i] = false := by simpa [h3] using hu
  rw [← h4]
  apply List.mem_iff_getElem.2
  exact ⟨i, by simp; omega, by simp⟩
 omega
def tailB (ops : Array Oper) (k m : Nat) : Bool := (ops.size == k + m) && waitsB .any ops k && seqFrom .any ops m k (setTo k 0 (Array.replicate ops.size false))
theorem any_order_tail {P : Program} {l : List Oper} {Q : Exit → Act → World → Prop} {id : Nat} {a0 : Act} {w0 : World} (k : Nat) (hm : P.follows .mixedOrders = true)
  (G : Nat → Value → World → Prop) (fresh : Nat → Bool) (hT : tailB l.toArray k (l.length - k) = true) (hL : loneB l.toArray = true) (hBk : backB l.toArray = true) (hg : (l.take k).all (fun o => o.guard.isNone) = true)
  (hdst0 : dstB l.toArray a0.tmps.size = true)
  (mono : ∀ i v w w', w0.heap.size ≤ w.heap.size → G i v w → Below w.heap.size w w' → G i v w')
  (blk : ∀ i v w b, fresh i = true → G i v w → blkOf v = some b → b < w.heap.size)
  (step : ∀ (i : Nat) (o : Oper), i < k → l[i]? = some o → ∀ (a : Act) (w : World), Below w0.heap.size w0 w → (∀ t, noDstB l.toArray t = true → a.eval (.tmp t) = a0.tmps.getD t undef) →
   (∀ e ∈ o.after, Region.binds .any e = true → ∀ d, dstOf l.toArray e.on = some d → G e.on (a.eval (.tmp d)) w) →
   ∀ K : Act → World → Prop, (∀ v w', G i v w' → Below w.heap.size w w' → (fresh i = true → ∀ b, blkOf v = some b → w.heap.size ≤ b) → K (a.put o.dst v) w') → o.wp P a w K Q)
  (final : ∀ vs w', Below w0.heap.size w0 w' → (∀ i, i < k → G i (vs i) w') →
   (∀ i j b, i < k → j < k → i ≠ j → fresh i = true → fresh j = true → blkOf (vs i) = some b → blkOf (vs j) ≠ some b) →
   wpList P l.toArray Q (l.drop k) (laid l.toArray vs (setTo k 0 (Array.replicate l.toArray.size false)) (List.range l.toArray.size) a0) w') :
  (Code.region id l.toArray true).wp P Q a0 w0 := by
 have hdst := dst_of hdst0
 have L := lone_of hL
 have hBack : ∀ i, i < k → ∀ o, l.toArray[i]? = some o → ∀ e ∈ o.after, e.on < i := fun i _ o ho => back_of hBk i o ho
 simp only [tailB, Bool.and_eq_true, beq_iff_eq] at hT
 obtain ⟨⟨hkm, hw⟩, hseq⟩ := hT
 have hsl : l.toArray.size = l.length := by simp
 have hkl : k ≤ l.length := by omega
 refine wp_region_any hm ?_
 have key : ∀ (c : Nat) (listed : Array Bool) (vs : Nat → Value) (w : World), leftIn listed ≤ c + (l.length - k) → listed.size = l.toArray.size → Closed .any l.toArray listed → (∀ j, k ≤ j → listed.getD j false = false) → Below w0.heap.size w0 w →
   (∀ i, i < l.toArray.size → listed.getD i false = true → G i (vs i) w) →
   (∀ i j b, i < l.toArray.size → j < l.toArray.size → i ≠ j → listed.getD i false = true → listed.getD j false = true → fresh i = true → fresh j = true → blkOf (vs i) = some b → blkOf (vs j) ≠ some b) →
   wpAny P .any l.toArray Q (c + (l.length - k)) listed (laid l.toArray vs listed (List.range l.toArray.size) a0) w := by
  intro c
  induction c with
  | zero =>
   intro listed vs w hf hs hc htail hb hG hD
   by_cases hall : ∀ i, i < k → listed.getD i false = true
   ·have he : listed = setTo k 0 (Array.replicate l.toArray.size false) := by
     apply Array.ext
     ·rw [setTo_size, hs]; simp
     ·intro i h1 h2
      have g := setTo_get k 0 (Array.replicate l.toArray.size false) i (by simp; omega)
      have g1 : (setTo k 0 (Array.replicate l.toArray.size false))[i] = (setTo k 0 (Array.replicate l.toArray.size false)).getD i false := get_getD _ _ h2
      have g2 : listed[i] = listed.getD i false := by simp [h1]
      rw [g1, g2, g]
      by_cases c : i < k
      ·rw [if_pos (by omega), hall i c]
      ·have hio : i < l.length := by omega
       rw [if_neg (by omega), htail i (by omega)]
       simp [hio]
    have hfin := final vs w hb (fun i hi => hG i (by omega) (hall i hi)) (fun i j b hi hj hij => hD i j b (by omega) (by omega) hij (hall i hi) (hall j hj))
    rw [← he] at hfin
    have := wpAny_seq_more (P := P) (md := .any) (Q := Q) 0 (l.drop k) k listed _ w (fun j => by simp) (by rw [he]; simpa using hseq) hfin
    simpa using this
   ·exfalso
    simp only [Classical.not_forall] at hall
    obtain ⟨i, hi, hu⟩ := hall
    have := leftIn_tail (m := l.length - k) (by omega) htail hi (by simpa using hu)
    omega
  | succ c ih =>
   intro listed vs w hf hs hc htail hb hG hD
   by_cases hall : ∀ i, i < k → listed.getD i false = true
   ·have he : listed = setTo k 0 (Array.replicate l.toArray.size false) := by
     apply Array.ext
     ·rw [setTo_size, hs]; simp
     ·intro i h1 h2
      have g := setTo_get k 0 (Array.replicate l.toArray.size false) i (by simp; omega)
      have g1 : (setTo k 0 (Array.replicate l.toArray.size false))[i] = (setTo k 0 (Array.replicate l.toArray.size false)).getD i false := get_getD _ _ h2
      have g2 : listed[i] = listed.getD i false := by simp [h1]
      rw [g1, g2, g]
      by_cases c : i < k
      ·rw [if_pos (by omega), hall i c]
      ·have hio : i < l.length := by omega
       rw [if_neg (by omega), htail i (by omega)]
       simp [hio]
    have hfin := final vs w hb (fun i hi => hG i (by omega) (hall i hi)) (fun i j b hi hj hij => hD i j b (by omega) (by omega) hij (hall i hi) (hall j hj))
    rw [← he] at hfin
    have := wpAny_seq_more (P := P) (md := .any) (Q := Q) (c + 1) (l.drop k) k listed _ w (fun j => by simp) (by rw [he]; simpa using hseq) hfin
    rw [show c + 1 + (l.length - k) = (l.drop k).length + (c + 1) by simp; omega]
    exact this
   simp only [Classical.not_forall] at hall
   obtain ⟨i1, hi1, hu1⟩ := hall
   have hu1' : listed.getD i1 false = false := by simpa using hu1
   have hu1'' : listed.getD i1 true = false := by
    have : i1 < listed.size := by omega
    simpa [this] using hu1'
   have hex : ∃ i, i < k ∧ i ∈ Region.ready .any l.toArray listed := by
    apply Classical.byContradiction
    intro hno
    have : ∀ n i, i < n → i < k → listed.getD i false = true := by
     intro n
     induction n with
     | zero => intro i hi; omega
     | succ n ihn =>
      intro i hi hik
      rcases Nat.lt_or_ge i n with h | h
      ·exact ihn i h hik
      ·have hin : i = n := by omega
       subst hin
       cases hq : listed.getD i false with
       | true => rfl
       | false =>
        exfalso
        apply hno
        refine ⟨i, hik, mem_ready.2 ⟨?_, ?_⟩⟩
        ·have : i < listed.size := by omega
         simpa [this] using hq
        ·have hil : i < l.toArray.size := by omega
         refine ⟨l.toArray[i], by simp, fun e he hbd => ?_⟩
         exact ihn e.on (hBack i hik _ (by simp) e he) (Nat.lt_trans (hBack i hik _ (by simp) e he) hik)
    have h9 := this (i1 + 1) i1 (by omega) hi1
    rw [hu1'] at h9
    cases h9
   rw [show c + 1 + (l.length - k) = (c + (l.length - k)) + 1 by omega]
   obtain ⟨i0, hi0, hr0⟩ := hex
   refine ⟨fun h0 => (by rw [h0] at hr0; cases hr0), ?_⟩
   intro i hi
   have hik := ready_prefix hw hc hi1 hu1'' hi
   obtain ⟨h0, o, ho, hall⟩ := mem_ready.1 hi
   have hi' : i < l.toArray.size := (Array.getElem?_eq_some_iff.1 ho).1
   have hlt : i < listed.size := by omega
   have h1 : listed.getD i false = false := by simpa [hlt] using h0
   have ho' : l[i]? = some o := by simpa using ho
   have hguard : o.guard = none := by
    have := (List.all_eq_true.1 hg) o (List.mem_of_getElem? (i := i) (by rw [List.getElem?_take]; simp [hik, ho']))
    simpa using this
   have hnd : (List.range l.toArray.size).Nodup := List.nodup_range
   have hlt' : ∀ e ∈ o.after, Region.binds .any e = true → ∀ d, dstOf l.toArray e.on = some d → e.on < l.toArray.size ∧ listed.getD e.on false = true ∧ (laid l.toArray vs listed (List.range l.toArray.size) a0).eval (.tmp d) = vs e.on := by
    intro e he hbd d hd
    have hel := hall e he hbd
    have hes : e.on < l.toArray.size := by
     rcases Nat.lt_or_ge e.on l.toArray.size with h | h
     ·exact h
     ·simp only [dstOf, Array.getElem?_eq_none h] at hd
      cases hd
    exact ⟨hes, hel, laid_get L vs listed e.on d hd hel _ _ hnd (List.mem_range.2 hes) (hdst _ _ hd)⟩
   have hstep := step i o hik ho' (laid l.toArray vs listed (List.range l.toArray.size) a0) w hb
    (fun t ht => laid_get_out l.toArray vs listed t _ _ (fun k _ => noDst_of ht k))
    (fun e he hbd d hd => by
     obtain ⟨h2, h3, h4⟩ := hlt' e he hbd d hd
     rw [h4]
     exact hG e.on h2 h3)
   have hwn : Region.wanted o (yielded l.toArray (laid l.toArray vs listed (List.range l.toArray.size) a0).tmps) = true := by simp [Region.wanted, hguard]
   unfold wpOp
   simp only [ho, hwn, if_true]
   refine Or.inl (hstep _ ?_)
   intro v w' hGi hb' hfr
   have hd' : o.dst = dstOf l.toArray i := by simp only [dstOf, ho, Option.bind_some]
   rw [hd', laid_put L vs listed i v hlt h1 _ _ hnd (List.mem_range.2 hi')]
   have hsz := hb.size
   refine ih _ _ _ (by have := leftIn_set hlt h1; omega) (by simpa using hs) (hc.set hi) (fun j hj => by rw [getD_set_ne false (by omega)]; exact htail j hj) (hb.trans (hb'.mono hsz)) ?_ ?_
   ·intro j hj hjl
    by_cases hji : j = i
    ·subst hji
     simp only [upd, if_true]
     exact hGi
    ·rw [getD_set_ne false (Ne.symm hji)] at hjl
     simp only [upd, hji, if_false]
     exact mono j _ w w' hsz (hG j hj hjl) hb'
   ·intro j k b hj hk hjk hjl hkl hfj hfk hbj hbk
    by_cases hji : j = i
    ·subst hji
     have hkj : k ≠ j := Ne.symm hjk
     rw [getD_set_ne false hjk] at hkl
     simp only [upd, if_true] at hbj
     simp only [upd, hkj, if_false] at hbk
     have h2 := hfr hfj b hbj
     have h3 := blk k _ w b hfk (hG k hk hkl) hbk
     omega
    ·rw [getD_set_ne false (Ne.symm hji)] at hjl
     simp only [upd, hji, if_false] at hbj
     by_cases hki : k = i
     ·subst hki
      simp only [upd, if_true] at hbk
      have h2 := hfr hfk b hbk
      have h3 := blk j _ w b hfj (hG j hj hjl) hbj
      omega
     ·rw [getD_set_ne false (Ne.symm hki)] at hkl
      simp only [upd, hki, if_false] at hbk
      exact hD j k b hj hk hjk hjl hkl hfj hfk hbj hbk
 have hgf : ∀ i, (Array.replicate l.toArray.size false).getD i false = false := by
  intro i
  rcases Nat.lt_or_ge i l.toArray.size with h | h
  ·simp at h; simp [h]
  ·simp at h; simp [h]
 have h0 : laid l.toArray (fun _ => undef) (Array.replicate l.toArray.size false) (List.range l.toArray.size) a0 = a0 := by
  have : ∀ (q : List Nat) (a : Act), laid l.toArray (fun _ => undef) (Array.replicate l.toArray.size false) q a = a := by
   intro q
   induction q with
   | nil => intro a; rfl
   | cons i q ih =>
    intro a
    simp only [laid]
    rw [hgf i]
    simpa using ih a
  exact this _ _
 have hk := key k (Array.replicate l.toArray.size false) (fun _ => undef) { w0 with drawn := w0.drawn + 1 } (by unfold leftIn; simp; omega) (by simp) (fun j o _ hj => by rw [hgf j] at hj; cases hj) (fun j _ => hgf j) ⟨rfl, rfl, rfl, Nat.le_refl _, fun _ _ => rfl⟩ (fun i hi h => by rw [hgf i] at h; cases h) (fun i j b hi hj hij h => by rw [hgf i] at h; cases h)
 rw [h0, show k + (l.length - k) = l.toArray.size by simp; omega] at hk
 exact hk
end
section
attribute [local go_sem ↓] Go.wp_at_zero Go.wp_at_succ
theorem own_lo {w : World} {base base' : Nat} {e : TypeId} {sz : Nat} {v : Value} {n : Nat} {xs : List Value} (h : w.ownsRow base e sz v n xs) (hb : base' ≤ base) : w.ownsRow base' e sz v n xs := by
 refine ⟨h.1, ?_⟩
 rcases h.2 with h0 | ⟨g, cap, cur, rfl, hg, rest⟩
 ·exact Or.inl h0
 ·exact Or.inr ⟨g, cap, cur, rfl, Nat.le_trans hb hg, rest⟩
end
section
attribute [local go_sem ↓] Go.wp_at_zero Go.wp_at_succ
theorem named_any (bb off : Nat) (x : Nd) (h : Bool) (w : World) (R : w.rangeAt bb off (ndC x)) :
  Calls Tryd.prog 85 #[.pointer (some ⟨bb, off, none⟩), .bool h] w fun e w' => e = .returned (.bool (if h then (x.key == -1) && (x.value == 0) else inB x.key 0 63 && inB x.value 0 9999)) ∧ w' = w := by
 have f0 : w.cell? ⟨bb, off, none⟩ = some (.int .i64 x.key) := R 0 _ rfl
 have f1 : w.cell? ⟨bb, off + 1, none⟩ = some (.int .i64 x.value) := R 1 _ rfl
 clear R
 cases h
 ·cases e1 : inB x.key 0 63
  ·go_enter Tryd.func85, Tryd.ntmps85
   go_wp2_with (first | (go_at_call 42; refine (keyOk_any _ _).mono ?_; rintro e w' ⟨rfl, hw⟩; obtain rfl := hw.symm) | (go_at_call 53; refine (within_any _ _ _ _).mono ?_; rintro e w' ⟨rfl, hw⟩; obtain rfl := hw.symm))
   go_ret
   exact ⟨rfl, rfl⟩
  ·go_enter Tryd.func85, Tryd.ntmps85
   go_wp2_with (first | (go_at_call 42; refine (keyOk_any _ _).mono ?_; rintro e w' ⟨rfl, hw⟩; obtain rfl := hw.symm) | (go_at_call 53; refine (within_any _ _ _ _).mono ?_; rintro e w' ⟨rfl, hw⟩; obtain rfl := hw.symm))
   go_ret
   exact ⟨rfl, rfl⟩
 ·cases e1 : (x.key == -1)
  ·go_enter Tryd.func85, Tryd.ntmps85
   go_wp2
   go_ret
   exact ⟨rfl, rfl⟩
  ·go_enter Tryd.func85, Tryd.ntmps85
   go_wp2
   go_ret
   exact ⟨rfl, rfl⟩
def verR (nn cam : Int) (i : Int) (v : Vr) : Bool :=
 inB v.next (-1) (nn - 1) && (v.next != 0) && inB v.stamp (-1) cam && inB v.prev (-1) (i - 1) && inB v.kind 0 2
theorem verR_eq (nn : Nat) (cam : Int) (i : Nat) (v : Vr) : verR nn cam i v = verB nn cam i v := by
 have h : (inB v.next (-1) ((nn : Int) - 1) && (v.next != 0)) = ((v.next == -1) || inB v.next 1 ((nn : Int) - 1)) := by
  rw [Bool.eq_iff_iff]
  simp only [Bool.and_eq_true, Bool.or_eq_true, inB_iff, bne_iff_ne, beq_iff_eq]
  omega
 simp only [verR, verB, h]
theorem verRight_any (bb off : Nat) (x : Vr) (i cam : Int) (nn : Nat) (w : World) (hn : nn ≤ 1048576) (hi0 : 0 ≤ i) (hi1 : i ≤ 1048576) (R : w.rangeAt bb off (vrC x)) :
  Calls Tryd.prog 57 #[.pointer (some ⟨bb, off, none⟩), .int .i64 i, .int .i64 cam, .int .i64 nn] w fun e w' => e = .returned (.bool (verR nn cam i x)) ∧ w' = w := by
 have f0 : w.cell? ⟨bb, off, none⟩ = some (.int .i64 x.next) := R 0 _ rfl
 have f2 : w.cell? ⟨bb, off + 2, none⟩ = some (.int .i64 x.stamp) := R 2 _ rfl
 have f3 : w.cell? ⟨bb, off + 3, none⟩ = some (.int .i64 x.prev) := R 3 _ rfl
 have f4 : w.cell? ⟨bb, off + 4, none⟩ = some (.int .i64 x.kind) := R 4 _ rfl
 clear R
 cases e1 : inB x.next (-1) ((nn : Int) - 1)
 ·have hv : verR nn cam i x = false := by simp [verR, e1]
  go_enter Tryd.func57, Tryd.ntmps57
  go_wp2_with (go_at_call 53; refine (within_any _ _ _ _).mono ?_; rintro e w' ⟨rfl, hw⟩; obtain rfl := hw.symm)
  go_ret
  exact ⟨by rw [hv]; rfl, rfl⟩
 cases e2 : (x.next != 0)
 ·have hv : verR nn cam i x = false := by simp [verR, e2]
  go_enter Tryd.func57, Tryd.ntmps57
  go_wp2_with (go_at_call 53; refine (within_any _ _ _ _).mono ?_; rintro e w' ⟨rfl, hw⟩; obtain rfl := hw.symm)
  go_ret
  exact ⟨by rw [hv]; rfl, rfl⟩
 cases e3 : inB x.stamp (-1) cam
 ·have hv : verR nn cam i x = false := by simp [verR, e3]
  go_enter Tryd.func57, Tryd.ntmps57
  go_wp2_with (go_at_call 53; refine (within_any _ _ _ _).mono ?_; rintro e w' ⟨rfl, hw⟩; obtain rfl := hw.symm)
  go_ret
  exact ⟨by rw [hv]; rfl, rfl⟩
 cases e4 : inB x.prev (-1) (i - 1)
 ·have hv : verR nn cam i x = false := by simp [verR, e4]
  go_enter Tryd.func57, Tryd.ntmps57
  go_wp2_with (go_at_call 53; refine (within_any _ _ _ _).mono ?_; rintro e w' ⟨rfl, hw⟩; obtain rfl := hw.symm)
  go_ret
  exact ⟨by rw [hv]; rfl, rfl⟩
 ·have hv : verR nn cam i x = inB x.kind 0 2 := by simp [verR, e1, e2, e3, e4]
  go_enter Tryd.func57, Tryd.ntmps57
  go_wp2_with (go_at_call 53; refine (within_any _ _ _ _).mono ?_; rintro e w' ⟨rfl, hw⟩; obtain rfl := hw.symm)
  go_ret
  exact ⟨by rw [hv]; rfl, rfl⟩
set_option maxHeartbeats 1000000 in
theorem slotsRight_any (B : Nat) (v : Value) (l : List Int) (w : World) (hB : B ≤ w.heap.size) (hl : l.length ≤ 1048576) (S : SliceAt B w v l.length (cellsOf intC l)) :
  Calls Tryd.prog 67 #[v] w fun e w' => e = .returned (.bool (allIdx (fun _ v => inB v (-1) 100) l)) ∧ Below w.heap.size w w' := by
 obtain ⟨a, cap, rfl, hS⟩ := S
 go_enter Tryd.func67, Tryd.ntmps67
 go_wp2
 go_loopw [7] (fun i wr => ∃ k : Nat, k ≤ l.length ∧ i = .int .i64 k ∧ Hid (∀ j (h : j < l.length), j < k → inB l[j] (-1) 100 = true) ∧ Below w.heap.size w wr) (fun i _ => l.length - (intOf i).toNat)
 case atStart => exact ⟨0, Nat.zero_le _, rfl, fun _ _ h => absurd h (by omega), Below.refl _ _⟩
 case round =>
  obtain ⟨k, hk, rfl, hall, bel⟩ := hrel
  by_cases hlt : k < l.length
  ·rcases hS with h0 | ⟨bb, off, rfl, hbb, R0⟩
   ·omega
   ·have hc : wr.cell? ⟨bb, off + k, none⟩ = some (.int .i64 l[k]) := (rangeAt_below R0 (bel.mono hB) hbb) k (.int .i64 l[k]) (by have := cellsOf_at (f := intC) (sz := 1) (fun _ => rfl) l k hlt 0 (by omega); simpa [intC] using this)
    clear R0
    cases hq : inB l[k] (-1) 100
    ·have hv : allIdx (fun _ v => inB v (-1) 100) l = false := allIdx_no (f := (fun _ v => inB v (-1) 100)) hlt hq
     go_wp2_with (go_at_call 53; refine (within_any _ _ _ _).mono ?_; rintro e w' ⟨rfl, hw⟩; obtain rfl := hw.symm)
     go_ret
     exact ⟨by rw [hv]; rfl, bel⟩
    ·have hall' : Hid (∀ j (h : j < l.length), j < k + 1 → inB l[j] (-1) 100 = true) := fun j h hj => by rcases Nat.lt_or_ge j k with hl | hl; exact hall.out j h hl; obtain rfl : j = k := (by omega); exact hq
     go_wp2_with (go_at_call 53; refine (within_any _ _ _ _).mono ?_; rintro e w' ⟨rfl, hw⟩; obtain rfl := hw.symm)
     go_roundw
     case rel => exact ⟨k + 1, by omega, by go_num, hall', bel⟩
     case measure => simp [intOf]; omega
  ·have hv : allIdx (fun _ v => inB v (-1) 100) l = true := (allIdx_iff (fun _ v => inB v (-1) 100) l).2 (fun i h => hall.out i h (by omega))
   go_wp2
   go_ret
   exact ⟨by rw [hv]; rfl, bel⟩
set_option maxHeartbeats 1000000 in
theorem guidesRight_any (B : Nat) (v : Value) (l : List Int) (nn : Nat) (w : World) (hB : B ≤ w.heap.size) (hl : l.length ≤ 1048576) (hn : nn ≤ 1048576) (S : SliceAt B w v l.length (cellsOf intC l)) :
  Calls Tryd.prog 68 #[v, .int .i64 nn] w fun e w' => e = .returned (.bool (allIdx (fun _ v => inB v 0 ((nn : Int) - 1)) l)) ∧ Below w.heap.size w w' := by
 obtain ⟨a, cap, rfl, hS⟩ := S
 go_enter Tryd.func68, Tryd.ntmps68
 go_wp2
 go_loopw [9] (fun i wr => ∃ k : Nat, k ≤ l.length ∧ i = .int .i64 k ∧ Hid (∀ j (h : j < l.length), j < k → inB l[j] 0 ((nn : Int) - 1) = true) ∧ Below w.heap.size w wr) (fun i _ => l.length - (intOf i).toNat)
 case atStart => exact ⟨0, Nat.zero_le _, rfl, fun _ _ h => absurd h (by omega), Below.refl _ _⟩
 case round =>
  obtain ⟨k, hk, rfl, hall, bel⟩ := hrel
  by_cases hlt : k < l.length
  ·rcases hS with h0 | ⟨bb, off, rfl, hbb, R0⟩
   ·omega
   ·have hc : wr.cell? ⟨bb, off + k, none⟩ = some (.int .i64 l[k]) := (rangeAt_below R0 (bel.mono hB) hbb) k (.int .i64 l[k]) (by have := cellsOf_at (f := intC) (sz := 1) (fun _ => rfl) l k hlt 0 (by omega); simpa [intC] using this)
    clear R0
    cases hq : inB l[k] 0 ((nn : Int) - 1)
    ·have hv : allIdx (fun _ v => inB v 0 ((nn : Int) - 1)) l = false := allIdx_no (f := (fun _ v => inB v 0 ((nn : Int) - 1))) hlt hq
     go_wp2_with (go_at_call 53; refine (within_any _ _ _ _).mono ?_; rintro e w' ⟨rfl, hw⟩; obtain rfl := hw.symm)
     go_ret
     exact ⟨by rw [hv]; rfl, bel⟩
    ·have hall' : Hid (∀ j (h : j < l.length), j < k + 1 → inB l[j] 0 ((nn : Int) - 1) = true) := fun j h hj => by rcases Nat.lt_or_ge j k with hl | hl; exact hall.out j h hl; obtain rfl : j = k := (by omega); exact hq
     go_wp2_with (go_at_call 53; refine (within_any _ _ _ _).mono ?_; rintro e w' ⟨rfl, hw⟩; obtain rfl := hw.symm)
     go_roundw
     case rel => exact ⟨k + 1, by omega, by go_num, hall', bel⟩
     case measure => simp [intOf]; omega
  ·have hv : allIdx (fun _ v => inB v 0 ((nn : Int) - 1)) l = true := (allIdx_iff (fun _ v => inB v 0 ((nn : Int) - 1)) l).2 (fun i h => hall.out i h (by omega))
   go_wp2
   go_ret
   exact ⟨by rw [hv]; rfl, bel⟩
set_option maxHeartbeats 1000000 in
theorem nodesRight_any (B : Nat) (A : Ar) (a0 a1 a2 a3 : Option Addr) (c0 c1 c2 c3 : Nat) (w : World) (hB : B ≤ w.heap.size) (hA : A.size ≤ 1048576) (I : ArenaIs B w (.slice a0 A.slots.length c0) (.slice a1 A.guides.length c1) (.slice a2 A.nodes.length c2) (.slice a3 A.vers.length c3) A) :
  Calls Tryd.prog 69 #[.agg #[.int .i64 A.camera, .slice a0 A.slots.length c0, .slice a1 A.guides.length c1, .slice a2 A.nodes.length c2, .slice a3 A.vers.length c3]] w fun e w' => e = .returned (.bool (allIdx (nodeB A.vers.length) A.nodes)) ∧ Below w.heap.size w w' := by
 unfold Ar.size at hA
 have X0 : World.rangeAt (w.alloc (.cells #[.int .i64 A.camera, .slice a0 A.slots.length c0, .slice a1 A.guides.length c1, .slice a2 A.nodes.length c2, .slice a3 A.vers.length c3] 33)) w.heap.size 0 [.int .i64 A.camera, .slice a0 A.slots.length c0, .slice a1 A.guides.length c1, .slice a2 A.nodes.length c2, .slice a3 A.vers.length c3] := rangeAt_new w [.int .i64 A.camera, .slice a0 A.slots.length c0, .slice a1 A.guides.length c1, .slice a2 A.nodes.length c2, .slice a3 A.vers.length c3] 33
 have K0 := (Below.refl w.heap.size w).alloc (Nat.le_refl _) (.cells #[.int .i64 A.camera, .slice a0 A.slots.length c0, .slice a1 A.guides.length c1, .slice a2 A.nodes.length c2, .slice a3 A.vers.length c3] 33)
 have hz0 : w.heap.size < (w.alloc (.cells #[.int .i64 A.camera, .slice a0 A.slots.length c0, .slice a1 A.guides.length c1, .slice a2 A.nodes.length c2, .slice a3 A.vers.length c3] 33)).heap.size := by simp
 have I0 := I.below (K0.mono hB)
 clear I
 obtain ⟨x0, x1, x2, x3, x4⟩ := row5 X0
 go_enter Tryd.func69, Tryd.ntmps69
 go_wp2
 clear x0 x1 x2 x3 x4
 generalize w.alloc (.cells #[.int .i64 A.camera, .slice a0 A.slots.length c0, .slice a1 A.guides.length c1, .slice a2 A.nodes.length c2, .slice a3 A.vers.length c3] 33) = w1 at X0 K0 hz0 I0 ⊢
 go_loopw [8] (fun i wr => ∃ k : Nat, k ≤ A.nodes.length ∧ i = .int .i64 k ∧ Hid (∀ j (h : j < A.nodes.length), j < k → nodeB A.vers.length j A.nodes[j] = true) ∧ Below w1.heap.size w1 wr) (fun i _ => A.nodes.length - (intOf i).toNat)
 case atStart => exact ⟨0, Nat.zero_le _, rfl, fun _ _ h => absurd h (by omega), Below.refl _ _⟩
 case round =>
  obtain ⟨k, hk, rfl, hall, bel⟩ := hrel
  obtain ⟨x0, x1, x2, x3, x4⟩ := row5 (rangeAt_below X0 bel hz0)
  have KK := K0.trans (bel.mono (show w.heap.size ≤ w1.heap.size by omega))
  by_cases hlt : k < A.nodes.length
  ·obtain ⟨bb, off, rfl, hbb, R⟩ := SliceAt.at I0.n (by omega)
   have E := rangeAt_elem (sz := 3) (fun _ => rfl) (rangeAt_below R (bel.mono (by omega)) hbb) k hlt
   have f2 : wr.cell? ⟨bb, off + k * 3 + 2, none⟩ = some (.int .i64 A.nodes[k].head) := E 2 _ rfl
   clear R
   have hlt' : (k : Int) < (A.nodes.length : Int) := by omega
   have hk0 : (0 : Int) ≤ (k : Int) := by omega
   obtain ⟨nm, hnm⟩ : ∃ nm : Bool, nm = (if ((k : Int) == 0) then (A.nodes[k].key == -1) && (A.nodes[k].value == 0) else inB A.nodes[k].key 0 63 && inB A.nodes[k].value 0 9999) := ⟨_, rfl⟩
   have hnd : nodeB A.vers.length k A.nodes[k] = (inB A.nodes[k].head 0 ((A.vers.length : Int) - 1) && nm) := by
    rw [hnm]
    unfold nodeB
    by_cases h0 : k = 0
    ·subst h0; simp [Bool.and_comm]
    ·have : ((k : Int) == 0) = false := by simp; omega
     rw [this, if_neg h0]; simp [Bool.and_comm]
   have hN : ∀ W : World, W.rangeAt bb (off + k * 3) (ndC A.nodes[k]) → Calls Tryd.prog 85 #[.pointer (some ⟨bb, off + k * 3, none⟩), .bool ((k : Int) == 0)] W fun e w' => e = .returned (.bool nm) ∧ w' = W := by
    intro W hW
    rw [hnm]
    exact named_any bb (off + k * 3) A.nodes[k] _ W hW
   clear hnm
   cases e1 : inB A.nodes[k].head 0 ((A.vers.length : Int) - 1)
   ·have hq : nodeB A.vers.length k A.nodes[k] = false := by rw [hnd, e1]; rfl
    have hv : allIdx (nodeB A.vers.length) A.nodes = false := allIdx_no (f := nodeB A.vers.length) hlt hq
    clear hq hnd hN
    go_wp2
    go_quiet (first | (go_at_call 53; exact Calls.quiet_of_same (within_any _ _ _ _)) | (go_at_call 85; exact Calls.quiet_of_same (named_any bb (off + k * 3) A.nodes[k] _ _ E)))
    go_wp2
    go_ret
    exact ⟨by rw [hv]; rfl, below_drewN KK _⟩
   ·cases nm
    ·have hq : nodeB A.vers.length k A.nodes[k] = false := by rw [hnd, e1]; rfl
     have hv : allIdx (nodeB A.vers.length) A.nodes = false := allIdx_no (f := nodeB A.vers.length) hlt hq
     clear hq hnd
     go_wp2
     go_quiet (first | (go_at_call 53; exact Calls.quiet_of_same (within_any _ _ _ _)) | (go_at_call 85; exact Calls.quiet_of_same (hN _ E)))
     go_wp2
     go_ret
     exact ⟨by rw [hv]; rfl, below_drewN KK _⟩
    ·have hq : nodeB A.vers.length k A.nodes[k] = true := by rw [hnd, e1]; rfl
     have hall' : Hid (∀ j (h : j < A.nodes.length), j < k + 1 → nodeB A.vers.length j A.nodes[j] = true) := fun j h hj => by rcases Nat.lt_or_ge j k with hl | hl; exact hall.out j h hl; obtain rfl : j = k := (by omega); exact hq
     clear hq hnd
     go_wp2
     go_quiet (first | (go_at_call 53; exact Calls.quiet_of_same (within_any _ _ _ _)) | (go_at_call 85; exact Calls.quiet_of_same (hN _ E)))
     go_wp2
     go_roundw
     case rel => exact ⟨k + 1, by omega, by go_num, hall', below_drewN bel _⟩
     case measure => simp [intOf]; omega
  ·have hv : allIdx (nodeB A.vers.length) A.nodes = true := (allIdx_iff (nodeB A.vers.length) A.nodes).2 (fun i h => hall.out i h (by omega))
   go_wp2
   go_ret
   exact ⟨by rw [hv]; rfl, KK⟩
set_option maxHeartbeats 1000000 in
theorem versRight_any (B : Nat) (A : Ar) (a0 a1 a2 a3 : Option Addr) (c0 c1 c2 c3 : Nat) (w : World) (hB : B ≤ w.heap.size) (hA : A.size ≤ 1048576) (I : ArenaIs B w (.slice a0 A.slots.length c0) (.slice a1 A.guides.length c1) (.slice a2 A.nodes.length c2) (.slice a3 A.vers.length c3) A) :
  Calls Tryd.prog 70 #[.agg #[.int .i64 A.camera, .slice a0 A.slots.length c0, .slice a1 A.guides.length c1, .slice a2 A.nodes.length c2, .slice a3 A.vers.length c3]] w fun e w' => e = .returned (.bool (allIdx (verB A.nodes.length A.camera) A.vers)) ∧ Below w.heap.size w w' := by
 unfold Ar.size at hA
 have X0 : World.rangeAt (w.alloc (.cells #[.int .i64 A.camera, .slice a0 A.slots.length c0, .slice a1 A.guides.length c1, .slice a2 A.nodes.length c2, .slice a3 A.vers.length c3] 33)) w.heap.size 0 [.int .i64 A.camera, .slice a0 A.slots.length c0, .slice a1 A.guides.length c1, .slice a2 A.nodes.length c2, .slice a3 A.vers.length c3] := rangeAt_new w [.int .i64 A.camera, .slice a0 A.slots.length c0, .slice a1 A.guides.length c1, .slice a2 A.nodes.length c2, .slice a3 A.vers.length c3] 33
 have K0 := (Below.refl w.heap.size w).alloc (Nat.le_refl _) (.cells #[.int .i64 A.camera, .slice a0 A.slots.length c0, .slice a1 A.guides.length c1, .slice a2 A.nodes.length c2, .slice a3 A.vers.length c3] 33)
 have hz0 : w.heap.size < (w.alloc (.cells #[.int .i64 A.camera, .slice a0 A.slots.length c0, .slice a1 A.guides.length c1, .slice a2 A.nodes.length c2, .slice a3 A.vers.length c3] 33)).heap.size := by simp
 have I0 := I.below (K0.mono hB)
 clear I
 obtain ⟨x0, x1, x2, x3, x4⟩ := row5 X0
 go_enter Tryd.func70, Tryd.ntmps70
 go_wp2
 clear x0 x1 x2 x3 x4
 generalize w.alloc (.cells #[.int .i64 A.camera, .slice a0 A.slots.length c0, .slice a1 A.guides.length c1, .slice a2 A.nodes.length c2, .slice a3 A.vers.length c3] 33) = w1 at X0 K0 hz0 I0 ⊢
 go_loopw [7] (fun i wr => ∃ k : Nat, k ≤ A.vers.length ∧ i = .int .i64 k ∧ Hid (∀ j (h : j < A.vers.length), j < k → verB A.nodes.length A.camera j A.vers[j] = true) ∧ Below w1.heap.size w1 wr) (fun i _ => A.vers.length - (intOf i).toNat)
 case atStart => exact ⟨0, Nat.zero_le _, rfl, fun _ _ h => absurd h (by omega), Below.refl _ _⟩
 case round =>
  obtain ⟨k, hk, rfl, hall, bel⟩ := hrel
  obtain ⟨x0, x1, x2, x3, x4⟩ := row5 (rangeAt_below X0 bel hz0)
  have KK := K0.trans (bel.mono (show w.heap.size ≤ w1.heap.size by omega))
  by_cases hlt : k < A.vers.length
  ·obtain ⟨bb, off, rfl, hbb, R⟩ := SliceAt.at I0.r (by omega)
   have E := rangeAt_elem (sz := 5) (fun _ => rfl) (rangeAt_below R (bel.mono (by omega)) hbb) k hlt
   clear R
   have hlt' : (k : Int) < (A.vers.length : Int) := by omega
   have hk0 : (0 : Int) ≤ (k : Int) := by omega
   have hN : ∀ W : World, W.rangeAt bb (off + k * 5) (vrC A.vers[k]) → Calls Tryd.prog 57 #[.pointer (some ⟨bb, off + k * 5, none⟩), .int .i64 k, .int .i64 A.camera, .int .i64 A.nodes.length] W fun e w' => e = .returned (.bool (verB A.nodes.length A.camera k A.vers[k])) ∧ w' = W := by
    intro W hW
    rw [← verR_eq]
    exact verRight_any bb (off + k * 5) A.vers[k] k A.camera A.nodes.length W (by omega) (by omega) (by omega) hW
   cases hq : verB A.nodes.length A.camera k A.vers[k]
   ·have hv : allIdx (verB A.nodes.length A.camera) A.vers = false := allIdx_no (f := verB A.nodes.length A.camera) hlt hq
    rw [hq] at hN
    clear hq
    go_wp2
    go_quiet ((go_at_call 57; exact Calls.quiet_of_same (hN _ E)))
    go_wp2
    go_ret
    exact ⟨by rw [hv]; rfl, below_drewN KK _⟩
   ·have hall' : Hid (∀ j (h : j < A.vers.length), j < k + 1 → verB A.nodes.length A.camera j A.vers[j] = true) := fun j h hj => by rcases Nat.lt_or_ge j k with hl | hl; exact hall.out j h hl; obtain rfl : j = k := (by omega); exact hq
    rw [hq] at hN
    clear hq
    go_wp2
    go_quiet ((go_at_call 57; exact Calls.quiet_of_same (hN _ E)))
    go_wp2
    go_roundw
    case rel => exact ⟨k + 1, by omega, by go_num, hall', below_drewN bel _⟩
    case measure => simp [intOf]; omega
  ·have hv : allIdx (verB A.nodes.length A.camera) A.vers = true := (allIdx_iff (verB A.nodes.length A.camera) A.vers).2 (fun i h => hall.out i h (by omega))
   go_wp2
   go_ret
   exact ⟨by rw [hv]; rfl, KK⟩
def holdsB (x y z u : Int) (l0 l1 l2 l3 : Nat) : Bool := ((l0 : Int) == x) && ((l1 : Int) == u) && inB l2 1 y && inB l3 1 z
set_option maxHeartbeats 1000000 in
theorem holds_any (x y z u cam : Int) (a0 a1 a2 a3 : Option Addr) (l0 l1 l2 l3 c0 c1 c2 c3 : Nat) (w : World) (hA : l0 + l1 + l2 + l3 ≤ 1048576) :
  Calls Tryd.prog 66 #[.agg #[.int .i64 x, .int .i64 y, .int .i64 z, .int .i64 u], .agg #[.int .i64 cam, .slice a0 l0 c0, .slice a1 l1 c1, .slice a2 l2 c2, .slice a3 l3 c3]] w fun e w' => e = .returned (.bool (holdsB x y z u l0 l1 l2 l3)) ∧ Below w.heap.size w w' := by
 have KK := ((Below.refl w.heap.size w).alloc (Nat.le_refl _) (.cells #[.int .i64 x, .int .i64 y, .int .i64 z, .int .i64 u] 36)).alloc (by simp) (.cells #[.int .i64 cam, .slice a0 l0 c0, .slice a1 l1 c1, .slice a2 l2 c2, .slice a3 l3 c3] 33)
 cases e1 : ((l0 : Int) == x)
 ·have hv : holdsB x y z u l0 l1 l2 l3 = false := by simp [holdsB, e1]
  go_enter Tryd.func66, Tryd.ntmps66
  go_wp2_with (go_at_call 53; refine (within_any _ _ _ _).mono ?_; rintro e w' ⟨rfl, hw⟩; obtain rfl := hw.symm)
  go_ret
  exact ⟨by rw [hv]; rfl, KK⟩
 cases e2 : ((l1 : Int) == u)
 ·have hv : holdsB x y z u l0 l1 l2 l3 = false := by simp [holdsB, e2]
  go_enter Tryd.func66, Tryd.ntmps66
  go_wp2_with (go_at_call 53; refine (within_any _ _ _ _).mono ?_; rintro e w' ⟨rfl, hw⟩; obtain rfl := hw.symm)
  go_ret
  exact ⟨by rw [hv]; rfl, KK⟩
 cases e3 : inB l2 1 y
 ·have hv : holdsB x y z u l0 l1 l2 l3 = false := by simp [holdsB, e3]
  go_enter Tryd.func66, Tryd.ntmps66
  go_wp2_with (go_at_call 53; refine (within_any _ _ _ _).mono ?_; rintro e w' ⟨rfl, hw⟩; obtain rfl := hw.symm)
  go_ret
  exact ⟨by rw [hv]; rfl, KK⟩
 ·have hv : holdsB x y z u l0 l1 l2 l3 = inB l3 1 z := by simp [holdsB, e1, e2, e3]
  go_enter Tryd.func66, Tryd.ntmps66
  go_wp2_with (go_at_call 53; refine (within_any _ _ _ _).mono ?_; rintro e w' ⟨rfl, hw⟩; obtain rfl := hw.symm)
  go_ret
  exact ⟨by rw [hv]; rfl, KK⟩
theorem arenaB_split (x y z u : Int) (A : Ar) : arenaB x y z u A = (planB x y z u && (holdsB x y z u A.slots.length A.guides.length A.nodes.length A.vers.length && (inB A.camera 0 100 && (allIdx (fun _ v => inB v (-1) 100) A.slots && (allIdx (fun _ v => inB v 0 ((A.nodes.length : Int) - 1)) A.guides && (allIdx (nodeB A.vers.length) A.nodes && allIdx (verB A.nodes.length A.camera) A.vers)))))) := by
 unfold arenaB headB holdsB
 cases planB x y z u <;> cases inB A.camera 0 100 <;> simp [Bool.and_assoc]
set_option maxRecDepth 100000 in
set_option maxHeartbeats 4000000 in
theorem arenaOk_any (B : Nat) (A : Ar) (x y z u : Int) (a0 a1 a2 a3 : Option Addr) (c0 c1 c2 c3 : Nat) (w : World) (hB : B ≤ w.heap.size) (hA : A.size ≤ 1048576) (I : ArenaIs B w (.slice a0 A.slots.length c0) (.slice a1 A.guides.length c1) (.slice a2 A.nodes.length c2) (.slice a3 A.vers.length c3) A) :
  Calls Tryd.prog 41 #[.agg #[.int .i64 x, .int .i64 y, .int .i64 z, .int .i64 u], .agg #[.int .i64 A.camera, .slice a0 A.slots.length c0, .slice a1 A.guides.length c1, .slice a2 A.nodes.length c2, .slice a3 A.vers.length c3]] w fun e w' => e = .returned (.bool (arenaB x y z u A)) ∧ Below w.heap.size w w' := by
 have hA' := hA
 unfold Ar.size at hA
 have P0 := (planAt_alloc w x y z u 36).below ((Below.refl _ _).alloc (Nat.le_refl _) (.cells #[.int .i64 A.camera, .slice a0 A.slots.length c0, .slice a1 A.guides.length c1, .slice a2 A.nodes.length c2, .slice a3 A.vers.length c3] 33)) (by simp)
 have X0 : World.rangeAt ((w.alloc (.cells #[.int .i64 x, .int .i64 y, .int .i64 z, .int .i64 u] 36)).alloc (.cells #[.int .i64 A.camera, .slice a0 A.slots.length c0, .slice a1 A.guides.length c1, .slice a2 A.nodes.length c2, .slice a3 A.vers.length c3] 33)) (w.heap.size + 1) 0 [.int .i64 A.camera, .slice a0 A.slots.length c0, .slice a1 A.guides.length c1, .slice a2 A.nodes.length c2, .slice a3 A.vers.length c3] := by
  have h := rangeAt_new (w.alloc (.cells #[.int .i64 x, .int .i64 y, .int .i64 z, .int .i64 u] 36)) [.int .i64 A.camera, .slice a0 A.slots.length c0, .slice a1 A.guides.length c1, .slice a2 A.nodes.length c2, .slice a3 A.vers.length c3] 33
  simp only [World.size_alloc] at h
  exact h
 have K0 := ((Below.refl w.heap.size w).alloc (Nat.le_refl _) (.cells #[.int .i64 x, .int .i64 y, .int .i64 z, .int .i64 u] 36)).alloc (by simp) (.cells #[.int .i64 A.camera, .slice a0 A.slots.length c0, .slice a1 A.guides.length c1, .slice a2 A.nodes.length c2, .slice a3 A.vers.length c3] 33)
 have hz0 : w.heap.size + 1 < ((w.alloc (.cells #[.int .i64 x, .int .i64 y, .int .i64 z, .int .i64 u] 36)).alloc (.cells #[.int .i64 A.camera, .slice a0 A.slots.length c0, .slice a1 A.guides.length c1, .slice a2 A.nodes.length c2, .slice a3 A.vers.length c3] 33)).heap.size := by simp
 have I0 := I.below (K0.mono hB)
 clear I
 go_enter Tryd.func41, Tryd.ntmps41
 go_wp2_with fail
 refine (right_any _ _ _ _ _).mono ?_
 rintro e w1 ⟨rfl, b1⟩
 have P1 := P0.below b1 (by omega)
 have X1 := rangeAt_below X0 b1 hz0
 have K1 := K0.trans (b1.mono (by omega))
 have I1 := I0.below (b1.mono (by omega))
 have hz1 := Nat.lt_of_lt_of_le hz0 b1.size
 clear P0 X0 K0 I0 b1
 have P1' := P1
 obtain ⟨p0, p1, p2, p3⟩ := P1'
 obtain ⟨x0, x1, x2, x3, x4⟩ := row5 X1
 cases h1 : planB x y z u
 ·have hv : arenaB x y z u A = false := by simp only [arenaB_split, h1, Bool.false_and]
  go_wp2_with fail
  go_ret
  exact ⟨by rw [hv]; rfl, K1⟩
 go_wp2_with fail
 clear p0 p1 p2 p3 x0 x1 x2 x3 x4
 refine (holds_any _ _ _ _ _ _ _ _ _ _ _ _ _ _ _ _ _ _ hA).mono ?_
 rintro e w2 ⟨rfl, b2⟩
 have P2 := P1.below b2 (by omega)
 have X2 := rangeAt_below X1 b2 hz1
 have K2 := K1.trans (b2.mono (by omega))
 have I2 := I1.below (b2.mono (by omega))
 have hz2 := Nat.lt_of_lt_of_le hz1 b2.size
 clear P1 X1 K1 I1 b2
 have P2' := P2
 obtain ⟨p0, p1, p2, p3⟩ := P2'
 obtain ⟨x0, x1, x2, x3, x4⟩ := row5 X2
 cases h2 : holdsB x y z u A.slots.length A.guides.length A.nodes.length A.vers.length
 ·have hv : arenaB x y z u A = false := by simp only [arenaB_split, h2, Bool.and_false, Bool.false_and]
  go_wp2_with fail
  go_ret
  exact ⟨by rw [hv]; rfl, K2⟩
 cases h25 : inB A.camera 0 100
 ·have hv : arenaB x y z u A = false := by simp only [arenaB_split, h25, Bool.and_false, Bool.false_and]
  go_wp2_with (go_at_call 53; refine (within_any _ _ _ _).mono ?_; rintro e w' ⟨rfl, hw⟩; obtain rfl := hw.symm)
  go_ret
  exact ⟨by rw [hv]; rfl, K2⟩
 go_wp2_with (go_at_call 53; refine (within_any _ _ _ _).mono ?_; rintro e w' ⟨rfl, hw⟩; obtain rfl := hw.symm)
 clear p0 p1 p2 p3 x0 x1 x2 x3 x4
 refine (slotsRight_any B _ A.slots _ (by omega) (by omega) I2.s).mono ?_
 rintro e w3 ⟨rfl, b3⟩
 have P3 := P2.below b3 (by omega)
 have X3 := rangeAt_below X2 b3 hz2
 have K3 := K2.trans (b3.mono (by omega))
 have I3 := I2.below (b3.mono (by omega))
 have hz3 := Nat.lt_of_lt_of_le hz2 b3.size
 clear P2 X2 K2 I2 b3
 have P3' := P3
 obtain ⟨p0, p1, p2, p3⟩ := P3'
 obtain ⟨x0, x1, x2, x3, x4⟩ := row5 X3
 cases h3 : allIdx (fun _ v => inB v (-1) 100) A.slots
 ·have hv : arenaB x y z u A = false := by simp only [arenaB_split, h3, Bool.and_false, Bool.false_and]
  go_wp2_with fail
  go_ret
  exact ⟨by rw [hv]; rfl, K3⟩
 go_wp2_with fail
 clear p0 p1 p2 p3 x0 x1 x2 x3 x4
 refine (guidesRight_any B _ A.guides A.nodes.length _ (by omega) (by omega) (by omega) I3.g).mono ?_
 rintro e w4 ⟨rfl, b4⟩
 have P4 := P3.below b4 (by omega)
 have X4 := rangeAt_below X3 b4 hz3
 have K4 := K3.trans (b4.mono (by omega))
 have I4 := I3.below (b4.mono (by omega))
 have hz4 := Nat.lt_of_lt_of_le hz3 b4.size
 clear P3 X3 K3 I3 b4
 have P4' := P4
 obtain ⟨p0, p1, p2, p3⟩ := P4'
 obtain ⟨x0, x1, x2, x3, x4⟩ := row5 X4
 cases h4 : allIdx (fun _ v => inB v 0 ((A.nodes.length : Int) - 1)) A.guides
 ·have hv : arenaB x y z u A = false := by simp only [arenaB_split, h4, Bool.and_false, Bool.false_and]
  go_wp2_with fail
  go_ret
  exact ⟨by rw [hv]; rfl, K4⟩
 go_wp2_with fail
 clear p0 p1 p2 p3 x0 x1 x2 x3 x4
 refine (nodesRight_any B A _ _ _ _ _ _ _ _ _ (by omega) hA' I4).mono ?_
 rintro e w5 ⟨rfl, b5⟩
 have P5 := P4.below b5 (by omega)
 have X5 := rangeAt_below X4 b5 hz4
 have K5 := K4.trans (b5.mono (by omega))
 have I5 := I4.below (b5.mono (by omega))
 have hz5 := Nat.lt_of_lt_of_le hz4 b5.size
 clear P4 X4 K4 I4 b5
 have P5' := P5
 obtain ⟨p0, p1, p2, p3⟩ := P5'
 obtain ⟨x0, x1, x2, x3, x4⟩ := row5 X5
 cases h5 : allIdx (nodeB A.vers.length) A.nodes
 ·have hv : arenaB x y z u A = false := by simp only [arenaB_split, h5, Bool.and_false, Bool.false_and]
  go_wp2_with fail
  go_ret
  exact ⟨by rw [hv]; rfl, K5⟩
 go_wp2_with fail
 clear p0 p1 p2 p3 x0 x1 x2 x3 x4
 refine (versRight_any B A _ _ _ _ _ _ _ _ _ (by omega) hA' I5).mono ?_
 rintro e w6 ⟨rfl, b6⟩
 have K6 := K5.trans (b6.mono (by omega))
 have hv : arenaB x y z u A = allIdx (verB A.nodes.length A.camera) A.vers := by simp only [arenaB_split, h1, h2, h25, h3, h4, h5, Bool.true_and]
 go_wp2_with fail
 go_ret
 exact ⟨by rw [hv]; rfl, K6⟩
end
end Go.Proofs.YtlfjhcdjgoeafaaDoor
