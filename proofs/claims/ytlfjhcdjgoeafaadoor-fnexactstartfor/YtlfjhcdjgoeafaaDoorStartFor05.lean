/-
  What the law's proof goes by, part 6.
-/
import Derived.Orders
import Derived.Deep.MidRow
import Derived.Below
import Derived.Test.YtlfjhcdjgoeafaaDoorStartFor00
namespace Go.Proofs.YtlfjhcdjgoeafaaDoor
open Go.ChangeShapes Go.WideShapes Go.ChangeAt Go.RowKit
set_option linter.unusedVariables false
set_option linter.unusedSimpArgs false
set_option linter.unnecessarySimpa false
set_option linter.unusedSectionVars false
section
def blkOf : Value → Option Nat
 | .pointer (some p) => some p.block
 | .slice (some p) _ _ => some p.block
 | _ => none
def dstOf (ops : Array Oper) (i : Nat) : Option Tmp := (ops[i]?).bind (·.dst)
def laid (ops : Array Oper) (vs : Nat → Value) (listed : Array Bool) : List Nat → Act → Act
 | [], a => a
 | i :: l, a => laid ops vs listed l (if listed.getD i false then a.put (dstOf ops i) (vs i) else a)
def upd (vs : Nat → Value) (i : Nat) (v : Value) : Nat → Value := fun j => if j = i then v else vs j
def Lone (ops : Array Oper) : Prop := ∀ i j d, i ≠ j → dstOf ops i = some d → dstOf ops j ≠ some d
def loneB (ops : Array Oper) : Bool := (List.range ops.size).all fun i => (List.range ops.size).all fun j => (i == j) || match dstOf ops i, dstOf ops j with | some d, some e => d != e | _, _ => true
theorem lone_of {ops : Array Oper} (h : loneB ops = true) : Lone ops := by
 intro i j d hij hi hj
 have hi' : i < ops.size := by
  rcases Nat.lt_or_ge i ops.size with h | h
  ·exact h
  ·simp [dstOf, Array.getElem?_eq_none h] at hi
 have hj' : j < ops.size := by
  rcases Nat.lt_or_ge j ops.size with h | h
  ·exact h
  ·simp [dstOf, Array.getElem?_eq_none h] at hj
 have h1 := (List.all_eq_true.1 h) i (List.mem_range.2 hi')
 have h2 := (List.all_eq_true.1 h1) j (List.mem_range.2 hj')
 rw [hi, hj] at h2
 simp [hij] at h2
def Back (ops : Array Oper) : Prop := ∀ (i : Nat) (o : Oper), ops[i]? = some o → ∀ e ∈ o.after, e.on < i
def backB (ops : Array Oper) : Bool := (List.range ops.size).all fun i => match ops[i]? with | some o => o.after.all fun e => decide (e.on < i) | none => true
theorem back_of {ops : Array Oper} (h : backB ops = true) : Back ops := by
 intro i o ho e he
 have hi' : i < ops.size := by
  rcases Nat.lt_or_ge i ops.size with h | h
  ·exact h
  ·rw [Array.getElem?_eq_none h] at ho; cases ho
 have h1 := (List.all_eq_true.1 h) i (List.mem_range.2 hi')
 simp only [ho] at h1
 exact of_decide_eq_true (Array.all_eq_true_iff_forall_mem.1 h1 e he)
def noDstB (ops : Array Oper) (t : Nat) : Bool := (List.range ops.size).all fun k => dstOf ops k != some t
theorem noDst_of {ops : Array Oper} {t : Nat} (h : noDstB ops t = true) (k : Nat) : dstOf ops k ≠ some t := by
 intro hk
 have hi' : k < ops.size := by
  rcases Nat.lt_or_ge k ops.size with h | h
  ·exact h
  ·simp [dstOf, Array.getElem?_eq_none h] at hk
 have := (List.all_eq_true.1 h) k (List.mem_range.2 hi')
 simp [hk] at this
def dstB (ops : Array Oper) (n : Nat) : Bool := (List.range ops.size).all fun i => match dstOf ops i with | some d => decide (d < n) | none => true
theorem dst_of {ops : Array Oper} {n : Nat} (h : dstB ops n = true) (k d : Nat) (hk : dstOf ops k = some d) : d < n := by
 have hi' : k < ops.size := by
  rcases Nat.lt_or_ge k ops.size with h | h
  ·exact h
  ·simp [dstOf, Array.getElem?_eq_none h] at hk
 have := (List.all_eq_true.1 h) k (List.mem_range.2 hi')
 rw [hk] at this
 exact of_decide_eq_true this
theorem laid_put_out {ops : Array Oper} (L : Lone ops) (vs : Nat → Value) (listed : Array Bool) (i : Nat) (v : Value) : ∀ (l : List Nat) (a : Act), i ∉ l →
  laid ops (upd vs i v) (listed.setIfInBounds i true) l (a.put (dstOf ops i) v) = (laid ops vs listed l a).put (dstOf ops i) v
 | [], a, _ => rfl
 | j :: l, a, h => by
  have hji : j ≠ i := fun e => h (by simp [e])
  have hl : i ∉ l := fun e => h (by simp [e])
  simp only [laid]
  rw [getD_set_ne false (Ne.symm hji)]
  have hu : upd vs i v j = vs j := by simp [upd, hji]
  rw [hu]
  split
  ·rw [Act.put_comm a v (vs j) (fun d h1 h2 => L i j d (Ne.symm hji) h1 h2)]
   exact laid_put_out L vs listed i v l _ hl
  ·exact laid_put_out L vs listed i v l _ hl
theorem laid_put {ops : Array Oper} (L : Lone ops) (vs : Nat → Value) (listed : Array Bool) (i : Nat) (v : Value) (hi : i < listed.size) (hf : listed.getD i false = false) : ∀ (l : List Nat) (a : Act), l.Nodup → i ∈ l →
  (laid ops vs listed l a).put (dstOf ops i) v = laid ops (upd vs i v) (listed.setIfInBounds i true) l a
 | [], a, _, h => by cases h
 | j :: l, a, hn, h => by
  have hn' := List.nodup_cons.1 hn
  simp only [laid]
  by_cases hji : j = i
  ·subst hji
   rw [hf]
   have ht : (listed.setIfInBounds j true).getD j false = true := by simp [hi]
   have hu : upd vs j v j = v := by simp [upd]
   rw [ht, hu]
   simp only [if_true, Bool.false_eq_true, if_false]
   exact (laid_put_out L vs listed j v l a hn'.1).symm
  ·have hl : i ∈ l := by rcases List.mem_cons.1 h with h | h; exact absurd h.symm hji; exact h
   have hu : upd vs i v j = vs j := by simp [upd, hji]
   rw [getD_set_ne false (Ne.symm hji), hu]
   exact laid_put L vs listed i v hi hf l _ hn'.2 hl
theorem put_size (a : Act) (x : Option Tmp) (v : Value) : (a.put x v).tmps.size = a.tmps.size := by cases x <;> simp [Act.put]
theorem put_get_ne (a : Act) (x : Option Tmp) (v : Value) (d : Nat) (h : x ≠ some d) : (a.put x v).tmps.getD d undef = a.tmps.getD d undef := by
 cases x with
 | none => rfl
 | some e =>
  have : e ≠ d := fun h' => h (by rw [h'])
  simp [Act.put, Array.getElem?_setIfInBounds_ne this]
theorem put_get (a : Act) (v : Value) (d : Nat) (h : d < a.tmps.size) : (a.put (some d) v).tmps.getD d undef = v := by
 simp [Act.put, h]
theorem laid_get_out (ops : Array Oper) (vs : Nat → Value) (listed : Array Bool) (d : Nat) : ∀ (l : List Nat) (a : Act), (∀ k ∈ l, dstOf ops k ≠ some d) → (laid ops vs listed l a).tmps.getD d undef = a.tmps.getD d undef
 | [], a, _ => rfl
 | i :: l, a, h => by
  simp only [laid]
  rw [laid_get_out ops vs listed d l _ (fun k hk => h k (by simp [hk]))]
  split
  ·exact put_get_ne _ _ _ _ (h i (by simp))
  ·rfl
theorem laid_get {ops : Array Oper} (L : Lone ops) (vs : Nat → Value) (listed : Array Bool) (j d : Nat) (hd : dstOf ops j = some d) (hj : listed.getD j false = true) : ∀ (l : List Nat) (a : Act), l.Nodup → j ∈ l → d < a.tmps.size → (laid ops vs listed l a).tmps.getD d undef = vs j
 | [], a, _, h, _ => by cases h
 | i :: l, a, hn, h, hs => by
  have hn' := List.nodup_cons.1 hn
  simp only [laid]
  by_cases hij : i = j
  ·subst hij
   rw [laid_get_out ops vs listed d l _ (fun k hk h' => L i k d (fun e => hn'.1 (by rw [e]; exact hk)) hd h'), hj, hd]
   exact put_get _ _ _ hs
  ·have hl : j ∈ l := by rcases List.mem_cons.1 h with h | h; exact absurd h.symm hij; exact h
   exact laid_get L vs listed j d hd hj l _ hn'.2 hl (by split; rw [put_size]; exact hs; exact hs)
def leftIn (listed : Array Bool) : Nat := listed.toList.count false
theorem leftIn_set {listed : Array Bool} {i : Nat} (hi : i < listed.size) (h : listed.getD i false = false) : leftIn (listed.setIfInBounds i true) + 1 = leftIn listed := by
 have h' : listed.toList[i]'(by simpa using hi) = false := by simpa [hi] using h
 have hp : 0 < listed.toList.count false := List.count_pos_iff.2 (by rw [← h']; exact List.getElem_mem _)
 have e := List.count_set (a := true) (b := false) (l := listed.toList) (i := i) (by simpa using hi)
 rw [h'] at e
 have e1 : (if (false == false) = true then 1 else 0) = 1 := rfl
 have e2 : (if (true == false) = true then 1 else 0) = 0 := rfl
 rw [e1, e2] at e
 unfold leftIn
 rw [Array.toList_setIfInBounds, e]
 omega
theorem all_listed {md : Region.Mode} {ops : Array Oper} {listed : Array Bool} (Bk : Back ops) (hs : listed.size = ops.size) (h : Region.ready md ops listed = []) : ∀ i, i < ops.size → listed.getD i false = true := by
 intro i
 induction i using Nat.strongRecOn with
 | ind i ih =>
  intro hi
  cases hc : listed.getD i false with
  | true => rfl
  | false =>
   exfalso
   have hr : i ∈ Region.ready md ops listed := by
    rw [mem_ready]
    refine ⟨by simpa [hs, hi] using hc, ops[i], by simp [hi], fun e he _ => ?_⟩
    have hlt := Bk i ops[i] (by simp [hi]) e he
    exact ih e.on hlt (by omega)
   rw [h] at hr
   cases hr
theorem listed_all {listed : Array Bool} {n : Nat} (hs : listed.size = n) (h : ∀ i, i < n → listed.getD i false = true) : listed = Array.replicate n true := by
 apply Array.ext
 ·simp [hs]
 ·intro i h1 h2
  have := h i (by omega)
  simp [h1] at this
  simp [this]
theorem any_order {P : Program} {ops : Array Oper} {Q : Exit → Act → World → Prop} {id : Nat} {a0 : Act} {w0 : World} (hm : P.follows .mixedOrders = true)
  (G : Nat → Value → World → Prop) (fresh : Nat → Bool) (hL : loneB ops = true) (hBk : backB ops = true) (hg : ops.all (fun o => o.guard.isNone) = true)
  (hdst0 : dstB ops a0.tmps.size = true)
  (mono : ∀ i v w w', w0.heap.size ≤ w.heap.size → G i v w → Below w.heap.size w w' → G i v w')
  (blk : ∀ i v w b, fresh i = true → G i v w → blkOf v = some b → b < w.heap.size)
  (step : ∀ (i : Nat) (o : Oper), ops[i]? = some o → ∀ (ev : Operand → Value) (w : World), Below w0.heap.size w0 w → (∀ v, ev (.const v) = v) → (∀ t, noDstB ops t = true → ev (.tmp t) = a0.tmps.getD t undef) →
   (∀ e ∈ o.after, Region.binds .any e = true → ∀ d, dstOf ops e.on = some d → G e.on (ev (.tmp d)) w) →
   (∀ e ∈ o.after, Region.binds .any e = true → ∀ f ∈ o.after, Region.binds .any f = true → e.on ≠ f.on → fresh e.on = true → fresh f.on = true → ∀ d d' b, dstOf ops e.on = some d → dstOf ops f.on = some d' → blkOf (ev (.tmp d)) = some b → blkOf (ev (.tmp d')) ≠ some b) →
   ∃ v w', (execOp ev o).run P w = .ok (.value v) w' ∧ G i v w' ∧ Below w.heap.size w w' ∧ (fresh i = true → ∀ b, blkOf v = some b → w.heap.size ≤ b))
  (final : ∀ vs w', Below w0.heap.size w0 w' → (∀ i, i < ops.size → G i (vs i) w') →
   (∀ i j b, i < ops.size → j < ops.size → i ≠ j → fresh i = true → fresh j = true → blkOf (vs i) = some b → blkOf (vs j) ≠ some b) →
   Q .normal (laid ops vs (Array.replicate ops.size true) (List.range ops.size) a0) w') :
  (Code.region id ops true).wp P Q a0 w0 := by
 have hdst := dst_of hdst0
 have L := lone_of hL
 have Bk := back_of hBk
 refine wp_region_any hm ?_
 have key : ∀ (fuel : Nat) (listed : Array Bool) (vs : Nat → Value) (w : World), leftIn listed ≤ fuel → listed.size = ops.size → Below w0.heap.size w0 w →
   (∀ i, i < ops.size → listed.getD i false = true → G i (vs i) w) →
   (∀ i j b, i < ops.size → j < ops.size → i ≠ j → listed.getD i false = true → listed.getD j false = true → fresh i = true → fresh j = true → blkOf (vs i) = some b → blkOf (vs j) ≠ some b) →
   wpAny P .any ops Q fuel listed (laid ops vs listed (List.range ops.size) a0) w := by
  intro fuel
  have fin : ∀ (listed : Array Bool) (vs : Nat → Value) (w : World), listed.size = ops.size → Below w0.heap.size w0 w →
   (∀ i, i < ops.size → listed.getD i false = true → G i (vs i) w) →
   (∀ i j b, i < ops.size → j < ops.size → i ≠ j → listed.getD i false = true → listed.getD j false = true → fresh i = true → fresh j = true → blkOf (vs i) = some b → blkOf (vs j) ≠ some b) →
   Region.ready .any ops listed = [] → Q .normal (laid ops vs listed (List.range ops.size) a0) w := by
   intro listed vs w hs hb hG hD hr
   have hall := all_listed Bk hs hr
   have he := listed_all hs hall
   have := final vs w hb (fun i hi => hG i hi (hall i hi)) (fun i j b hi hj hij => hD i j b hi hj hij (hall i hi) (hall j hj))
   rw [← he] at this
   exact this
  induction fuel with
  | zero =>
   intro listed vs w hf hs hb hG hD
   have hr : Region.ready .any ops listed = [] := by
    apply List.eq_nil_iff_forall_not_mem.2
    intro i hi
    obtain ⟨h0, o, ho, _⟩ := mem_ready.1 hi
    have hi' : i < ops.size := (Array.getElem?_eq_some_iff.1 ho).1
    have hlt : i < listed.size := by omega
    have h1 : listed.getD i false = false := by simpa [hlt] using h0
    have := leftIn_set hlt h1
    omega
   exact ⟨hr, fin listed vs w hs hb hG hD hr⟩
  | succ fuel ih =>
   intro listed vs w hf hs hb hG hD
   refine ⟨fin listed vs w hs hb hG hD, ?_⟩
   intro i hi
   obtain ⟨h0, o, ho, hall⟩ := mem_ready.1 hi
   have hi' : i < ops.size := (Array.getElem?_eq_some_iff.1 ho).1
   have hlt : i < listed.size := by omega
   have h1 : listed.getD i false = false := by simpa [hlt] using h0
   have hguard : o.guard = none := by
    have := Array.all_eq_true_iff_forall_mem.1 hg o (Array.mem_of_getElem? ho)
    simpa using this
   have hnd : (List.range ops.size).Nodup := List.nodup_range
   have hlt' : ∀ e ∈ o.after, Region.binds .any e = true → ∀ d, dstOf ops e.on = some d → e.on < ops.size ∧ listed.getD e.on false = true ∧ (laid ops vs listed (List.range ops.size) a0).eval (.tmp d) = vs e.on := by
    intro e he hbd d hd
    have hel := hall e he hbd
    have hes : e.on < ops.size := by
     rcases Nat.lt_or_ge e.on ops.size with h | h
     ·exact h
     ·simp [dstOf, Array.getElem?_eq_none h] at hd
    exact ⟨hes, hel, laid_get L vs listed e.on d hd hel _ _ hnd (List.mem_range.2 hes) (hdst _ _ hd)⟩
   obtain ⟨v, w', hrun, hGi, hb', hfr⟩ := step i o ho (laid ops vs listed (List.range ops.size) a0).eval w hb (fun _ => rfl)
    (fun t ht => laid_get_out ops vs listed t _ _ (fun k _ => noDst_of ht k))
    (fun e he hbd d hd => by
     obtain ⟨h2, h3, h4⟩ := hlt' e he hbd d hd
     rw [h4]
     exact hG e.on h2 h3)
    (fun e he hbd f hf' hbf hef hfe hff d d' b hd hd' h5 => by
     obtain ⟨h2, h3, h4⟩ := hlt' e he hbd d hd
     obtain ⟨k2, k3, k4⟩ := hlt' f hf' hbf d' hd'
     rw [h4] at h5
     rw [k4]
     exact hD e.on f.on b h2 k2 hef h3 k3 hfe hff h5)
   have hw : Region.wanted o (yielded ops (laid ops vs listed (List.range ops.size) a0).tmps) = true := by simp [Region.wanted, hguard]
   unfold wpOp
   simp only [ho, hw, if_true]
   refine Or.inl ?_
   unfold Oper.wp
   rw [hrun]
   simp only [Oper.upon]
   have hd' : o.dst = dstOf ops i := by simp [dstOf, ho]
   rw [hd', laid_put L vs listed i v hlt h1 _ _ hnd (List.mem_range.2 hi')]
   have hsz := hb.size
   refine ih _ _ _ (by have := leftIn_set hlt h1; omega) (by simpa using hs) (hb.trans (hb'.mono hsz)) ?_ ?_
   ·intro j hj hjl
    by_cases hji : j = i
    ·subst hji
     simp only [upd, if_true]
     exact hGi
    ·rw [getD_set_ne false (Ne.symm hji)] at hjl
     simp only [upd, hji, if_false]
     exact mono j _ w w' hsz (hG j hj hjl) hb'
   ·intro j k b hj hk hjk hjl hkl hfj hfk hbj hbk
    by_cases hji : j = i
    ·subst hji
     have hkj : k ≠ j := Ne.symm hjk
     rw [getD_set_ne false hjk] at hkl
     simp only [upd, if_true] at hbj
     simp only [upd, hkj, if_false] at hbk
     have h2 := hfr hfj b hbj
     have h3 := blk k _ w b hfk (hG k hk hkl) hbk
     omega
    ·rw [getD_set_ne false (Ne.symm hji)] at hjl
     simp only [upd, hji, if_false] at hbj
     by_cases hki : k = i
     ·subst hki
      simp only [upd, if_true] at hbk
      have h2 := hfr hfk b hbk
      have h3 := blk j _ w b hfj (hG j hj hjl) hbj
      omega
     ·rw [getD_set_ne false (Ne.symm hki)] at hkl
      simp only [upd, hki, if_false] at hbk
      exact hD j k b hj hk hjk hjl hkl hfj hfk hbj hbk
 have h0 : laid ops (fun _ => undef) (Array.replicate ops.size false) (List.range ops.size) a0 = a0 := by
  have : ∀ (l : List Nat) (a : Act), laid ops (fun _ => undef) (Array.replicate ops.size false) l a = a := by
   intro l
   induction l with
   | nil => intro a; rfl
   | cons i l ih =>
    intro a
    simp only [laid]
    have hf : (Array.replicate ops.size false).getD i false = false := by
     by_cases h : i < ops.size <;> simp [h]
    rw [hf]
    simpa using ih a
  exact this _ _
 have := key ops.size (Array.replicate ops.size false) (fun _ => undef) { w0 with drawn := w0.drawn + 1 } (by unfold leftIn; simp) (by simp) ⟨rfl, rfl, rfl, Nat.le_refl _, fun _ _ => rfl⟩ (fun i hi h => by simp [hi] at h) (fun i j b hi hj hij h => by simp [hi] at h)
 rw [h0] at this
 exact this
theorem any_order_calls {P : Program} {ops : Array Oper} {Q : Exit → Act → World → Prop} {id : Nat} {a0 : Act} {w0 : World} (hm : P.follows .mixedOrders = true)
  (G : Nat → Value → World → Prop) (fresh : Nat → Bool) (hL : loneB ops = true) (hBk : backB ops = true) (hg : ops.all (fun o => o.guard.isNone) = true)
  (hdst0 : dstB ops a0.tmps.size = true)
  (mono : ∀ i v w w', w0.heap.size ≤ w.heap.size → G i v w → Below w.heap.size w w' → G i v w')
  (blk : ∀ i v w b, fresh i = true → G i v w → blkOf v = some b → b < w.heap.size)
  (step : ∀ (i : Nat) (o : Oper), ops[i]? = some o → ∀ (a : Act) (w : World), Below w0.heap.size w0 w → (∀ t, noDstB ops t = true → a.eval (.tmp t) = a0.tmps.getD t undef) →
   (∀ e ∈ o.after, Region.binds .any e = true → ∀ d, dstOf ops e.on = some d → G e.on (a.eval (.tmp d)) w) →
   (∀ e ∈ o.after, Region.binds .any e = true → ∀ f ∈ o.after, Region.binds .any f = true → e.on ≠ f.on → fresh e.on = true → fresh f.on = true → ∀ d d' b, dstOf ops e.on = some d → dstOf ops f.on = some d' → blkOf (a.eval (.tmp d)) = some b → blkOf (a.eval (.tmp d')) ≠ some b) →
   ∀ K : Act → World → Prop, (∀ v w', G i v w' → Below w.heap.size w w' → (fresh i = true → ∀ b, blkOf v = some b → w.heap.size ≤ b) → K (a.put o.dst v) w') → o.wp P a w K Q)
  (final : ∀ vs w', Below w0.heap.size w0 w' → (∀ i, i < ops.size → G i (vs i) w') →
   (∀ i j b, i < ops.size → j < ops.size → i ≠ j → fresh i = true → fresh j = true → blkOf (vs i) = some b → blkOf (vs j) ≠ some b) →
   Q .normal (laid ops vs (Array.replicate ops.size true) (List.range ops.size) a0) w') :
  (Code.region id ops true).wp P Q a0 w0 := by
 have hdst := dst_of hdst0
 have L := lone_of hL
 have Bk := back_of hBk
 refine wp_region_any hm ?_
 have key : ∀ (fuel : Nat) (listed : Array Bool) (vs : Nat → Value) (w : World), leftIn listed ≤ fuel → listed.size = ops.size → Below w0.heap.size w0 w →
   (∀ i, i < ops.size → listed.getD i false = true → G i (vs i) w) →
   (∀ i j b, i < ops.size → j < ops.size → i ≠ j → listed.getD i false = true → listed.getD j false = true → fresh i = true → fresh j = true → blkOf (vs i) = some b → blkOf (vs j) ≠ some b) →
   wpAny P .any ops Q fuel listed (laid ops vs listed (List.range ops.size) a0) w := by
  intro fuel
  have fin : ∀ (listed : Array Bool) (vs : Nat → Value) (w : World), listed.size = ops.size → Below w0.heap.size w0 w →
   (∀ i, i < ops.size → listed.getD i false = true → G i (vs i) w) →
   (∀ i j b, i < ops.size → j < ops.size → i ≠ j → listed.getD i false = true → listed.getD j false = true → fresh i = true → fresh j = true → blkOf (vs i) = some b → blkOf (vs j) ≠ some b) →
   Region.ready .any ops listed = [] → Q .normal (laid ops vs listed (List.range ops.size) a0) w := by
   intro listed vs w hs hb hG hD hr
   have hall := all_listed Bk hs hr
   have he := listed_all hs hall
   have := final vs w hb (fun i hi => hG i hi (hall i hi)) (fun i j b hi hj hij => hD i j b hi hj hij (hall i hi) (hall j hj))
   rw [← he] at this
   exact this
  induction fuel with
  | zero =>
   intro listed vs w hf hs hb hG hD
   have hr : Region.ready .any ops listed = [] := by
    apply List.eq_nil_iff_forall_not_mem.2
    intro i hi
    obtain ⟨h0, o, ho, _⟩ := mem_ready.1 hi
    have hi' : i < ops.size := (Array.getElem?_eq_some_iff.1 ho).1
    have hlt : i < listed.size := by omega
    have h1 : listed.getD i false = false := by simpa [hlt] using h0
    have := leftIn_set hlt h1
    omega
   exact ⟨hr, fin listed vs w hs hb hG hD hr⟩
  | succ fuel ih =>
   intro listed vs w hf hs hb hG hD
   refine ⟨fin listed vs w hs hb hG hD, ?_⟩
   intro i hi
   obtain ⟨h0, o, ho, hall⟩ := mem_ready.1 hi
   have hi' : i < ops.size := (Array.getElem?_eq_some_iff.1 ho).1
   have hlt : i < listed.size := by omega
   have h1 : listed.getD i false = false := by simpa [hlt] using h0
   have hguard : o.guard = none := by
    have := Array.all_eq_true_iff_forall_mem.1 hg o (Array.mem_of_getElem? ho)
    simpa using this
   have hnd : (List.range ops.size).Nodup := List.nodup_range
   have hlt' : ∀ e ∈ o.after, Region.binds .any e = true → ∀ d, dstOf ops e.on = some d → e.on < ops.size ∧ listed.getD e.on false = true ∧ (laid ops vs listed (List.range ops.size) a0).eval (.tmp d) = vs e.on := by
    intro e he hbd d hd
    have hel := hall e he hbd
    have hes : e.on < ops.size := by
     rcases Nat.lt_or_ge e.on ops.size with h | h
     ·exact h
     ·simp [dstOf, Array.getElem?_eq_none h] at hd
    exact ⟨hes, hel, laid_get L vs listed e.on d hd hel _ _ hnd (List.mem_range.2 hes) (hdst _ _ hd)⟩
   have hstep := step i o ho (laid ops vs listed (List.range ops.size) a0) w hb
    (fun t ht => laid_get_out ops vs listed t _ _ (fun k _ => noDst_of ht k))
    (fun e he hbd d hd => by
     obtain ⟨h2, h3, h4⟩ := hlt' e he hbd d hd
     rw [h4]
     exact hG e.on h2 h3)
    (fun e he hbd f hf' hbf hef hfe hff d d' b hd hd' h5 => by
     obtain ⟨h2, h3, h4⟩ := hlt' e he hbd d hd
     obtain ⟨k2, k3, k4⟩ := hlt' f hf' hbf d' hd'
     rw [h4] at h5
     rw [k4]
     exact hD e.on f.on b h2 k2 hef h3 k3 hfe hff h5)
   have hw : Region.wanted o (yielded ops (laid ops vs listed (List.range ops.size) a0).tmps) = true := by simp [Region.wanted, hguard]
   unfold wpOp
   simp only [ho, hw, if_true]
   refine Or.inl (hstep _ ?_)
   intro v w' hGi hb' hfr
   have hd' : o.dst = dstOf ops i := by simp [dstOf, ho]
   rw [hd', laid_put L vs listed i v hlt h1 _ _ hnd (List.mem_range.2 hi')]
   have hsz := hb.size
   refine ih _ _ _ (by have := leftIn_set hlt h1; omega) (by simpa using hs) (hb.trans (hb'.mono hsz)) ?_ ?_
   ·intro j hj hjl
    by_cases hji : j = i
    ·subst hji
     simp only [upd, if_true]
     exact hGi
    ·rw [getD_set_ne false (Ne.symm hji)] at hjl
     simp only [upd, hji, if_false]
     exact mono j _ w w' hsz (hG j hj hjl) hb'
   ·intro j k b hj hk hjk hjl hkl hfj hfk hbj hbk
    by_cases hji : j = i
    ·subst hji
     have hkj : k ≠ j := Ne.symm hjk
     rw [getD_set_ne false hjk] at hkl
     simp only [upd, if_true] at hbj
     simp only [upd, hkj, if_false] at hbk
     have h2 := hfr hfj b hbj
     have h3 := blk k _ w b hfk (hG k hk hkl) hbk
     omega
    ·rw [getD_set_ne false (Ne.symm hji)] at hjl
     simp only [upd, hji, if_false] at hbj
     by_cases hki : k = i
     ·subst hki
      simp only [upd, if_true] at hbk
      have h2 := hfr hfk b hbk
      have h3 := blk j _ w b hfj (hG j hj hjl) hbj
      omega
     ·rw [getD_set_ne false (Ne.symm hki)] at hkl
      simp only [upd, hki, if_false] at hbk
      exact hD j k b hj hk hjk hjl hkl hfj hfk hbj hbk
 have h0 : laid ops (fun _ => undef) (Array.replicate ops.size false) (List.range ops.size) a0 = a0 := by
  have : ∀ (l : List Nat) (a : Act), laid ops (fun _ => undef) (Array.replicate ops.size false) l a = a := by
   intro l
   induction l with
   | nil => intro a; rfl
   | cons i l ih =>
    intro a
    simp only [laid]
    have hf : (Array.replicate ops.size false).getD i false = false := by
     by_cases h : i < ops.size <;> simp [h]
    rw [hf]
    simpa using ih a
  exact this _ _
 have := key ops.size (Array.replicate ops.size false) (fun _ => undef) { w0 with drawn := w0.drawn + 1 } (by unfold leftIn; simp) (by simp) ⟨rfl, rfl, rfl, Nat.le_refl _, fun _ _ => rfl⟩ (fun i hi h => by simp [hi] at h) (fun i j b hi hj hij h => by simp [hi] at h)
 rw [h0] at this
 exact this
theorem step_load {P : Program} {op : Oper} {a : Act} {w : World} {K : Act → World → Prop} {Q : Exit → Act → World → Prop} (ty : TypeId) (x : Operand) (ho : op.op = .load ty x)
  (b o : Nat) (hx : a.eval x = .pointer (some ⟨b, o, none⟩)) (cs : List Value) (d : TypeDesc) (hc : w.rangeAt b o cs)
  (hu : P.underlying ty = some d) (hd : d.isRow = true) (hi : (P.info? ty).map (·.size) = some cs.length)
  (h : K (a.put op.dst (.agg cs.toArray)) w) : op.wp P a w K Q := wp_load_mid ty x ho b o hx cs d hc hu hd hi h
theorem step_call {P : Program} {op : Oper} {a : Act} {w : World} {K : Act → World → Prop} {Q : Exit → Act → World → Prop} {f : FuncId} {args : Array Value} {R : Value → World → Prop}
  (he : (execOp a.eval op).run P w = .ok (.enter f args) w) (hc : Calls P f args w fun e w' => ∃ v, e = .returned v ∧ R v w') (h : ∀ v w', R v w' → K (a.put op.dst v) w') : op.wp P a w K Q := by
 unfold Oper.wp
 rw [he]
 simp only [Oper.upon]
 refine hc.mono ?_
 rintro e w' ⟨v, rfl, hR⟩
 exact h v w' hR
theorem step_value {P : Program} {op : Oper} {a : Act} {w w' : World} {v : Value} {K : Act → World → Prop} {Q : Exit → Act → World → Prop}
  (he : (execOp a.eval op).run P w = .ok (.value v) w') (h : K (a.put op.dst v) w') : op.wp P a w K Q := by
 unfold Oper.wp
 rw [he]
 exact h
end
end Go.Proofs.YtlfjhcdjgoeafaaDoor
