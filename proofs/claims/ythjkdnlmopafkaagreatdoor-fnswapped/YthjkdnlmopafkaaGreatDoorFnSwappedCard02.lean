/-
  What the law's proof goes by, part 3.
-/
import Derived.Orders
import Derived.Deep.MidRow
import Derived.Below
import Derived.Deep.Quiet
import Derived.Deep.QuietTactic
import Derived.Test.YthjkdnlmopafkaaGreatDoorFnSwappedCard00
namespace Go.Proofs.YthjkdnlmopafkaaGreatDoor
open Go.ChangeShapes Go.WideShapes Go.ChangeAt Go.RowKit
set_option maxRecDepth 100000
set_option maxHeartbeats 16000000
set_option linter.unusedVariables false
set_option linter.unusedSimpArgs false
set_option linter.unnecessarySimpa false
set_option linter.unusedSectionVars false
section
def qz3e : Value -> Option Nat
 | .pointer (some p) => some p.block
 | .slice (some p) _ _ => some p.block
 | _ => none
def qz2v (ops : Array Oper) (i : Nat) : Option Tmp := (ops[i]?).bind (·.dst)
def laid (ops : Array Oper) (vs : Nat -> Value) (listed : Array Bool) : List Nat -> Act -> Act
 | [], a => a
 | i :: l, a => laid ops vs listed l (if listed.getD i false then a.put (qz2v ops i) (vs i) else a)
def upd (vs : Nat -> Value) (i : Nat) (v : Value) : Nat -> Value := fun j => if j = i then v else vs j
def Lone (ops : Array Oper) : Prop := ∀ i j d, i ≠ j -> qz2v ops i = some d -> qz2v ops j ≠ some d
def qze1 (ops : Array Oper) : Bool := (List.range ops.size).all fun i => (List.range ops.size).all fun j => (i == j) || match qz2v ops i, qz2v ops j with | some d, some e => d != e | _, _ => true
theorem qz67 {ops : Array Oper} (h : qze1 ops = true) : Lone ops := by
 intro i j d hij hi hj
 have hi' : i < ops.size := by
  rcases Nat.lt_or_ge i ops.size with h | h
  ·exact h
  ·simp [qz2v, Array.getElem?_eq_none h] at hi
 have hj' : j < ops.size := by
  rcases Nat.lt_or_ge j ops.size with h | h
  ·exact h
  ·simp [qz2v, Array.getElem?_eq_none h] at hj
 have h1 := (List.all_eq_true.1 h) i (List.mem_range.2 hi')
 have h2 := (List.all_eq_true.1 h1) j (List.mem_range.2 hj')
 rw [hi, hj] at h2
 simp [hij] at h2
def Back (ops : Array Oper) : Prop := ∀ (i : Nat) (o : Oper), ops[i]? = some o -> ∀ e ∈ o.after, e.on < i
def qzgq (ops : Array Oper) : Bool := (List.range ops.size).all fun i => match ops[i]? with | some o => o.after.all fun e => decide (e.on < i) | none => true
theorem qzbc {ops : Array Oper} (h : qzgq ops = true) : Back ops := by
 intro i o ho e he
 have hi' : i < ops.size := by
  rcases Nat.lt_or_ge i ops.size with h | h
  ·exact h
  ·rw [Array.getElem?_eq_none h] at ho; cases ho
 have h1 := (List.all_eq_true.1 h) i (List.mem_range.2 hi')
 simp only [ho] at h1
 exact of_decide_eq_true (Array.all_eq_true_iff_forall_mem.1 h1 e he)
def qz7m (ops : Array Oper) (t : Nat) : Bool := (List.range ops.size).all fun k => qz2v ops k != some t
theorem qz4s {ops : Array Oper} {t : Nat} (h : qz7m ops t = true) (k : Nat) : qz2v ops k ≠ some t := by
 intro hk
 have hi' : k < ops.size := by
  rcases Nat.lt_or_ge k ops.size with h | h
  ·exact h
  ·simp [qz2v, Array.getElem?_eq_none h] at hk
 have := (List.all_eq_true.1 h) k (List.mem_range.2 hi')
 simp [hk] at this
def dstB (ops : Array Oper) (n : Nat) : Bool := (List.range ops.size).all fun i => match qz2v ops i with | some d => decide (d < n) | none => true
theorem qz9b {ops : Array Oper} {n : Nat} (h : dstB ops n = true) (k d : Nat) (hk : qz2v ops k = some d) : d < n := by
 have hi' : k < ops.size := by
  rcases Nat.lt_or_ge k ops.size with h | h
  ·exact h
  ·simp [qz2v, Array.getElem?_eq_none h] at hk
 have := (List.all_eq_true.1 h) k (List.mem_range.2 hi')
 rw [hk] at this
 exact of_decide_eq_true this
theorem qz5h {ops : Array Oper} (L : Lone ops) (vs : Nat -> Value) (listed : Array Bool) (i : Nat) (v : Value) : ∀ (l : List Nat) (a : Act), i ∉ l ->
  laid ops (upd vs i v) (listed.setIfInBounds i true) l (a.put (qz2v ops i) v) = (laid ops vs listed l a).put (qz2v ops i) v
 | [], a, _ => rfl
 | j :: l, a, h => by
  have hji : j ≠ i := fun e => h (by simp [e])
  have hl : i ∉ l := fun e => h (by simp [e])
  simp only [laid]
  rw [getD_set_ne false (Ne.symm hji)]
  have hu : upd vs i v j = vs j := by simp [upd, hji]
  rw [hu]
  split
  ·rw [Act.put_comm a v (vs j) (fun d h1 h2 => L i j d (Ne.symm hji) h1 h2)]
   exact qz5h L vs listed i v l _ hl
  ·exact qz5h L vs listed i v l _ hl
theorem qz4d {ops : Array Oper} (L : Lone ops) (vs : Nat -> Value) (listed : Array Bool) (i : Nat) (v : Value) (hi : i < listed.size) (hf : listed.getD i false = false) : ∀ (l : List Nat) (a : Act), l.Nodup -> i ∈ l ->
  (laid ops vs listed l a).put (qz2v ops i) v = laid ops (upd vs i v) (listed.setIfInBounds i true) l a
 | [], a, _, h => by cases h
 | j :: l, a, hn, h => by
  have hn' := List.nodup_cons.1 hn
  simp only [laid]
  by_cases hji : j = i
  ·subst hji
   rw [hf]
   have ht : (listed.setIfInBounds j true).getD j false = true := by simp [hi]
   have hu : upd vs j v j = v := by simp [upd]
   rw [ht, hu]
   simp only [if_true, Bool.false_eq_true, if_false]
   exact (qz5h L vs listed j v l a hn'.1).symm
  ·have hl : i ∈ l := by rcases List.mem_cons.1 h with h | h; exact absurd h.symm hji; exact h
   have hu : upd vs i v j = vs j := by simp [upd, hji]
   rw [getD_set_ne false (Ne.symm hji), hu]
   exact qz4d L vs listed i v hi hf l _ hn'.2 hl
theorem qzd2 (a : Act) (x : Option Tmp) (v : Value) : (a.put x v).tmps.size = a.tmps.size := by cases x <;> simp [Act.put]
theorem qz9m (a : Act) (x : Option Tmp) (v : Value) (d : Nat) (h : x ≠ some d) : (a.put x v).tmps.getD d undef = a.tmps.getD d undef := by
 cases x with
 | none => rfl
 | some e =>
  have : e ≠ d := fun h' => h (by rw [h'])
  simp [Act.put, Array.getElem?_setIfInBounds_ne this]
theorem qzdz (a : Act) (v : Value) (d : Nat) (h : d < a.tmps.size) : (a.put (some d) v).tmps.getD d undef = v := by
 simp [Act.put, h]
theorem qz21 (ops : Array Oper) (vs : Nat -> Value) (listed : Array Bool) (d : Nat) : ∀ (l : List Nat) (a : Act), (∀ k ∈ l, qz2v ops k ≠ some d) -> (laid ops vs listed l a).tmps.getD d undef = a.tmps.getD d undef
 | [], a, _ => rfl
 | i :: l, a, h => by
  simp only [laid]
  rw [qz21 ops vs listed d l _ (fun k hk => h k (by simp [hk]))]
  split
  ·exact qz9m _ _ _ _ (h i (by simp))
  ·rfl
theorem qz43 {ops : Array Oper} (L : Lone ops) (vs : Nat -> Value) (listed : Array Bool) (j d : Nat) (hd : qz2v ops j = some d) (hj : listed.getD j false = true) : ∀ (l : List Nat) (a : Act), l.Nodup -> j ∈ l -> d < a.tmps.size -> (laid ops vs listed l a).tmps.getD d undef = vs j
 | [], a, _, h, _ => by cases h
 | i :: l, a, hn, h, hs => by
  have hn' := List.nodup_cons.1 hn
  simp only [laid]
  by_cases hij : i = j
  ·subst hij
   rw [qz21 ops vs listed d l _ (fun k hk h' => L i k d (fun e => hn'.1 (by rw [e]; exact hk)) hd h'), hj, hd]
   exact qzdz _ _ _ hs
  ·have hl : j ∈ l := by rcases List.mem_cons.1 h with h | h; exact absurd h.symm hij; exact h
   exact qz43 L vs listed j d hd hj l _ hn'.2 hl (by split; rw [qzd2]; exact hs; exact hs)
def qz4c (listed : Array Bool) : Nat := listed.toList.count false
theorem qz2w {listed : Array Bool} {i : Nat} (hi : i < listed.size) (h : listed.getD i false = false) : qz4c (listed.setIfInBounds i true) + 1 = qz4c listed := by
 have h' : listed.toList[i]'(by simpa using hi) = false := by simpa [hi] using h
 have hp : 0 < listed.toList.count false := List.count_pos_iff.2 (by rw [<- h']; exact List.getElem_mem _)
 have e := List.count_set (a := true) (b := false) (l := listed.toList) (i := i) (by simpa using hi)
 rw [h'] at e
 have e1 : (if (false == false) = true then 1 else 0) = 1 := rfl
 have e2 : (if (true == false) = true then 1 else 0) = 0 := rfl
 rw [e1, e2] at e
 unfold qz4c
 rw [Array.toList_setIfInBounds, e]
 omega
theorem qz9u {md : Region.Mode} {ops : Array Oper} {listed : Array Bool} (Bk : Back ops) (hs : listed.size = ops.size) (h : Region.ready md ops listed = []) : ∀ i, i < ops.size -> listed.getD i false = true := by
 intro i
 induction i using Nat.strongRecOn with
 | ind i ih =>
  intro hi
  cases hc : listed.getD i false with
  | true => rfl
  | false =>
   exfalso
   have hr : i ∈ Region.ready md ops listed := by
    rw [mem_ready]
    refine ⟨by simpa [hs, hi] using hc, ops[i], by simp [hi], fun e he _ => ?_⟩
    have hlt := Bk i ops[i] (by simp [hi]) e he
    exact ih e.on hlt (by omega)
   rw [h] at hr
   cases hr
theorem qz9k {listed : Array Bool} {n : Nat} (hs : listed.size = n) (h : ∀ i, i < n -> listed.getD i false = true) : listed = Array.replicate n true := by
 apply Array.ext
 ·simp [hs]
 ·intro i h1 h2
  have := h i (by omega)
  simp [h1] at this
  simp [this]
theorem qzh4 {P : Program} {ops : Array Oper} {Q : Exit -> Act -> World -> Prop} {id : Nat} {a0 : Act} {w0 : World} (hm : P.follows .mixedOrders = true)
  (G : Nat -> Value -> World -> Prop) (fresh : Nat -> Bool) (hL : qze1 ops = true) (hBk : qzgq ops = true) (hg : ops.all (fun o => o.guard.isNone) = true)
  (hdst0 : dstB ops a0.tmps.size = true)
  (mono : ∀ i v w w', Q73 <= Q6o -> G i v w -> Below Q6o w w' -> G i v w')
  (blk : ∀ i v w b, fresh i = true -> G i v w -> qz3e v = some b -> b < Q6o)
  (step : ∀ (i : Nat) (o : Oper), ops[i]? = some o -> ∀ (ev : Operand -> Value) (w : World), Below Q73 w0 w -> (∀ v, ev (.const v) = v) -> (∀ t, qz7m ops t = true -> ev (.tmp t) = a0.tmps.getD t undef) ->
   (∀ e ∈ o.after, Region.binds .any e = true -> ∀ d, qz2v ops e.on = some d -> G e.on (ev (.tmp d)) w) ->
   (∀ e ∈ o.after, Region.binds .any e = true -> ∀ f ∈ o.after, Region.binds .any f = true -> e.on ≠ f.on -> fresh e.on = true -> fresh f.on = true -> ∀ d d' b, qz2v ops e.on = some d -> qz2v ops f.on = some d' -> qz3e (ev (.tmp d)) = some b -> qz3e (ev (.tmp d')) ≠ some b) ->
   ∃ v w', (execOp ev o).run P w = .ok (.value v) w' /\ G i v w' /\ Below Q6o w w' /\ (fresh i = true -> ∀ b, qz3e v = some b -> Q6o <= b))
  (final : ∀ vs w', Below Q73 w0 w' -> (∀ i, i < ops.size -> G i (vs i) w') ->
   (∀ i j b, i < ops.size -> j < ops.size -> i ≠ j -> fresh i = true -> fresh j = true -> qz3e (vs i) = some b -> qz3e (vs j) ≠ some b) ->
   Q .normal (laid ops vs (Array.replicate ops.size true) (List.range ops.size) a0) w') :
  (Code.region id ops true).wp P Q a0 w0 := by
 have hdst := qz9b hdst0
 have L := qz67 hL
 have Bk := qzbc hBk
 refine wp_region_any hm ?_
 have key : ∀ (fuel : Nat) (listed : Array Bool) (vs : Nat -> Value) (w : World), qz4c listed <= fuel -> listed.size = ops.size -> Below Q73 w0 w ->
   (∀ i, i < ops.size -> listed.getD i false = true -> G i (vs i) w) ->
   (∀ i j b, i < ops.size -> j < ops.size -> i ≠ j -> listed.getD i false = true -> listed.getD j false = true -> fresh i = true -> fresh j = true -> qz3e (vs i) = some b -> qz3e (vs j) ≠ some b) ->
   wpAny P .any ops Q fuel listed (laid ops vs listed (List.range ops.size) a0) w := by
  intro fuel
  have fin : ∀ (listed : Array Bool) (vs : Nat -> Value) (w : World), listed.size = ops.size -> Below Q73 w0 w ->
   (∀ i, i < ops.size -> listed.getD i false = true -> G i (vs i) w) ->
   (∀ i j b, i < ops.size -> j < ops.size -> i ≠ j -> listed.getD i false = true -> listed.getD j false = true -> fresh i = true -> fresh j = true -> qz3e (vs i) = some b -> qz3e (vs j) ≠ some b) ->
   Region.ready .any ops listed = [] -> Q .normal (laid ops vs listed (List.range ops.size) a0) w := by
   intro listed vs w hs hb hG hD hr
   have hall := qz9u Bk hs hr
   have he := qz9k hs hall
   have := final vs w hb (fun i hi => hG i hi (hall i hi)) (fun i j b hi hj hij => hD i j b hi hj hij (hall i hi) (hall j hj))
   rw [<- he] at this
   exact this
  induction fuel with
  | zero =>
   intro listed vs w hf hs hb hG hD
   have hr : Region.ready .any ops listed = [] := by
    apply List.eq_nil_iff_forall_not_mem.2
    intro i hi
    obtain ⟨h0, o, ho, _⟩ := mem_ready.1 hi
    have hi' : i < ops.size := (Array.getElem?_eq_some_iff.1 ho).1
    have hlt : i < listed.size := by omega
    have h1 : listed.getD i false = false := by simpa [hlt] using h0
    have := qz2w hlt h1
    omega
   exact ⟨hr, fin listed vs w hs hb hG hD hr⟩
  | succ fuel ih =>
   intro listed vs w hf hs hb hG hD
   refine ⟨fin listed vs w hs hb hG hD, ?_⟩
   intro i hi
   obtain ⟨h0, o, ho, hall⟩ := mem_ready.1 hi
   have hi' : i < ops.size := (Array.getElem?_eq_some_iff.1 ho).1
   have hlt : i < listed.size := by omega
   have h1 : listed.getD i false = false := by simpa [hlt] using h0
   have hguard : o.guard = none := by
    have := Array.all_eq_true_iff_forall_mem.1 hg o (Array.mem_of_getElem? ho)
    simpa using this
   have hnd : (List.range ops.size).Nodup := List.nodup_range
   have hlt' : ∀ e ∈ o.after, Region.binds .any e = true -> ∀ d, qz2v ops e.on = some d -> e.on < ops.size /\ listed.getD e.on false = true /\ (laid ops vs listed (List.range ops.size) a0).eval (.tmp d) = vs e.on := by
    intro e he hbd d hd
    have hel := hall e he hbd
    have hes : e.on < ops.size := by
     rcases Nat.lt_or_ge e.on ops.size with h | h
     ·exact h
     ·simp [qz2v, Array.getElem?_eq_none h] at hd
    exact ⟨hes, hel, qz43 L vs listed e.on d hd hel _ _ hnd (List.mem_range.2 hes) (hdst _ _ hd)⟩
   obtain ⟨v, w', hrun, hGi, hb', hfr⟩ := step i o ho (laid ops vs listed (List.range ops.size) a0).eval w hb (fun _ => rfl)
    (fun t ht => qz21 ops vs listed t _ _ (fun k _ => qz4s ht k))
    (fun e he hbd d hd => by
     obtain ⟨h2, h3, h4⟩ := hlt' e he hbd d hd
     rw [h4]
     exact hG e.on h2 h3)
    (fun e he hbd f hf' hbf hef hfe hff d d' b hd hd' h5 => by
     obtain ⟨h2, h3, h4⟩ := hlt' e he hbd d hd
     obtain ⟨k2, k3, k4⟩ := hlt' f hf' hbf d' hd'
     rw [h4] at h5
     rw [k4]
     exact hD e.on f.on b h2 k2 hef h3 k3 hfe hff h5)
   have hw : Region.wanted o (yielded ops (laid ops vs listed (List.range ops.size) a0).tmps) = true := by simp [Region.wanted, hguard]
   unfold wpOp
   simp only [ho, hw, if_true]
   refine Or.inl ?_
   unfold Oper.wp
   rw [hrun]
   simp only [Oper.upon]
   have hd' : o.dst = qz2v ops i := by simp [qz2v, ho]
   rw [hd', qz4d L vs listed i v hlt h1 _ _ hnd (List.mem_range.2 hi')]
   have hsz := hb.size
   refine ih _ _ _ (by have := qz2w hlt h1; omega) (by simpa using hs) (hb.trans (hb'.mono hsz)) ?_ ?_
   ·intro j hj hjl
    by_cases hji : j = i
    ·subst hji
     simp only [upd, if_true]
     exact hGi
    ·rw [getD_set_ne false (Ne.symm hji)] at hjl
     simp only [upd, hji, if_false]
     exact mono j _ w w' hsz (hG j hj hjl) hb'
   ·intro j k b hj hk hjk hjl hkl hfj hfk hbj hbk
    by_cases hji : j = i
    ·subst hji
     have hkj : k ≠ j := Ne.symm hjk
     rw [getD_set_ne false hjk] at hkl
     simp only [upd, if_true] at hbj
     simp only [upd, hkj, if_false] at hbk
     have h2 := hfr hfj b hbj
     have h3 := blk k _ w b hfk (hG k hk hkl) hbk
     omega
    ·rw [getD_set_ne false (Ne.symm hji)] at hjl
     simp only [upd, hji, if_false] at hbj
     by_cases hki : k = i
     ·subst hki
      simp only [upd, if_true] at hbk
      have h2 := hfr hfk b hbk
      have h3 := blk j _ w b hfj (hG j hj hjl) hbj
      omega
     ·rw [getD_set_ne false (Ne.symm hki)] at hkl
      simp only [upd, hki, if_false] at hbk
      exact hD j k b hj hk hjk hjl hkl hfj hfk hbj hbk
 have h0 : laid ops (fun _ => undef) (Array.replicate ops.size false) (List.range ops.size) a0 = a0 := by
  have : ∀ (l : List Nat) (a : Act), laid ops (fun _ => undef) (Array.replicate ops.size false) l a = a := by
   intro l
   induction l with
   | nil => intro a; rfl
   | cons i l ih =>
    intro a
    simp only [laid]
    have hf : (Array.replicate ops.size false).getD i false = false := by
     by_cases h : i < ops.size <;> simp [h]
    rw [hf]
    simpa using ih a
  exact this _ _
 have := key ops.size (Array.replicate ops.size false) (fun _ => undef) { w0 with drawn := w0.drawn + 1 } (by unfold qz4c; simp) (by simp) ⟨rfl, rfl, rfl, Q6v _, fun _ _ => rfl⟩ (fun i hi h => by simp [hi] at h) (fun i j b hi hj hij h => by simp [hi] at h)
 rw [h0] at this
 exact this
theorem qz7f {P : Program} {ops : Array Oper} {Q : Exit -> Act -> World -> Prop} {id : Nat} {a0 : Act} {w0 : World} (hm : P.follows .mixedOrders = true)
  (G : Nat -> Value -> World -> Prop) (fresh : Nat -> Bool) (hL : qze1 ops = true) (hBk : qzgq ops = true) (hg : ops.all (fun o => o.guard.isNone) = true)
  (hdst0 : dstB ops a0.tmps.size = true)
  (mono : ∀ i v w w', Q73 <= Q6o -> G i v w -> Below Q6o w w' -> G i v w')
  (blk : ∀ i v w b, fresh i = true -> G i v w -> qz3e v = some b -> b < Q6o)
  (step : ∀ (i : Nat) (o : Oper), ops[i]? = some o -> ∀ (a : Act) (w : World), Below Q73 w0 w -> (∀ t, qz7m ops t = true -> a.eval (.tmp t) = a0.tmps.getD t undef) ->
   (∀ e ∈ o.after, Region.binds .any e = true -> ∀ d, qz2v ops e.on = some d -> G e.on (a.eval (.tmp d)) w) ->
   (∀ e ∈ o.after, Region.binds .any e = true -> ∀ f ∈ o.after, Region.binds .any f = true -> e.on ≠ f.on -> fresh e.on = true -> fresh f.on = true -> ∀ d d' b, qz2v ops e.on = some d -> qz2v ops f.on = some d' -> qz3e (a.eval (.tmp d)) = some b -> qz3e (a.eval (.tmp d')) ≠ some b) ->
   ∀ K : Act -> World -> Prop, (∀ v w', G i v w' -> Below Q6o w w' -> (fresh i = true -> ∀ b, qz3e v = some b -> Q6o <= b) -> K (a.put o.dst v) w') -> o.wp P a w K Q)
  (final : ∀ vs w', Below Q73 w0 w' -> (∀ i, i < ops.size -> G i (vs i) w') ->
   (∀ i j b, i < ops.size -> j < ops.size -> i ≠ j -> fresh i = true -> fresh j = true -> qz3e (vs i) = some b -> qz3e (vs j) ≠ some b) ->
   Q .normal (laid ops vs (Array.replicate ops.size true) (List.range ops.size) a0) w') :
  (Code.region id ops true).wp P Q a0 w0 := by
 have hdst := qz9b hdst0
 have L := qz67 hL
 have Bk := qzbc hBk
 refine wp_region_any hm ?_
 have key : ∀ (fuel : Nat) (listed : Array Bool) (vs : Nat -> Value) (w : World), qz4c listed <= fuel -> listed.size = ops.size -> Below Q73 w0 w ->
   (∀ i, i < ops.size -> listed.getD i false = true -> G i (vs i) w) ->
   (∀ i j b, i < ops.size -> j < ops.size -> i ≠ j -> listed.getD i false = true -> listed.getD j false = true -> fresh i = true -> fresh j = true -> qz3e (vs i) = some b -> qz3e (vs j) ≠ some b) ->
   wpAny P .any ops Q fuel listed (laid ops vs listed (List.range ops.size) a0) w := by
  intro fuel
  have fin : ∀ (listed : Array Bool) (vs : Nat -> Value) (w : World), listed.size = ops.size -> Below Q73 w0 w ->
   (∀ i, i < ops.size -> listed.getD i false = true -> G i (vs i) w) ->
   (∀ i j b, i < ops.size -> j < ops.size -> i ≠ j -> listed.getD i false = true -> listed.getD j false = true -> fresh i = true -> fresh j = true -> qz3e (vs i) = some b -> qz3e (vs j) ≠ some b) ->
   Region.ready .any ops listed = [] -> Q .normal (laid ops vs listed (List.range ops.size) a0) w := by
   intro listed vs w hs hb hG hD hr
   have hall := qz9u Bk hs hr
   have he := qz9k hs hall
   have := final vs w hb (fun i hi => hG i hi (hall i hi)) (fun i j b hi hj hij => hD i j b hi hj hij (hall i hi) (hall j hj))
   rw [<- he] at this
   exact this
  induction fuel with
  | zero =>
   intro listed vs w hf hs hb hG hD
   have hr : Region.ready .any ops listed = [] := by
    apply List.eq_nil_iff_forall_not_mem.2
    intro i hi
    obtain ⟨h0, o, ho, _⟩ := mem_ready.1 hi
    have hi' : i < ops.size := (Array.getElem?_eq_some_iff.1 ho).1
    have hlt : i < listed.size := by omega
    have h1 : listed.getD i false = false := by simpa [hlt] using h0
    have := qz2w hlt h1
    omega
   exact ⟨hr, fin listed vs w hs hb hG hD hr⟩
  | succ fuel ih =>
   intro listed vs w hf hs hb hG hD
   refine ⟨fin listed vs w hs hb hG hD, ?_⟩
   intro i hi
   obtain ⟨h0, o, ho, hall⟩ := mem_ready.1 hi
   have hi' : i < ops.size := (Array.getElem?_eq_some_iff.1 ho).1
   have hlt : i < listed.size := by omega
   have h1 : listed.getD i false = false := by simpa [hlt] using h0
   have hguard : o.guard = none := by
    have := Array.all_eq_true_iff_forall_mem.1 hg o (Array.mem_of_getElem? ho)
    simpa using this
   have hnd : (List.range ops.size).Nodup := List.nodup_range
   have hlt' : ∀ e ∈ o.after, Region.binds .any e = true -> ∀ d, qz2v ops e.on = some d -> e.on < ops.size /\ listed.getD e.on false = true /\ (laid ops vs listed (List.range ops.size) a0).eval (.tmp d) = vs e.on := by
    intro e he hbd d hd
    have hel := hall e he hbd
    have hes : e.on < ops.size := by
     rcases Nat.lt_or_ge e.on ops.size with h | h
     ·exact h
     ·simp [qz2v, Array.getElem?_eq_none h] at hd
    exact ⟨hes, hel, qz43 L vs listed e.on d hd hel _ _ hnd (List.mem_range.2 hes) (hdst _ _ hd)⟩
   have hstep := step i o ho (laid ops vs listed (List.range ops.size) a0) w hb
    (fun t ht => qz21 ops vs listed t _ _ (fun k _ => qz4s ht k))
    (fun e he hbd d hd => by
     obtain ⟨h2, h3, h4⟩ := hlt' e he hbd d hd
     rw [h4]
     exact hG e.on h2 h3)
    (fun e he hbd f hf' hbf hef hfe hff d d' b hd hd' h5 => by
     obtain ⟨h2, h3, h4⟩ := hlt' e he hbd d hd
     obtain ⟨k2, k3, k4⟩ := hlt' f hf' hbf d' hd'
     rw [h4] at h5
     rw [k4]
     exact hD e.on f.on b h2 k2 hef h3 k3 hfe hff h5)
   have hw : Region.wanted o (yielded ops (laid ops vs listed (List.range ops.size) a0).tmps) = true := by simp [Region.wanted, hguard]
   unfold wpOp
   simp only [ho, hw, if_true]
   refine Or.inl (hstep _ ?_)
   intro v w' hGi hb' hfr
   have hd' : o.dst = qz2v ops i := by simp [qz2v, ho]
   rw [hd', qz4d L vs listed i v hlt h1 _ _ hnd (List.mem_range.2 hi')]
   have hsz := hb.size
   refine ih _ _ _ (by have := qz2w hlt h1; omega) (by simpa using hs) (hb.trans (hb'.mono hsz)) ?_ ?_
   ·intro j hj hjl
    by_cases hji : j = i
    ·subst hji
     simp only [upd, if_true]
     exact hGi
    ·rw [getD_set_ne false (Ne.symm hji)] at hjl
     simp only [upd, hji, if_false]
     exact mono j _ w w' hsz (hG j hj hjl) hb'
   ·intro j k b hj hk hjk hjl hkl hfj hfk hbj hbk
    by_cases hji : j = i
    ·subst hji
     have hkj : k ≠ j := Ne.symm hjk
     rw [getD_set_ne false hjk] at hkl
     simp only [upd, if_true] at hbj
     simp only [upd, hkj, if_false] at hbk
     have h2 := hfr hfj b hbj
     have h3 := blk k _ w b hfk (hG k hk hkl) hbk
     omega
    ·rw [getD_set_ne false (Ne.symm hji)] at hjl
     simp only [upd, hji, if_false] at hbj
     by_cases hki : k = i
     ·subst hki
      simp only [upd, if_true] at hbk
      have h2 := hfr hfk b hbk
      have h3 := blk j _ w b hfj (hG j hj hjl) hbj
      omega
     ·rw [getD_set_ne false (Ne.symm hki)] at hkl
      simp only [upd, hki, if_false] at hbk
      exact hD j k b hj hk hjk hjl hkl hfj hfk hbj hbk
 have h0 : laid ops (fun _ => undef) (Array.replicate ops.size false) (List.range ops.size) a0 = a0 := by
  have : ∀ (l : List Nat) (a : Act), laid ops (fun _ => undef) (Array.replicate ops.size false) l a = a := by
   intro l
   induction l with
   | nil => intro a; rfl
   | cons i l ih =>
    intro a
    simp only [laid]
    have hf : (Array.replicate ops.size false).getD i false = false := by
     by_cases h : i < ops.size <;> simp [h]
    rw [hf]
    simpa using ih a
  exact this _ _
 have := key ops.size (Array.replicate ops.size false) (fun _ => undef) { w0 with drawn := w0.drawn + 1 } (by unfold qz4c; simp) (by simp) ⟨rfl, rfl, rfl, Q6v _, fun _ _ => rfl⟩ (fun i hi h => by simp [hi] at h) (fun i j b hi hj hij h => by simp [hi] at h)
 rw [h0] at this
 exact this
theorem qz1s {P : Program} {op : Oper} {a : Act} {w : World} {K : Act -> World -> Prop} {Q : Exit -> Act -> World -> Prop} (ty : TypeId) (x : Operand) (ho : op.op = .load ty x)
  (b o : Nat) (hx : a.eval x = .pointer (some ⟨b, o, none⟩)) (cs : List Value) (d : TypeDesc) (hc : w.rangeAt b o cs)
  (hu : P.underlying ty = some d) (hd : d.isRow = true) (hi : (P.info? ty).map (·.size) = some cs.length)
  (h : K (a.put op.dst (.agg cs.toArray)) w) : op.wp P a w K Q := wp_load_mid ty x ho b o hx cs d hc hu hd hi h
theorem qz19 {P : Program} {op : Oper} {a : Act} {w : World} {K : Act -> World -> Prop} {Q : Exit -> Act -> World -> Prop} {f : FuncId} {args : Array Value} {R : Value -> World -> Prop}
  (he : (execOp a.eval op).run P w = .ok (.enter f args) w) (hc : Calls P f args w fun e w' => ∃ v, e = .returned v /\ R v w') (h : ∀ v w', R v w' -> K (a.put op.dst v) w') : op.wp P a w K Q := by
 unfold Oper.wp
 rw [he]
 simp only [Oper.upon]
 refine hc.mono ?_
 rintro e w' ⟨v, rfl, hR⟩
 exact h v w' hR
theorem qz1 {P : Program} {op : Oper} {a : Act} {w w' : World} {v : Value} {K : Act -> World -> Prop} {Q : Exit -> Act -> World -> Prop}
  (he : (execOp a.eval op).run P w = .ok (.value v) w') (h : K (a.put op.dst v) w') : op.wp P a w K Q := by
 unfold Oper.wp
 rw [he]
 exact h
end
section
theorem qz2j {P : Program} {ops : Array Oper} {Q : Exit -> Act -> World -> Prop} {l : List Oper} {a : Act} (w : World) (h : Hid (wpList P ops Q l a w)) : wpList P ops Q l a w := h
section
variable {P : Program} {ops : Array Oper} {md : Region.Mode} {C : World -> Prop}
def qzd0 (md : Region.Mode) (ops : Array Oper) : Nat -> Nat -> Nat -> Bool
 | 0, _, _ => false
 | f + 1, j, i => match ops[j]? with
  | some o => o.after.any fun e => Region.binds md e && (e.on == i || qzd0 md ops f e.on i)
  | none => false
def qzan (md : Region.Mode) (ops : Array Oper) (k : Nat) : Bool := (List.range ops.size).all fun j => decide (j < k) || (List.range k).all fun i => qzd0 md ops ops.size j i
def qzgj (md : Region.Mode) (ops : Array Oper) : Nat -> Nat -> Array Bool -> Bool
 | 0, _, _ => true
 | f + 1, k, listed => (Region.ready md ops listed).contains k && Region.free md ops listed k && qzgj md ops f (k + 1) (listed.setIfInBounds k true)
def qz3c : Nat -> Nat -> Array Bool -> Array Bool
 | 0, _, l => l
 | f + 1, k, l => qz3c f (k + 1) (l.setIfInBounds k true)
def qz4x (md : Region.Mode) (ops : Array Oper) : Nat -> Nat -> Array Bool -> Bool
 | 0, _, listed => (Region.ready md ops listed).isEmpty
 | f + 1, k, listed => (Region.ready md ops listed == [k]) && qz4x md ops f (k + 1) (listed.setIfInBounds k true)
def qzee (md : Region.Mode) (ops : Array Oper) (k m : Nat) : Bool :=
 (ops.size == k + m) && Region.noSelect ops && qzgj md ops k 0 (Array.replicate ops.size false) && qzan md ops k && qz4x md ops m k Q56
theorem qz28 : ∀ (f k : Nat) (l : Array Bool), (qz3c f k l).size = l.size
 | 0, _, _ => rfl
 | f + 1, k, l => by rw [qz3c, qz28 f (k + 1)]; simp
theorem qz2p : ∀ (f k : Nat) (l : Array Bool) (i : Nat), i < l.size -> (qz3c f k l).getD i false = if k <= i /\ i < k + f then true else l.getD i false
 | 0, k, l, i, h => by rw [if_neg (by omega)]; rfl
 | f + 1, k, l, i, h => by
  rw [qz3c, qz2p f (k + 1) _ i (by simpa using h)]
  by_cases e : k = i
  ·subst e
   rw [if_neg (by omega), if_pos (by omega)]
   simp [h]
  ·rw [getD_set_ne false e]
   by_cases c : k + 1 <= i /\ i < k + 1 + f
   ·rw [if_pos c, if_pos (by omega)]
   ·rw [if_neg c, if_neg (by omega)]
def qz4r (md : Region.Mode) (ops : Array Oper) (listed : Array Bool) : Prop := ∀ j o, ops[j]? = some o -> listed.getD j false = true -> ∀ e ∈ o.after, Region.binds md e = true -> listed.getD e.on false = true
theorem qz4r.set {listed : Array Bool} (hc : qz4r md ops listed) {j : Nat} (hj : j ∈ Region.ready md ops listed) : qz4r md ops (listed.setIfInBounds j true) := by
 intro i o ho hi e he hb
 by_cases hij : j = i
 ·subst hij
  obtain ⟨_, o', ho', hall⟩ := mem_ready.1 hj
  rw [ho] at ho'
  cases ho'
  exact getD_set_true (hall e he hb)
 ·rw [getD_set_ne false hij] at hi
  exact getD_set_true (hc i o ho hi e he hb)
theorem qz5d {listed : Array Bool} (hc : qz4r md ops listed) : ∀ (f j i : Nat), qzd0 md ops f j i = true -> (∀ o, ops[j]? = some o -> ∀ e ∈ o.after, Region.binds md e = true -> listed.getD e.on false = true) -> listed.getD i false = true
 | 0, j, i, h, _ => by cases h
 | f + 1, j, i, h, hall => by
  unfold qzd0 at h
  cases ho : ops[j]? with
  | none => rw [ho] at h; cases h
  | some o =>
   rw [ho] at h
   obtain ⟨e, he, hb⟩ := Array.any_eq_true'.1 h
   simp only [Bool.and_eq_true, Bool.or_eq_true, beq_iff_eq] at hb
   have h1 := hall o ho e he hb.1
   rcases hb.2 with h2 | h2
   ·rw [<- h2]; exact h1
   ·exact qz5d hc f e.on i h2 (fun o' ho' => hc e.on o' ho' h1)
theorem qz37 {k : Nat} {listed : Array Bool} (hw : qzan md ops k = true) (hc : qz4r md ops listed) {i j : Nat} (hi : i < k) (hu : listed.getD i true = false) (hj : j ∈ Region.ready md ops listed) : j < k := by
 rcases Nat.lt_or_ge j k with h | h
 ·exact h
 ·obtain ⟨_, o, ho, hall⟩ := mem_ready.1 hj
  have hjs : j < ops.size := (Array.getElem?_eq_some_iff.1 ho).1
  have h1 := (List.all_eq_true.1 hw) j (List.mem_range.2 hjs)
  simp only [Bool.or_eq_true, decide_eq_true_eq] at h1
  rcases h1 with h1 | h1
  ·exact h1
  ·have h2 := (List.all_eq_true.1 h1) i (List.mem_range.2 hi)
   have h3 := qz5d hc _ j i h2 (fun o' ho' => by rw [ho] at ho'; cases ho'; exact hall)
   rcases Nat.lt_or_ge i listed.size with h' | h'
   ·simp [h'] at hu h3; rw [hu] at h3; cases h3
   ·simp [Array.getElem?_eq_none h'] at hu
def qzdw (P : Program) (md : Region.Mode) (ops : Array Oper) (C : World -> Prop) (k : Nat) (Q : Act -> Prop) : Nat -> Array Bool -> Act -> Prop
 | 0, listed, a => (∀ i, i < k -> listed.getD i true = true) /\ Q a
 | f + 1, listed, a => (∃ i, i < k /\ i ∈ Region.ready md ops listed) /\ ∀ i ∈ Region.ready md ops listed, qOp P ops C i (qzdw P md ops C k Q f (listed.setIfInBounds i true)) a
theorem qzaj {k : Nat} {Q : Act -> Prop} {i : Nat} {oi : Oper} {v : Value} (hw : qzan md ops k = true) (hik : i < k) (hi : ops[i]? = some oi) (hsel : ∀ (j : Nat) (o : Oper) cs b, ops[j]? = some o -> o.op ≠ .select cs b) :
  ∀ (f : Nat) (listed : Array Bool) (a : Act), qz4r md ops listed ->
   (∀ j oj, ops[j]? = some oj -> j ≠ i -> listed.getD j true = false -> (∀ e ∈ oj.after, Region.binds md e = true -> e.on ≠ i) -> oi.apart ops oj = true) ->
   i ∈ Region.ready md ops listed -> YieldsIn P ops C oi v a ->
   qzdw P md ops C k Q f (listed.setIfInBounds i true) (a.put oi.dst v) -> qzdw P md ops C k Q (f + 1) listed a := by
 intro f
 induction f with
 | zero =>
  intro listed a hc _ hr hy H
  refine ⟨⟨i, hik, hr⟩, fun j hj => ?_⟩
  by_cases hji : j = i
  ·subst hji; exact hy.qOp hi H
  ·have hjk := qz37 hw hc hik (mem_ready.1 hr).1 hj
   have h1 := H.1 j hjk
   rw [getD_set_ne true (Ne.symm hji), (mem_ready.1 hj).1] at h1
   cases h1
 | succ f ih =>
  intro listed a hc hfree hr hy H
  refine ⟨⟨i, hik, hr⟩, fun j hj => ?_⟩
  by_cases hji : j = i
  ·subst hji; exact hy.qOp hi H
  ·have h1 := H.2 j (ready_mono hj hji)
   obtain ⟨hjun, oj, hoj, hall⟩ := mem_ready.1 hj
   have hnot : ∀ e ∈ oj.after, Region.binds md e = true -> e.on ≠ i := fun e he hb heq => by
    have h1 := hall e he hb
    have h0 := (mem_ready.1 hr).1
    rw [heq] at h1
    rcases Nat.lt_or_ge i listed.size with h' | h'
    ·simp [h'] at h0 h1; rw [h0] at h1; cases h1
    ·simp [Array.getElem?_eq_none h'] at h1
   have h2 := qOp_put hoj (hfree j oj hoj hji hjun hnot) (fun cs b => hsel i oi cs b hi) (fun cs b => hsel j oj cs b hoj) hy h1
   have hfree' : ∀ k ok, ops[k]? = some ok -> k ≠ i -> (listed.setIfInBounds j true).getD k true = false ->
     (∀ e ∈ ok.after, Region.binds md e = true -> e.on ≠ i) -> oi.apart ops ok = true := fun k ok hk hki hun hno => by
    refine hfree k ok hk hki ?_ hno
    by_cases hjk : j = k
    ·subst hjk; exact hjun
    ·rw [getD_set_ne true hjk] at hun; exact hun
   refine qOp_mono (fun a' h3 => ih (listed.setIfInBounds j true) a' (hc.set hj) hfree' (ready_mono hr (Ne.symm hji)) h3.1 ?_) h2
   rw [Array.setIfInBounds_comm _ _ hji]
   exact h3.2
theorem qz5k {k : Nat} {Q : Act -> Prop} (hw : qzan md ops k = true) (hs : Region.noSelect ops = true) : ∀ (l : List Oper) (n : Nat) (listed : Array Bool) (a : Act), n + l.length = k -> (∀ j, j < l.length -> l[j]? = ops[n + j]?) -> qz4r md ops listed -> (∀ i, i < n -> listed.getD i true = true) -> k <= listed.size ->
  qzgj md ops l.length n listed = true -> wpQuiet P ops C Q l a -> qzdw P md ops C k Q l.length listed a
 | [], n, listed, _, hn, _, _, hall, _, _, h => ⟨fun i hi => hall i (by simp at hn; omega), h⟩
 | o :: l, n, listed, a, hn, hl, hc, hall, hsz, hB, h => by
  have h0 : ops[n]? = some o := by simpa using (hl 0 (by simp)).symm
  simp only [List.length_cons, qzgj, Bool.and_eq_true] at hB
  obtain ⟨⟨hr, hf⟩, hB'⟩ := hB
  have hr' : n ∈ Region.ready md ops listed := by simpa using hr
  have hst : qOp P ops C n (wpQuiet P ops C Q l) a := by unfold qOp; simp only [h0]; exact h
  obtain ⟨v, hy, hK⟩ := yieldsIn_of_qOp h0 hst
  simp only [List.length_cons] at hn
  refine qzaj hw (by omega) h0 (Region.noSelect_spec hs) l.length listed a hc (Region.free_spec h0 hf) hr' hy ?_
  refine qz5k hw hs l (n + 1) _ _ (by omega) (fun j hj => by have := hl (j + 1) (by simp; omega); simpa [Nat.add_assoc, Nat.add_comm 1 j] using this) (hc.set hr') (fun i hi => ?_) (by simpa using hsz) hB' hK
  by_cases e : n = i
  ·subst e
   have : n < listed.size := by omega
   simp [this]
  ·rw [getD_set_ne true e]
   exact hall i (by omega)
theorem qz5t {k m : Nat} {Q : Act -> Prop} {Q' : Exit -> Act -> World -> Prop} (hw : qzan md ops k = true) (hkm : ops.size = k + m)
  (hQ : ∀ a w, C w -> Q a -> wpAny P md ops Q' m Q56 a w) : ∀ (f : Nat) (listed : Array Bool) (a : Act) (w : World), C w -> qz4r md ops listed -> listed.size = ops.size -> (∀ j, k <= j -> listed.getD j false = false) ->
  qzdw P md ops C k Q f listed a -> wpAny P md ops Q' (f + m) listed a w
 | 0, listed, a, w, hC, _, hsz, htail, h => by
  have e : listed = qz3c k 0 (Array.replicate ops.size false) := by
   apply Array.ext
   ·rw [qz28, hsz]; simp
   ·intro i h1 h2
    have g := qz2p k 0 (Array.replicate ops.size false) i (by simp; omega)
    have g1 : Q56[i] = (Q56).getD i false := by simp [h2]
    have g2 : listed[i] = listed.getD i false := by simp [h1]
    rw [g1, g2, g]
    by_cases c : i < k
    ·rw [if_pos (by omega)]
     have := h.1 i c
     simpa [h1] using this
    ·have hio : i < ops.size := by omega
     rw [if_neg (by omega), htail i (by omega)]
     simp [hio]
  rw [e, Nat.zero_add]
  exact hQ a w hC h.2
 | f + 1, listed, a, w, hC, hc, hsz, htail, h => by
  obtain ⟨⟨i0, hi0, hr0⟩, hall⟩ := h
  rw [show f + 1 + m = (f + m) + 1 by omega]
  refine ⟨fun h0 => (by rw [h0] at hr0; cases hr0), fun i hi => ?_⟩
  have hik := qz37 hw hc hi0 (mem_ready.1 hr0).1 hi
  refine wpOp_of_qOp hC (fun a' w' hC' hT => qz5t hw hkm hQ f _ a' w' hC' (hc.set hi) (by simpa using hsz) (fun j hj => ?_) hT) (hall i hi)
  rw [getD_set_ne false (by omega)]
  exact htail j hj
theorem qz6c {Q : Exit -> Act -> World -> Prop} : ∀ (l : List Oper) (n : Nat) (listed : Array Bool) (a : Act) (w : World), (∀ j, l[j]? = ops[n + j]?) -> qz4x md ops l.length n listed = true -> wpList P ops Q l a w -> wpAny P md ops Q l.length listed a w
 | [], _, listed, a, w, _, hB, h => ⟨by simpa [qz4x] using hB, h⟩
 | o :: l, n, listed, a, w, hl, hB, h => by
  have h0 : ops[n]? = some o := by simpa using (hl 0).symm
  simp only [List.length_cons, qz4x, Bool.and_eq_true] at hB
  obtain ⟨hr, hB'⟩ := hB
  have hr' : Region.ready md ops listed = [n] := by simpa using hr
  have ih := fun a w => qz6c (Q := Q) l (n + 1) (listed.setIfInBounds n true) a w (fun j => by have := hl (j + 1); simpa [Nat.add_assoc, Nat.add_comm 1 j] using this) hB'
  refine wpAny_all hr' (by simp) (fun i hi => ?_)
  obtain rfl := List.mem_singleton.1 hi
  unfold wpOp
  unfold wpList at h
  simp only [h0]
  split
  ·rename_i hwd
   rw [if_pos hwd] at h
   rcases h with h | h
   ·exact .inl (Oper.wp_mono ih h)
   ·exact .inr h
  ·rename_i hwd
   rw [if_neg hwd] at h
   exact ih _ _ h
theorem qz36 {id : Nat} {Q : Exit -> Act -> World -> Prop} {a : Act} {w : World} {l : List Oper} (k : Nat) (hm : P.follows .mixedOrders = true) (hB : qzee .any l.toArray k (l.length - k) = true)
  (h : wpQuiet P l.toArray (fun w' => ∃ n, w' = w.drewN n) (fun a' => ∀ w', (∃ n, w' = w.drewN n) -> wpList P l.toArray Q (l.drop k) a' w') (l.take k) a) : (Code.region id l.toArray true).wp P Q a w := by
 simp only [qzee, Bool.and_eq_true, beq_iff_eq] at hB
 obtain ⟨⟨⟨⟨hkm, hs⟩, hlex⟩, hw⟩, hseq⟩ := hB
 have hkl : k <= l.length := by simp at hkm; omega
 have hsz : Q70 = l.length := by simp
 refine wp_region_any hm ?_
 have hc0 : qz4r .any l.toArray (Array.replicate Q70 false) := by
  intro j o ho hj
  exfalso
  rcases Nat.lt_or_ge j Q70 with h' | h'
  ·simp at h'; simp [h'] at hj
  ·simp at h'; simp [h'] at hj
 have hT := qz5k (P := P) (md := .any) (C := fun w' => ∃ n, w' = w.drewN n) (Q := fun a' => ∀ w', (∃ n, w' = w.drewN n) -> wpList P l.toArray Q (l.drop k) a' w') hw hs (l.take k) 0 (Array.replicate Q70 false) a (by simp; omega) (fun j hj => by simp at hj; simp [hj]) hc0 (fun i hi => by omega) (by simp; omega) (by simpa [Nat.min_eq_left hkl] using hlex) h
 have hfin := qz5t (P := P) (md := .any) (Q' := Q) hw hkm (fun a' w' hC hq => by
  have := qz6c (P := P) (md := .any) (Q := Q) (l.drop k) k Q15 a' w' (fun j => by simp) (by simpa using hseq) (hq w' hC)
  simpa using this) (l.take k).length (Array.replicate Q70 false) a { w with drawn := w.drawn + 1 } ⟨1, rfl⟩ hc0 (by simp) (fun j _ => by
   rcases Nat.lt_or_ge j Q70 with h' | h'
   ·simp at h'; simp [h']
   ·simp at h'; simp [h']) hT
 rw [show (l.take k).length + (l.length - k) = l.toArray.size by simp; omega] at hfin
 exact hfin
theorem qz4b {Q : Act -> Prop} {a : Act} {o : Oper} {rest : List Oper} (hw : Region.wanted o (yielded ops a.tmps) = true) (ty : TypeId) (x : Operand) (ho : o.op = .load ty x)
  (b f : Nat) (hx : a.eval x = .pointer (some ⟨b, f, none⟩)) (cs : List Value) (d : TypeDesc) (hc : ∀ w, C w -> w.rangeAt b f cs)
  (hu : P.underlying ty = some d) (hd : d.isRow = true) (hi : (P.info? ty).map (·.size) = some cs.length)
  (h : wpQuiet P ops C Q rest (a.put o.dst (.agg cs.toArray))) : wpQuiet P ops C Q (o :: rest) a := by
 refine wpQuiet_step fun K hK => ?_
 rw [if_pos hw]
 refine ⟨.agg cs.toArray, fun w hw => ?_, hK _ h⟩
 unfold Oper.quietAt execOp
 simp only [ho, hx, Instr.loadAt, Instr.sureAddr, Sem.run_bind, Sem.run_pure, Result.andThen_ok, run_loadVar_mid w b f ty cs d (hc w hw) hu hd hi]
 exact ⟨rfl, rfl⟩
theorem qz16 {Q : Act -> Prop} {a : Act} {o : Oper} {rest : List Oper} (hgd : o.guard = none) (ty : TypeId) (x : Operand) (ho : o.op = .load ty x)
  (b f : Nat) (hx : a.eval x = .pointer (some ⟨b, f, none⟩)) (cs : List Value) (d : TypeDesc) (hc : ∀ w, C w -> w.rangeAt b f cs)
  (hu : P.underlying ty = some d) (hd : d.isRow = true) (hi : (P.info? ty).map (·.size) = some cs.length)
  (h : wpQuiet P ops C Q rest (a.put o.dst (.agg cs.toArray))) : wpQuiet P ops C Q (o :: rest) a :=
 qz4b (by simp [Region.wanted, hgd]) ty x ho b f hx cs d hc hu hd hi h
end
end
end Go.Proofs.YthjkdnlmopafkaaGreatDoor
