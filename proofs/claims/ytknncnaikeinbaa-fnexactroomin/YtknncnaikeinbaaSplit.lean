/-
  A region of which Go leaves the order open, whose first operations only read and whose last ones wait for all of them: the first ones are walked once, in the order of the text, then the last ones as in a region whose order is fixed. A law of the walk.
-/
import Derived.Test.YtknncnaikeinbaaCore
import Derived.Deep.Quiet
import Derived.Deep.QuietTactic
import Derived.Deep.MidRow
namespace Go.Proofs.Ytknncnaikeinbaa
open Go.ChangeShapes Go.WideShapes Go.ChangeAt Go.RowKit
set_option linter.unusedVariables false

/-- The walk is held where the world is w: 'go_wp2_with (clear tok; refine stopAt w ?_)', then 'show wpList _ _ _ _ _ w'. -/
theorem stopAt {P : Program} {ops : Array Oper} {Q : Exit → Act → World → Prop} {l : List Oper} {a : Act} (w : World) (h : Hid (wpList P ops Q l a w)) : wpList P ops Q l a w := h

section
variable {P : Program} {ops : Array Oper} {md : Region.Mode} {C : World → Prop}

/-- Does operation j wait for operation i, by way of others? -/
def reachB (md : Region.Mode) (ops : Array Oper) : Nat → Nat → Nat → Bool
  | 0, _, _ => false
  | f + 1, j, i => match ops[j]? with
    | some o => o.after.any fun e => Region.binds md e && (e.on == i || reachB md ops f e.on i)
    | none => false
def waitsB (md : Region.Mode) (ops : Array Oper) (k : Nat) : Bool := (List.range ops.size).all fun j => decide (j < k) || (List.range k).all fun i => reachB md ops ops.size j i
def lexTo (md : Region.Mode) (ops : Array Oper) : Nat → Nat → Array Bool → Bool
  | 0, _, _ => true
  | f + 1, k, listed => (Region.ready md ops listed).contains k && Region.free md ops listed k && lexTo md ops f (k + 1) (listed.setIfInBounds k true)
def setTo : Nat → Nat → Array Bool → Array Bool
  | 0, _, l => l
  | f + 1, k, l => setTo f (k + 1) (l.setIfInBounds k true)
def seqFrom (md : Region.Mode) (ops : Array Oper) : Nat → Nat → Array Bool → Bool
  | 0, _, listed => (Region.ready md ops listed).isEmpty
  | f + 1, k, listed => (Region.ready md ops listed == [k]) && seqFrom md ops f (k + 1) (listed.setIfInBounds k true)
def splitB (md : Region.Mode) (ops : Array Oper) (k m : Nat) : Bool :=
  (ops.size == k + m) && Region.noSelect ops && lexTo md ops k 0 (Array.replicate ops.size false) && waitsB md ops k && seqFrom md ops m k (setTo k 0 (Array.replicate ops.size false))

theorem setTo_size : ∀ (f k : Nat) (l : Array Bool), (setTo f k l).size = l.size
  | 0, _, _ => rfl
  | f + 1, k, l => by rw [setTo, setTo_size f (k + 1)]; simp
theorem setTo_get : ∀ (f k : Nat) (l : Array Bool) (i : Nat), i < l.size → (setTo f k l).getD i false = if k ≤ i ∧ i < k + f then true else l.getD i false
  | 0, k, l, i, h => by rw [if_neg (by omega)]; rfl
  | f + 1, k, l, i, h => by
    rw [setTo, setTo_get f (k + 1) _ i (by simpa using h)]
    by_cases e : k = i
    · subst e
      rw [if_neg (by omega), if_pos (by omega)]
      simp [h]
    · rw [getD_set_ne false e]
      by_cases c : k + 1 ≤ i ∧ i < k + 1 + f
      · rw [if_pos c, if_pos (by omega)]
      · rw [if_neg c, if_neg (by omega)]

/-- What has come up, all that it waits for has. -/
def Closed (md : Region.Mode) (ops : Array Oper) (listed : Array Bool) : Prop := ∀ j o, ops[j]? = some o → listed.getD j false = true → ∀ e ∈ o.after, Region.binds md e = true → listed.getD e.on false = true
theorem Closed.set {listed : Array Bool} (hc : Closed md ops listed) {j : Nat} (hj : j ∈ Region.ready md ops listed) : Closed md ops (listed.setIfInBounds j true) := by
  intro i o ho hi e he hb
  by_cases hij : j = i
  · subst hij
    obtain ⟨_, o', ho', hall⟩ := mem_ready.1 hj
    rw [ho] at ho'
    cases ho'
    exact getD_set_true (hall e he hb)
  · rw [getD_set_ne false hij] at hi
    exact getD_set_true (hc i o ho hi e he hb)
theorem reach_listed {listed : Array Bool} (hc : Closed md ops listed) : ∀ (f j i : Nat), reachB md ops f j i = true → (∀ o, ops[j]? = some o → ∀ e ∈ o.after, Region.binds md e = true → listed.getD e.on false = true) → listed.getD i false = true
  | 0, j, i, h, _ => by cases h
  | f + 1, j, i, h, hall => by
    unfold reachB at h
    cases ho : ops[j]? with
    | none => rw [ho] at h; cases h
    | some o =>
      rw [ho] at h
      obtain ⟨e, he, hb⟩ := Array.any_eq_true'.1 h
      simp only [Bool.and_eq_true, Bool.or_eq_true, beq_iff_eq] at hb
      have h1 := hall o ho e he hb.1
      rcases hb.2 with h2 | h2
      · rw [← h2]; exact h1
      · exact reach_listed hc f e.on i h2 (fun o' ho' => hc e.on o' ho' h1)
theorem ready_prefix {k : Nat} {listed : Array Bool} (hw : waitsB md ops k = true) (hc : Closed md ops listed) {i j : Nat} (hi : i < k) (hu : listed.getD i true = false) (hj : j ∈ Region.ready md ops listed) : j < k := by
  rcases Nat.lt_or_ge j k with h | h
  · exact h
  · obtain ⟨_, o, ho, hall⟩ := mem_ready.1 hj
    have hjs : j < ops.size := (Array.getElem?_eq_some_iff.1 ho).1
    have h1 := (List.all_eq_true.1 hw) j (List.mem_range.2 hjs)
    simp only [Bool.or_eq_true, decide_eq_true_eq] at h1
    rcases h1 with h1 | h1
    · exact h1
    · have h2 := (List.all_eq_true.1 h1) i (List.mem_range.2 hi)
      have h3 := reach_listed hc _ j i h2 (fun o' ho' => by rw [ho] at ho'; cases ho'; exact hall)
      rcases Nat.lt_or_ge i listed.size with h' | h'
      · simp [h'] at hu h3; rw [hu] at h3; cases h3
      · simp [Array.getElem?_eq_none h'] at hu

/-- Whatever order is picked among the first k, till they have all come up. -/
def wpAnyT (P : Program) (md : Region.Mode) (ops : Array Oper) (C : World → Prop) (k : Nat) (Q : Act → Prop) : Nat → Array Bool → Act → Prop
  | 0, listed, a => (∀ i, i < k → listed.getD i true = true) ∧ Q a
  | f + 1, listed, a => (∃ i, i < k ∧ i ∈ Region.ready md ops listed) ∧ ∀ i ∈ Region.ready md ops listed, qOp P ops C i (wpAnyT P md ops C k Q f (listed.setIfInBounds i true)) a

theorem wpAnyT_first {k : Nat} {Q : Act → Prop} {i : Nat} {oi : Oper} {v : Value} (hw : waitsB md ops k = true) (hik : i < k) (hi : ops[i]? = some oi) (hsel : ∀ (j : Nat) (o : Oper) cs b, ops[j]? = some o → o.op ≠ .select cs b) :
    ∀ (f : Nat) (listed : Array Bool) (a : Act), Closed md ops listed →
      (∀ j oj, ops[j]? = some oj → j ≠ i → listed.getD j true = false → (∀ e ∈ oj.after, Region.binds md e = true → e.on ≠ i) → oi.apart ops oj = true) →
      i ∈ Region.ready md ops listed → YieldsIn P ops C oi v a →
      wpAnyT P md ops C k Q f (listed.setIfInBounds i true) (a.put oi.dst v) → wpAnyT P md ops C k Q (f + 1) listed a := by
  intro f
  induction f with
  | zero =>
    intro listed a hc _ hr hy H
    refine ⟨⟨i, hik, hr⟩, fun j hj => ?_⟩
    by_cases hji : j = i
    · subst hji; exact hy.qOp hi H
    · have hjk := ready_prefix hw hc hik (mem_ready.1 hr).1 hj
      have h1 := H.1 j hjk
      rw [getD_set_ne true (Ne.symm hji), (mem_ready.1 hj).1] at h1
      cases h1
  | succ f ih =>
    intro listed a hc hfree hr hy H
    refine ⟨⟨i, hik, hr⟩, fun j hj => ?_⟩
    by_cases hji : j = i
    · subst hji; exact hy.qOp hi H
    · have h1 := H.2 j (ready_mono hj hji)
      obtain ⟨hjun, oj, hoj, hall⟩ := mem_ready.1 hj
      have hnot : ∀ e ∈ oj.after, Region.binds md e = true → e.on ≠ i := fun e he hb heq => by
        have h1 := hall e he hb
        have h0 := (mem_ready.1 hr).1
        rw [heq] at h1
        rcases Nat.lt_or_ge i listed.size with h' | h'
        · simp [h'] at h0 h1; rw [h0] at h1; cases h1
        · simp [Array.getElem?_eq_none h'] at h1
      have h2 := qOp_put hoj (hfree j oj hoj hji hjun hnot) (fun cs b => hsel i oi cs b hi) (fun cs b => hsel j oj cs b hoj) hy h1
      have hfree' : ∀ k ok, ops[k]? = some ok → k ≠ i → (listed.setIfInBounds j true).getD k true = false →
          (∀ e ∈ ok.after, Region.binds md e = true → e.on ≠ i) → oi.apart ops ok = true := fun k ok hk hki hun hno => by
        refine hfree k ok hk hki ?_ hno
        by_cases hjk : j = k
        · subst hjk; exact hjun
        · rw [getD_set_ne true hjk] at hun; exact hun
      refine qOp_mono (fun a' h3 => ih (listed.setIfInBounds j true) a' (hc.set hj) hfree' (ready_mono hr (Ne.symm hji)) h3.1 ?_) h2
      rw [Array.setIfInBounds_comm _ _ hji]
      exact h3.2

theorem wpAnyT_lex {k : Nat} {Q : Act → Prop} (hw : waitsB md ops k = true) (hs : Region.noSelect ops = true) : ∀ (l : List Oper) (n : Nat) (listed : Array Bool) (a : Act), n + l.length = k → (∀ j, j < l.length → l[j]? = ops[n + j]?) → Closed md ops listed → (∀ i, i < n → listed.getD i true = true) → k ≤ listed.size →
    lexTo md ops l.length n listed = true → wpQuiet P ops C Q l a → wpAnyT P md ops C k Q l.length listed a
  | [], n, listed, _, hn, _, _, hall, _, _, h => ⟨fun i hi => hall i (by simp at hn; omega), h⟩
  | o :: l, n, listed, a, hn, hl, hc, hall, hsz, hB, h => by
    have h0 : ops[n]? = some o := by simpa using (hl 0 (by simp)).symm
    simp only [List.length_cons, lexTo, Bool.and_eq_true] at hB
    obtain ⟨⟨hr, hf⟩, hB'⟩ := hB
    have hr' : n ∈ Region.ready md ops listed := by simpa using hr
    have hst : qOp P ops C n (wpQuiet P ops C Q l) a := by unfold qOp; simp only [h0]; exact h
    obtain ⟨v, hy, hK⟩ := yieldsIn_of_qOp h0 hst
    simp only [List.length_cons] at hn
    refine wpAnyT_first hw (by omega) h0 (Region.noSelect_spec hs) l.length listed a hc (Region.free_spec h0 hf) hr' hy ?_
    refine wpAnyT_lex hw hs l (n + 1) _ _ (by omega) (fun j hj => by have := hl (j + 1) (by simp; omega); simpa [Nat.add_assoc, Nat.add_comm 1 j] using this) (hc.set hr') (fun i hi => ?_) (by simpa using hsz) hB' hK
    by_cases e : n = i
    · subst e
      have : n < listed.size := by omega
      simp [this]
    · rw [getD_set_ne true e]
      exact hall i (by omega)

theorem wpAny_of_T {k m : Nat} {Q : Act → Prop} {Q' : Exit → Act → World → Prop} (hw : waitsB md ops k = true) (hkm : ops.size = k + m)
    (hQ : ∀ a w, C w → Q a → wpAny P md ops Q' m (setTo k 0 (Array.replicate ops.size false)) a w) : ∀ (f : Nat) (listed : Array Bool) (a : Act) (w : World), C w → Closed md ops listed → listed.size = ops.size → (∀ j, k ≤ j → listed.getD j false = false) →
    wpAnyT P md ops C k Q f listed a → wpAny P md ops Q' (f + m) listed a w
  | 0, listed, a, w, hC, _, hsz, htail, h => by
    have e : listed = setTo k 0 (Array.replicate ops.size false) := by
      apply Array.ext
      · rw [setTo_size, hsz]; simp
      · intro i h1 h2
        have g := setTo_get k 0 (Array.replicate ops.size false) i (by simp; omega)
        have g1 : (setTo k 0 (Array.replicate ops.size false))[i] = (setTo k 0 (Array.replicate ops.size false)).getD i false := by simp [h2]
        have g2 : listed[i] = listed.getD i false := by simp [h1]
        rw [g1, g2, g]
        by_cases c : i < k
        · rw [if_pos (by omega)]
          have := h.1 i c
          simpa [h1] using this
        · have hio : i < ops.size := by omega
          rw [if_neg (by omega), htail i (by omega)]
          simp [hio]
    rw [e, Nat.zero_add]
    exact hQ a w hC h.2
  | f + 1, listed, a, w, hC, hc, hsz, htail, h => by
    obtain ⟨⟨i0, hi0, hr0⟩, hall⟩ := h
    rw [show f + 1 + m = (f + m) + 1 by omega]
    refine ⟨fun h0 => (by rw [h0] at hr0; cases hr0), fun i hi => ?_⟩
    have hik := ready_prefix hw hc hi0 (mem_ready.1 hr0).1 hi
    refine wpOp_of_qOp hC (fun a' w' hC' hT => wpAny_of_T hw hkm hQ f _ a' w' hC' (hc.set hi) (by simpa using hsz) (fun j hj => ?_) hT) (hall i hi)
    rw [getD_set_ne false (by omega)]
    exact htail j hj

theorem wpAny_seq {Q : Exit → Act → World → Prop} : ∀ (l : List Oper) (n : Nat) (listed : Array Bool) (a : Act) (w : World), (∀ j, l[j]? = ops[n + j]?) → seqFrom md ops l.length n listed = true → wpList P ops Q l a w → wpAny P md ops Q l.length listed a w
  | [], _, listed, a, w, _, hB, h => ⟨by simpa [seqFrom] using hB, h⟩
  | o :: l, n, listed, a, w, hl, hB, h => by
    have h0 : ops[n]? = some o := by simpa using (hl 0).symm
    simp only [List.length_cons, seqFrom, Bool.and_eq_true] at hB
    obtain ⟨hr, hB'⟩ := hB
    have hr' : Region.ready md ops listed = [n] := by simpa using hr
    have ih := fun a w => wpAny_seq (Q := Q) l (n + 1) (listed.setIfInBounds n true) a w (fun j => by have := hl (j + 1); simpa [Nat.add_assoc, Nat.add_comm 1 j] using this) hB'
    refine wpAny_all hr' (by simp) (fun i hi => ?_)
    obtain rfl := List.mem_singleton.1 hi
    unfold wpOp
    unfold wpList at h
    simp only [h0]
    split
    · rename_i hwd
      rw [if_pos hwd] at h
      rcases h with h | h
      · exact .inl (Oper.wp_mono ih h)
      · exact .inr h
    · rename_i hwd
      rw [if_neg hwd] at h
      exact ih _ _ h

/-- The first operations (l₁) are walked once, each quiet; then the others (l₂) in their order. -/
theorem wp_region_split {id : Nat} {Q : Exit → Act → World → Prop} {a : Act} {w : World} {l : List Oper} (k : Nat) (hm : P.follows .mixedOrders = true) (hB : splitB .any l.toArray k (l.length - k) = true)
    (h : wpQuiet P l.toArray (fun w' => ∃ n, w' = w.drewN n) (fun a' => ∀ w', (∃ n, w' = w.drewN n) → wpList P l.toArray Q (l.drop k) a' w') (l.take k) a) : (Code.region id l.toArray true).wp P Q a w := by
  simp only [splitB, Bool.and_eq_true, beq_iff_eq] at hB
  obtain ⟨⟨⟨⟨hkm, hs⟩, hlex⟩, hw⟩, hseq⟩ := hB
  have hkl : k ≤ l.length := by simp at hkm; omega
  have hsz : l.toArray.size = l.length := by simp
  refine wp_region_any hm ?_
  have hc0 : Closed .any l.toArray (Array.replicate l.toArray.size false) := by
    intro j o ho hj
    exfalso
    rcases Nat.lt_or_ge j l.toArray.size with h' | h'
    · simp at h'; simp [h'] at hj
    · simp at h'; simp [h'] at hj
  have hT := wpAnyT_lex (P := P) (md := .any) (C := fun w' => ∃ n, w' = w.drewN n) (Q := fun a' => ∀ w', (∃ n, w' = w.drewN n) → wpList P l.toArray Q (l.drop k) a' w') hw hs (l.take k) 0 (Array.replicate l.toArray.size false) a (by simp; omega) (fun j hj => by simp at hj; simp [hj]) hc0 (fun i hi => by omega) (by simp; omega) (by simpa [Nat.min_eq_left hkl] using hlex) h
  have hfin := wpAny_of_T (P := P) (md := .any) (Q' := Q) hw hkm (fun a' w' hC hq => by
    have := wpAny_seq (P := P) (md := .any) (Q := Q) (l.drop k) k (setTo k 0 (Array.replicate l.toArray.size false)) a' w' (fun j => by simp) (by simpa using hseq) (hq w' hC)
    simpa using this) (l.take k).length (Array.replicate l.toArray.size false) a { w with drawn := w.drawn + 1 } ⟨1, rfl⟩ hc0 (by simp) (fun j _ => by
      rcases Nat.lt_or_ge j l.toArray.size with h' | h'
      · simp at h'; simp [h']
      · simp at h'; simp [h']) hT
  rw [show (l.take k).length + (l.length - k) = l.toArray.size by simp; omega] at hfin
  exact hfin

/-- A load of a row among the first operations. -/
theorem wpQuiet_load_wanted {Q : Act → Prop} {a : Act} {o : Oper} {rest : List Oper} (hw : Region.wanted o (yielded ops a.tmps) = true) (ty : TypeId) (x : Operand) (ho : o.op = .load ty x)
    (b f : Nat) (hx : a.eval x = .pointer (some ⟨b, f, none⟩)) (cs : List Value) (d : TypeDesc) (hc : ∀ w, C w → w.rangeAt b f cs)
    (hu : P.underlying ty = some d) (hd : d.isRow = true) (hi : (P.info? ty).map (·.size) = some cs.length)
    (h : wpQuiet P ops C Q rest (a.put o.dst (.agg cs.toArray))) : wpQuiet P ops C Q (o :: rest) a := by
  refine wpQuiet_step fun K hK => ?_
  rw [if_pos hw]
  refine ⟨.agg cs.toArray, fun w hw => ?_, hK _ h⟩
  unfold Oper.quietAt execOp
  simp only [ho, hx, Instr.loadAt, Instr.sureAddr, Sem.run_bind, Sem.run_pure, Result.andThen_ok, run_loadVar_mid w b f ty cs d (hc w hw) hu hd hi]
  exact ⟨rfl, rfl⟩
theorem wpQuiet_load_mid {Q : Act → Prop} {a : Act} {o : Oper} {rest : List Oper} (hgd : o.guard = none) (ty : TypeId) (x : Operand) (ho : o.op = .load ty x)
    (b f : Nat) (hx : a.eval x = .pointer (some ⟨b, f, none⟩)) (cs : List Value) (d : TypeDesc) (hc : ∀ w, C w → w.rangeAt b f cs)
    (hu : P.underlying ty = some d) (hd : d.isRow = true) (hi : (P.info? ty).map (·.size) = some cs.length)
    (h : wpQuiet P ops C Q rest (a.put o.dst (.agg cs.toArray))) : wpQuiet P ops C Q (o :: rest) a :=
  wpQuiet_load_wanted (by simp [Region.wanted, hgd]) ty x ho b f hx cs d hc hu hd hi h

end

end Go.Proofs.Ytknncnaikeinbaa
