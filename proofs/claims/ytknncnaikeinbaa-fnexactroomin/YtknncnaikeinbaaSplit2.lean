/-
  'x.f, n = g(..)': a region of which Go leaves the order open: its first operations only read, then comes a call that hands back two values, which are taken apart in whatever order, then the rest in its order. A law of the walk.
-/
import Derived.Test.YtknncnaikeinbaaSplit
import Derived.Test.YtknncnaikeinbaaAnyOrder
namespace Go.Proofs.Ytknncnaikeinbaa
open Go.ChangeShapes Go.WideShapes Go.ChangeAt Go.RowKit
set_option linter.unusedVariables false

section
variable {P : Program}
/-- The listed bools behind the first m. -/
def upTo (ops : Array Oper) (m : Nat) : Array Bool := setTo m 0 (Array.replicate ops.size false)
theorem setTo_set : ∀ (f k : Nat) (l : Array Bool), (setTo f k l).setIfInBounds (k + f) true = setTo (f + 1) k l
  | 0, k, l => by simp [setTo]
  | f + 1, k, l => by
    rw [setTo, show k + (f + 1) = (k + 1) + f by omega, setTo_set f (k + 1)]
    rfl
theorem upTo_set (ops : Array Oper) (m : Nat) : (upTo ops m).setIfInBounds m true = upTo ops (m + 1) := by
  have := setTo_set m 0 (Array.replicate ops.size false)
  rw [Nat.zero_add] at this
  exact this
def call2B (ops : Array Oper) (k : Nat) : Bool :=
  decide (k + 4 ≤ ops.size) && Region.noSelect ops && lexTo .any ops k 0 (Array.replicate ops.size false) && waitsB .any ops k &&
    (Region.ready .any ops (upTo ops k) == [k]) && (Region.ready .any ops (upTo ops (k + 1)) == [k + 1]) &&
    ((Region.ready .any ops (upTo ops (k + 2))).contains (k + 2) && Region.free .any ops (upTo ops (k + 2)) (k + 2)) &&
    ((Region.ready .any ops (upTo ops (k + 3))).contains (k + 3) && Region.free .any ops (upTo ops (k + 3)) (k + 3)) &&
    seqFrom .any ops (ops.size - (k + 4)) (k + 4) (upTo ops (k + 4))
theorem run_extract2 (v : Value) (ix : Nat) (v1 v2 : Value) (hv : v = .tuple #[v1, v2]) (o : Oper) (ev : Operand → Value) (x : Operand) (ho : o.op = .extract x ix) (hx : ev x = v) (hi : ix < 2) (w : World) : (execOp ev o).run P w = .ok (.value (if ix = 0 then v1 else v2)) w := by
  subst hv
  rcases (show ix = 0 ∨ ix = 1 by omega) with rfl | rfl <;> simp [execOp, ho, hx, go_sem]
theorem run_move (o : Oper) (ev : Operand → Value) (x : Operand) (ho : o.op = .move x) (w : World) : (execOp ev o).run P w = .ok (.value (ev x)) w := by
  simp [execOp, ho, go_sem]
end

theorem wp_region_call2 {P : Program} {id : Nat} {Q : Exit → Act → World → Prop} {a : Act} {w : World} {l : List Oper} (k : Nat) (hm : P.follows .mixedOrders = true) (hB : call2B l.toArray k = true)
    (o0 o1 o2 o3 : Oper) (h0 : l[k]? = some o0) (h1 : l[k + 1]? = some o1) (h2 : l[k + 2]? = some o2) (h3 : l[k + 3]? = some o3) (d0 d1 : Tmp) (d2 d3 : Option Tmp)
    (e0 : o0.dst = some d0) (e1 : o1.dst = some d1) (e2 : o2.dst = d2) (e3 : o3.dst = d3) (g0 : o0.guard = none) (g1 : o1.guard = none) (g2 : o2.guard = none) (g3 : o3.guard = none)
    (p1 : o1.op = .move (.tmp d0)) (p2 : o2.op = .extract (.tmp d1) 0) (p3 : o3.op = .extract (.tmp d1) 1) (hd2 : d2 ≠ some d1)
    (hQ2 : ∀ c (a : Act) v w, Q (.panic c) (a.put d2 v) w → Q (.panic c) a w) (hQ3 : ∀ c (a : Act) v w, Q (.panic c) (a.put d3 v) w → Q (.panic c) a w)
    (h : wpQuiet P l.toArray (fun w' => ∃ n, w' = w.drewN n) (fun a' => ∀ w', (∃ n, w' = w.drewN n) → d0 < a'.tmps.size ∧ d1 < a'.tmps.size ∧ ∃ f args, (execOp a'.eval o0).run P w' = .ok (.enter f args) w' ∧
      Calls P f args w' fun e w'' => ∃ v1 v2, e = .returned (.tuple #[v1, v2]) ∧ wpList P l.toArray Q (l.drop (k + 4)) ((((a'.put (some d0) (.tuple #[v1, v2])).put (some d1) (.tuple #[v1, v2])).put d2 v1).put d3 v2) w'') (l.take k) a) : (Code.region id l.toArray true).wp P Q a w := by
  simp only [call2B, Bool.and_eq_true, decide_eq_true_eq, beq_iff_eq] at hB
  obtain ⟨⟨⟨⟨⟨⟨⟨⟨hk4, hs⟩, hlex⟩, hw⟩, r0⟩, r1⟩, r2⟩, r3⟩, hseq⟩ := hB
  have hsz : l.toArray.size = l.length := by simp
  rw [hsz] at hk4
  refine wp_region_any hm ?_
  have hc0 : Closed .any l.toArray (Array.replicate l.toArray.size false) := by
    intro j o ho hj
    exfalso
    rcases Nat.lt_or_ge j l.toArray.size with h' | h'
    · simp at h'; simp [h'] at hj
    · simp at h'; simp [h'] at hj
  have hT := wpAnyT_lex (P := P) (md := .any) (C := fun w' => ∃ n, w' = w.drewN n) (Q := fun a' => ∀ w', (∃ n, w' = w.drewN n) → d0 < a'.tmps.size ∧ d1 < a'.tmps.size ∧ ∃ f args, (execOp a'.eval o0).run P w' = .ok (.enter f args) w' ∧
      Calls P f args w' fun e w'' => ∃ v1 v2, e = .returned (.tuple #[v1, v2]) ∧ wpList P l.toArray Q (l.drop (k + 4)) ((((a'.put (some d0) (.tuple #[v1, v2])).put (some d1) (.tuple #[v1, v2])).put d2 v1).put d3 v2) w'') hw hs (l.take k) 0 (Array.replicate l.toArray.size false) a (by simp; omega) (fun j hj => by simp at hj; simp [hj]) hc0 (fun i hi => by omega) (by simp; omega) (by simpa [Nat.min_eq_left (show k ≤ l.length by omega)] using hlex) h
  have hfin := wpAny_of_T (P := P) (md := .any) (Q' := Q) (m := l.length - k) hw (by rw [hsz]; omega) (fun a' w' hC hq => by
    obtain ⟨s0, s1, f, args, hrun, hcall⟩ := hq w' hC
    rw [show l.length - k = ((((l.length - (k + 4)) + 1) + 1) + 1) + 1 by omega]
    have hwant : ∀ (o : Oper) (b : Act), o.guard = none → Region.wanted o (yielded l.toArray b.tmps) = true := fun o b hg => by simp [Region.wanted, hg]
    refine wpAny_all (rs := [k]) r0 (by simp) (fun i hi => ?_)
    obtain rfl := List.mem_singleton.1 hi
    have h0' : l.toArray[i]? = some o0 := by simpa using h0
    unfold wpOp
    simp only [h0', hwant o0 a' g0, if_true]
    refine Or.inl ?_
    unfold Oper.wp
    rw [hrun]
    simp only [Oper.upon]
    refine hcall.mono ?_
    rintro e w2 ⟨v1, v2, rfl, hrest⟩
    show wpAny P .any l.toArray Q _ ((upTo l.toArray i).setIfInBounds i true) _ _
    rw [upTo_set, e0]
    refine wpAny_all (rs := [i + 1]) r1 (by simp) (fun j hj => ?_)
    obtain rfl := List.mem_singleton.1 hj
    have h1' : l.toArray[i + 1]? = some o1 := by simpa using h1
    unfold wpOp
    simp only [h1', hwant o1 _ g1, if_true]
    refine Or.inl ?_
    unfold Oper.wp
    rw [run_move o1 _ _ p1]
    simp only [Oper.upon]
    rw [upTo_set, e1]
    have ev0 : (a'.put (some d0) (.tuple #[v1, v2])).eval (.tmp d0) = .tuple #[v1, v2] := put_get _ _ _ s0
    rw [ev0]
    have ev1 : ((a'.put (some d0) (.tuple #[v1, v2])).put (some d1) (.tuple #[v1, v2])).eval (.tmp d1) = .tuple #[v1, v2] := put_get _ _ _ (by rw [put_size]; exact s1)
    have h2' : l.toArray[i + 2]? = some o2 := by simpa using h2
    have h3' : l.toArray[i + 3]? = some o3 := by simpa using h3
    refine wpAny_take (i := i + 2) (v := v1) h2' hs r2.2 r2.1 (fun c a w hh => hQ2 c a _ w (e2 ▸ hh)) (Or.inl ⟨hwant o2 _ g2, fun w => ?_⟩) ?_
    · exact run_extract2 _ 0 v1 v2 rfl o2 _ _ p2 ev1 (by omega) w
    rw [upTo_set, e2]
    have ev2 : (((a'.put (some d0) (.tuple #[v1, v2])).put (some d1) (.tuple #[v1, v2])).put d2 v1).eval (.tmp d1) = .tuple #[v1, v2] := (put_get_ne _ _ _ _ hd2).trans ev1
    refine wpAny_take (i := i + 3) (v := v2) h3' hs r3.2 r3.1 (fun c a w hh => hQ3 c a _ w (e3 ▸ hh)) (Or.inl ⟨hwant o3 _ g3, fun w => ?_⟩) ?_
    · exact run_extract2 _ 1 v1 v2 rfl o3 _ _ p3 ev2 (by omega) w
    rw [upTo_set, e3]
    have := wpAny_seq (P := P) (md := .any) (Q := Q) (l.drop (i + 4)) (i + 4) (upTo l.toArray (i + 4)) _ w2 (fun j => by simp) (by simpa using hseq) hrest
    simpa using this) (l.take k).length (Array.replicate l.toArray.size false) a { w with drawn := w.drawn + 1 } ⟨1, rfl⟩ hc0 (by simp) (fun j _ => by
      rcases Nat.lt_or_ge j l.toArray.size with h' | h'
      · simp at h'; simp [h']
      · simp at h'; simp [h']) hT
  rw [show (l.take k).length + (l.length - k) = l.toArray.size by simp; omega] at hfin
  exact hfin

end Go.Proofs.Ytknncnaikeinbaa
