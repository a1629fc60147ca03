/-
  A region of which Go leaves the order open, whose first operations read, or call what makes new memory alone, and whose last ones wait for all of them. A law of the walk.
-/
import Derived.Test.YtcgjkodpmloccaaSplit
import Derived.Lib.QuietBelow
namespace Go.Proofs.Ytcgjkodpmloccaa
open Go.ChangeShapes Go.WideShapes Go.ChangeAt Go.RowKit Go.Sort
set_option linter.unusedVariables false

theorem wp_region_split_below {P : Program} {id : Nat} {Q : Exit → Act → World → Prop} {a : Act} {w : World} {l : List Oper} (k : Nat) (hm : P.follows .mixedOrders = true) (hB : splitB .any l.toArray k (l.length - k) = true)
    (h : wpQuiet P l.toArray (fun w' => ∃ p : Regrown, w' = grow (redrawn w p.d) p.os) (fun a' => ∀ w', (∃ p : Regrown, w' = grow (redrawn w p.d) p.os) → wpList P l.toArray Q (l.drop k) a' w') (l.take k) a) : (Code.region id l.toArray true).wp P Q a w := by
  simp only [splitB, Bool.and_eq_true, beq_iff_eq] at hB
  obtain ⟨⟨⟨⟨hkm, hs⟩, hlex⟩, hw⟩, hseq⟩ := hB
  have hkl : k ≤ l.length := by simp at hkm; omega
  have hsz : l.toArray.size = l.length := by simp
  refine wp_region_any hm ?_
  have hc0 : Closed .any l.toArray (Array.replicate l.toArray.size false) := by
    intro j o ho hj
    exfalso
    rcases Nat.lt_or_ge j l.toArray.size with h' | h'
    · simp at h'; simp [h'] at hj
    · simp at h'; simp [h'] at hj
  have hT := wpAnyT_lex (P := P) (md := .any) (C := fun w' => ∃ p : Regrown, w' = grow (redrawn w p.d) p.os) (Q := fun a' => ∀ w', (∃ p : Regrown, w' = grow (redrawn w p.d) p.os) → wpList P l.toArray Q (l.drop k) a' w') hw hs (l.take k) 0 (Array.replicate l.toArray.size false) a (by simp; omega) (fun j hj => by simp at hj; simp [hj]) hc0 (fun i hi => by omega) (by simp; omega) (by simpa [Nat.min_eq_left hkl] using hlex) h
  have hfin := wpAny_of_T (P := P) (md := .any) (Q' := Q) hw hkm (fun a' w' hC hq => by
    have := wpAny_seq (P := P) (md := .any) (Q := Q) (l.drop k) k (setTo k 0 (Array.replicate l.toArray.size false)) a' w' (fun j => by simp) (by simpa using hseq) (hq w' hC)
    simpa using this) (l.take k).length (Array.replicate l.toArray.size false) a { w with drawn := w.drawn + 1 } ⟨⟨w.drawn + 1, #[]⟩, by rw [grow_empty]; rfl⟩ hc0 (by simp) (fun j _ => by
      rcases Nat.lt_or_ge j l.toArray.size with h' | h'
      · simp at h'; simp [h']
      · simp at h'; simp [h']) hT
  rw [show (l.take k).length + (l.length - k) = l.toArray.size by simp; omega] at hfin
  exact hfin

end Go.Proofs.Ytcgjkodpmloccaa
