/-
  What the law's proof goes by, part 2.
-/
import Derived.Deep.QuietTactic
import Derived.BigQuiet
import Derived.RegionTactic
import Derived.BigRegion
import Derived.Deep.RegionHeld3
import Derived.Deep.DrawnRows
import Derived.Deep.OwnRows
import Derived.Test.YtlfjhcdjgoeafaaDoorSwapped00
namespace Go.Proofs.YtlfjhcdjgoeafaaDoor
open Go.ChangeShapes Go.WideShapes Go.ChangeAt Go.RowKit
set_option maxRecDepth 100000
set_option maxHeartbeats 16000000
set_option linter.unusedVariables false
set_option linter.unusedSimpArgs false
set_option linter.unnecessarySimpa false
set_option linter.unusedSectionVars false
section
attribute [local go_sem ↓] Go.wp_at_zero Go.wp_at_succ
structure Nd where
 key : Int
 value : Int
 head : Int
structure Vr where
 next : Int
 gone : Bool
 stamp : Int
 prev : Int
 kind : Int
structure Ar where
 camera : Int
 slots : List Int
 guides : List Int
 nodes : List Nd
 vers : List Vr
def intC (n : Int) : List Value := [.int .i64 n]
def ndC (x : Nd) : List Value := [.int .i64 x.key, .int .i64 x.value, .int .i64 x.head]
def vrC (x : Vr) : List Value := [.int .i64 x.next, .bool x.gone, .int .i64 x.stamp, .int .i64 x.prev, .int .i64 x.kind]
def qz1 {α : Type} (f : α -> List Value) (l : List α) : List Value := l.flatMap f
theorem qz5 {α : Type} {f : α -> List Value} {sz : Nat} (hf : ∀ x, (f x).length = sz) (l : List α) : (qz1 f l).length = l.length * sz := by
 induction l with
 | nil => simp [qz1]
 | cons x l ih => simp only [qz1, List.flatMap_cons, List.length_append, List.length_cons] at ih ⊢; rw [ih, hf, Nat.add_mul]; omega
theorem qze {α : Type} (f : α -> List Value) (l : List α) (x : α) : qz1 f (l ++ [x]) = qz1 f l ++ f x := by simp [qz1]
theorem qzu {α : Type} {f : α -> List Value} {sz : Nat} (hf : ∀ x, (f x).length = sz) : ∀ (l : List α) (i : Nat) (hi : i < l.length) (j : Nat), j < sz -> (qz1 f l)[i * sz + j]? = (f l[i])[j]?
 | x :: l, 0, _, j, hj => by
  simp only [qz1, List.flatMap_cons, Nat.zero_mul, Nat.zero_add, List.getElem_cons_zero]
  rw [List.getElem?_append_left (by rw [hf]; exact hj)]
 | x :: l, i + 1, hi, j, hj => by
  have ih := qzu hf l i (by simpa using hi) j hj
  simp only [qz1, List.flatMap_cons, List.getElem_cons_succ] at ih ⊢
  rw [List.getElem?_append_right (by rw [hf, Nat.add_mul]; omega), hf, <- ih]
  congr 1
  rw [Nat.add_mul]
  omega
def qz8 (B : Nat) (w : World) (v : Value) (len : Nat) (cs : List Value) : Prop :=
 ∃ a cap, v = .slice a len cap /\ (len = 0 ∨ ∃ bb off, a = some ⟨bb, off, none⟩ /\ bb < B /\ w.rangeAt bb off cs)
theorem qz8.below {B : Nat} {w w' : World} {v : Value} {len : Nat} {cs : List Value} (h : qz8 B w v len cs) (hb : Below B w w') : qz8 B w' v len cs := by
 obtain ⟨a, cap, rfl, h⟩ := h
 refine ⟨a, cap, rfl, ?_⟩
 rcases h with h | ⟨bb, off, rfl, h1, h2⟩
 ·exact Or.inl h
 ·exact Or.inr ⟨bb, off, rfl, h1, qz0 h2 hb h1⟩
theorem qz8.weaken {B B' : Nat} {w : World} {v : Value} {len : Nat} {cs : List Value} (h : qz8 B w v len cs) (hB : B <= B') : qz8 B' w v len cs := by
 obtain ⟨a, cap, rfl, h⟩ := h
 refine ⟨a, cap, rfl, ?_⟩
 rcases h with h | ⟨bb, off, rfl, h1, h2⟩
 ·exact Or.inl h
 ·exact Or.inr ⟨bb, off, rfl, by omega, h2⟩
theorem qz2i {w : World} {b o : Nat} {cs : List Value} (R : w.rangeAt b o cs) (h : (w.cell? ⟨b, o + cs.length, none⟩).isSome = true) (v : Value) : (w.setCell ⟨b, o + cs.length, none⟩ v).rangeAt b o (cs ++ [v]) := by
 intro j u hj
 by_cases e : j = cs.length
 ·subst e
  simp at hj
  subst hj
  obtain ⟨x, hx⟩ := Option.isSome_iff_exists.1 h
  exact World.cell?_setCell_same _ _ _ hx
 ·have hlt : j < cs.length := by
   rcases Nat.lt_or_ge j (cs ++ [v]).length with hl | hl
   ·simp at hl; omega
   ·rw [List.getElem?_eq_none hl] at hj; cases hj
  have hne : (⟨b, o + cs.length, none⟩ : Addr) ≠ ⟨b, o + j, none⟩ := by
   intro h'
   have := congrArg Addr.off h'
   simp at this
   omega
  refine (World.cell?_setCell_other _ _ _ _ hne).trans (R j u ?_)
  rw [List.getElem?_append_left hlt] at hj
  exact hj
theorem qz9 {α : Type} {f : α -> List Value} {sz : Nat} (hf : ∀ x, (f x).length = sz) {w : World} {b o : Nat} {l : List α} (R : w.rangeAt b o (qz1 f l)) (i : Nat) (hi : i < l.length) : w.rangeAt b (o + i * sz) (f l[i]) := by
 intro j v hj
 have hlt : j < sz := by
  rcases Nat.lt_or_ge j (f l[i]).length with h | h
  ·rw [hf] at h; exact h
  ·rw [List.getElem?_eq_none h] at hj; cases hj
 have := R (i * sz + j) v (by rw [qzu hf l i hi j hlt]; exact hj)
 rw [Nat.add_assoc]
 exact this
theorem qzy {w : World} {b o : Nat} {cs vs : List Value} (R : w.rangeAt b o cs) (T : w.there b (o + cs.length) vs.length) : (w.setCells b (o + cs.length) vs).rangeAt b o (cs ++ vs) := by
 have h1 := World.rangeAt_setCells_apart R b (o + cs.length) vs (Or.inr (Or.inl (Nat.le_refl _)))
 have h2 := World.rangeAt_setCells_same w b (o + cs.length) vs T
 intro j v hj
 rcases Nat.lt_or_ge j cs.length with h | h
 ·rw [List.getElem?_append_left h] at hj
  exact h1 j v hj
 ·rw [List.getElem?_append_right h] at hj
  have := h2 (j - cs.length) v hj
  rw [show o + cs.length + (j - cs.length) = o + j by omega] at this
  exact this
theorem qz1e {w : World} {b o n : Nat} (T : w.there b o n) (k m : Nat) (h : k + m <= n) : w.there b (o + k) m := by
 intro j hj
 have := T (k + j) (by omega)
 rw [<- Nat.add_assoc] at this
 exact this
theorem qzad : (Tryd.prog.info? 2).map (fun i => (i.zero, i.size, i.bytes)) = some (some (.int .i64 0), 1, 8) := by kernel_rfl
theorem qz5t (B : Nat) (v : Value) (l : List Int) (w : World) (hB : B <= w.heap.size) (hl : l.length <= 1048576) (S : qz8 B w v l.length (qz1 intC l)) :
  Calls Tryd.prog 22 #[v] w fun e w' => e = .returned (.slice (some ⟨w.heap.size, 0, none⟩) l.length l.length) /\ w'.rangeAt w.heap.size 0 (qz1 intC l) /\ w'.there w.heap.size 0 l.length /\ w.heap.size < w'.heap.size /\ Below w.heap.size w w' := by
 obtain ⟨a, cap, rfl, hS⟩ := S
 have hmk := fun w => run_make_row' (P := Tryd.prog) 24 2 (.int .i64 0) 8 Tryd.underlying24 qzad rfl .i64 .i64 l.length (by omega) (by omega) w
 go_enter Tryd.func22, Tryd.ntmps22
 go_wp2
 clear hmk
 go_loopw [4] (fun i wr => ∃ k : Nat, k <= l.length /\ i = .int .i64 k /\ wr.rangeAt w.heap.size 0 (qz1 intC (l.take k)) /\ wr.there w.heap.size 0 l.length /\ w.heap.size < wr.heap.size /\ Below w.heap.size w wr) (fun i _ => l.length - (intOf i).toNat)
 case atStart => exact ⟨0, Nat.zero_le _, rfl, by simp [qz1, World.rangeAt], qzv _ _ _ _ (by rw [size_madeCells]; exact Nat.le_refl _), by simp, (Below.refl _ _).alloc (Nat.le_refl _) _⟩
 case round =>
  obtain ⟨k, hk, rfl, R, T, hz, bel⟩ := hrel
  by_cases hlt : k < l.length
  ·rcases hS with h0 | ⟨bb, off, rfl, hbb, R0⟩
   ·omega
   ·have hc := (qz0 R0 (bel.mono hB) hbb) k (.int .i64 l[k]) (by have := qzu (f := intC) (sz := 1) (fun _ => rfl) l k hlt 0 (by omega); simpa [intC] using this)
    obtain ⟨tc, tf⟩ := T k hlt
    obtain ⟨u, hu⟩ := Option.isSome_iff_exists.1 tc
    simp only [Nat.zero_add] at hu tf
    have hlen : (qz1 intC (l.take k)).length = k := by rw [qz5 (sz := 1) (fun _ => rfl), List.length_take]; omega
    have R1 := qz2i R (by rw [hlen, Nat.zero_add, hu]; rfl) (.int .i64 l[k])
    rw [hlen, Nat.zero_add] at R1
    have e1 : qz1 intC (l.take (k + 1)) = qz1 intC (l.take k) ++ [.int .i64 l[k]] := by rw [List.take_succ_eq_append_getElem hlt, qze]; rfl
    rw [<- e1] at R1
    clear R0 e1 hlen
    go_wp2
    go_roundw
    case rel => exact ⟨k + 1, by omega, by go_num, R1, qzp T _ _, by rw [World.size_setCell]; exact hz, bel.setCell (Nat.le_refl _) _⟩
    case measure => simp [intOf]; omega
  ·obtain rfl : k = l.length := by omega
   go_wp2
   go_ret
   exact ⟨rfl, by simpa using R, T, hz, bel⟩
theorem qz7o (x : Nd) (w : World) :
  Calls Tryd.prog 51 #[.agg (ndC x).toArray] w fun e w' => e = .returned (.agg (ndC x).toArray) /\ Below w.heap.size w w' := by
 show Calls Tryd.prog 51 #[.agg #[.int .i64 x.key, .int .i64 x.value, .int .i64 x.head]] w fun e w' => e = .returned (.agg #[.int .i64 x.key, .int .i64 x.value, .int .i64 x.head]) /\ Below w.heap.size w w'
 go_enter Tryd.func51, Tryd.ntmps51
 go_wp2
 exact bodyPost_ret (v := .agg #[.int .i64 x.key, .int .i64 x.value, .int .i64 x.head]) (by simp [results, Tryd.results51, go_sem]) rfl ⟨rfl, (((Below.refl _ _).alloc (Nat.le_refl _) _).alloc (by simp) _).alloc (by simp; omega) _⟩
theorem qz8j (x : Vr) (w : World) :
  Calls Tryd.prog 52 #[.agg (vrC x).toArray] w fun e w' => e = .returned (.agg (vrC x).toArray) /\ Below w.heap.size w w' := by
 show Calls Tryd.prog 52 #[.agg #[.int .i64 x.next, .bool x.gone, .int .i64 x.stamp, .int .i64 x.prev, .int .i64 x.kind]] w fun e w' => e = .returned (.agg #[.int .i64 x.next, .bool x.gone, .int .i64 x.stamp, .int .i64 x.prev, .int .i64 x.kind]) /\ Below w.heap.size w w'
 go_enter Tryd.func52, Tryd.ntmps52
 go_wp2
 exact bodyPost_ret (v := .agg #[.int .i64 x.next, .bool x.gone, .int .i64 x.stamp, .int .i64 x.prev, .int .i64 x.kind]) (by simp [results, Tryd.results52, go_sem]) rfl ⟨rfl, (((Below.refl _ _).alloc (Nat.le_refl _) _).alloc (by simp) _).alloc (by simp; omega) _⟩
theorem qz4o : (Tryd.prog.info? 74).map (fun i => (i.zero, i.size, i.bytes)) = some (some (.agg #[.int .i64 0, .int .i64 0, .int .i64 0]), 3, 24) := by kernel_rfl
theorem qz7c (x : Nd) : (Tryd.prog.info? 74).map (fun i => i.size) = some (ndC x).toArray.size := by
 show _ = some 3
 kernel_rfl
theorem qz6a (x : Nd) : (Tryd.prog.info? 74).map (fun i => i.size) = some (ndC x).length := by
 show _ = some 3
 kernel_rfl
theorem qz88 (x : Nd) : (Tryd.prog.info? 79).map (fun i => i.size) = some (ndC x).length := by
 show _ = some 3
 kernel_rfl
theorem qz6x (B : Nat) (v : Value) (l : List Nd) (w : World) (hB : B <= w.heap.size) (hl : l.length <= 1048576) (S : qz8 B w v l.length (qz1 ndC l)) :
  Calls Tryd.prog 23 #[v] w fun e w' => e = .returned (.slice (some ⟨w.heap.size, 0, none⟩) l.length l.length) /\ w'.rangeAt w.heap.size 0 (qz1 ndC l) /\ w'.there w.heap.size 0 (l.length * 3) /\ w.heap.size < w'.heap.size /\ Below w.heap.size w w' := by
 obtain ⟨a, cap, rfl, hS⟩ := S
 obtain ⟨i0, hi, hz0, hz1, hz2⟩ := info_parts qz4o
 have hmk : ∀ w : World, (Instr.makeSlice 30 (.int .i64 (l.length : Int)) (.int .i64 (l.length : Int))).run Tryd.prog w = .ok (.slice (some ⟨w.heap.size, 0, none⟩) l.length l.length) (w.alloc (.cells (madeCells (.agg #[.int .i64 0, .int .i64 0, .int .i64 0] : Value).cells (l.length * 3)) 74)) := by
  intro w
  have h := run_make (P := Tryd.prog) w 30 74 i0 _ Tryd.underlying30 hi hz0 .i64 .i64 l.length l.length (by omega) (by omega) (by rw [hz2]; omega) (by omega)
  simpa [hz1] using h
 clear hi hz0 hz1 hz2
 go_enter Tryd.func23, Tryd.ntmps23
 go_wp2
 clear hmk
 go_loopw [4] (fun i wr => ∃ k : Nat, k <= l.length /\ i = .int .i64 k /\ wr.rangeAt w.heap.size 0 (qz1 ndC (l.take k)) /\ wr.there w.heap.size 0 (l.length * 3) /\ w.heap.size < wr.heap.size /\ Below w.heap.size w wr) (fun i _ => l.length - (intOf i).toNat)
 case atStart => exact ⟨0, Nat.zero_le _, rfl, by simp [qz1, World.rangeAt], qzv _ _ _ _ (by rw [size_madeCells]; exact Nat.le_refl _), by simp, (Below.refl _ _).alloc (Nat.le_refl _) _⟩
 case round =>
  obtain ⟨k, hk, rfl, R, T, hz, bel⟩ := hrel
  by_cases hlt : k < l.length
  ·rcases hS with h0 | ⟨bb, off, rfl, hbb, R0⟩
   ·omega
   ·have E0 := qz9 (sz := 3) (fun _ => rfl) (qz0 R0 (bel.mono hB) hbb) k hlt
    clear R0
    go_wp2_with (refine wpList_load_mid rfl 79 (.tmp 18) rfl bb (off + k * 3) rfl (ndC l[k]) _ ?hc Tryd.underlying79 rfl (qz88 _) ?_)
    case hc => exact E0
    refine (qz7o _ _).mono ?_
    rintro e w1 ⟨rfl, b1⟩
    have hk3 : k * 3 + 3 <= l.length * 3 := by omega
    have R1 := qz0 R b1 hz
    have T1 := qz3 T b1 hz
    have hlen : (qz1 ndC (l.take k)).length = k * 3 := by rw [qz5 (sz := 3) (fun _ => rfl), List.length_take]; omega
    have T2 := qz1e T1 (k * 3) 3 hk3
    have G := qzy R1 (vs := ndC l[k]) (by rw [hlen]; exact T2)
    rw [hlen, <- qze, <- List.take_succ_eq_append_getElem hlt] at G
    simp only [Nat.zero_add] at G T2
    have z1 := b1.size
    have B2 := bel.trans (b1.mono (by omega))
    clear E0 R R1 hlen
    go_wp2_with (refine wpList_store_mid rfl 74 (.tmp 21) (.tmp 20) rfl w.heap.size (k * 3) _ rfl rfl ?ht ?hi ?h1 ?_)
    case ht => exact T2
    case hi => exact qz7c _
    case h1 => simp [ndC, Value.oneCell']
    go_roundw
    case rel => exact ⟨k + 1, by omega, by go_num, G, World.there_setCells T1 _ _ _, by rw [qzg]; omega, Below.setCells (Nat.le_refl _) _ _ _ B2⟩
    case measure => simp [intOf]; omega
  ·obtain rfl : k = l.length := by omega
   go_wp2
   go_ret
   exact ⟨rfl, by simpa using R, T, hz, bel⟩
theorem qz5e : (Tryd.prog.info? 60).map (fun i => (i.zero, i.size, i.bytes)) = some (some (.agg #[.int .i64 0, .bool false, .int .i64 0, .int .i64 0, .int .i64 0]), 5, 40) := by kernel_rfl
theorem qz8r (x : Vr) : (Tryd.prog.info? 60).map (fun i => i.size) = some (vrC x).toArray.size := by
 show _ = some 5
 kernel_rfl
theorem qz7f (x : Vr) : (Tryd.prog.info? 60).map (fun i => i.size) = some (vrC x).length := by
 show _ = some 5
 kernel_rfl
theorem qz8y (x : Vr) : (Tryd.prog.info? 81).map (fun i => i.size) = some (vrC x).length := by
 show _ = some 5
 kernel_rfl
theorem qz7g (B : Nat) (v : Value) (l : List Vr) (w : World) (hB : B <= w.heap.size) (hl : l.length <= 1048576) (S : qz8 B w v l.length (qz1 vrC l)) :
  Calls Tryd.prog 24 #[v] w fun e w' => e = .returned (.slice (some ⟨w.heap.size, 0, none⟩) l.length l.length) /\ w'.rangeAt w.heap.size 0 (qz1 vrC l) /\ w'.there w.heap.size 0 (l.length * 5) /\ w.heap.size < w'.heap.size /\ Below w.heap.size w w' := by
 obtain ⟨a, cap, rfl, hS⟩ := S
 obtain ⟨i0, hi, hz0, hz1, hz2⟩ := info_parts qz5e
 have hmk : ∀ w : World, (Instr.makeSlice 31 (.int .i64 (l.length : Int)) (.int .i64 (l.length : Int))).run Tryd.prog w = .ok (.slice (some ⟨w.heap.size, 0, none⟩) l.length l.length) (w.alloc (.cells (madeCells (.agg #[.int .i64 0, .bool false, .int .i64 0, .int .i64 0, .int .i64 0] : Value).cells (l.length * 5)) 60)) := by
  intro w
  have h := run_make (P := Tryd.prog) w 31 60 i0 _ Tryd.underlying31 hi hz0 .i64 .i64 l.length l.length (by omega) (by omega) (by rw [hz2]; omega) (by omega)
  simpa [hz1] using h
 clear hi hz0 hz1 hz2
 go_enter Tryd.func24, Tryd.ntmps24
 go_wp2
 clear hmk
 go_loopw [4] (fun i wr => ∃ k : Nat, k <= l.length /\ i = .int .i64 k /\ wr.rangeAt w.heap.size 0 (qz1 vrC (l.take k)) /\ wr.there w.heap.size 0 (l.length * 5) /\ w.heap.size < wr.heap.size /\ Below w.heap.size w wr) (fun i _ => l.length - (intOf i).toNat)
 case atStart => exact ⟨0, Nat.zero_le _, rfl, by simp [qz1, World.rangeAt], qzv _ _ _ _ (by rw [size_madeCells]; exact Nat.le_refl _), by simp, (Below.refl _ _).alloc (Nat.le_refl _) _⟩
 case round =>
  obtain ⟨k, hk, rfl, R, T, hz, bel⟩ := hrel
  by_cases hlt : k < l.length
  ·rcases hS with h0 | ⟨bb, off, rfl, hbb, R0⟩
   ·omega
   ·have E0 := qz9 (sz := 5) (fun _ => rfl) (qz0 R0 (bel.mono hB) hbb) k hlt
    clear R0
    go_wp2_with (refine wpList_load_mid rfl 81 (.tmp 18) rfl bb (off + k * 5) rfl (vrC l[k]) _ ?hc Tryd.underlying81 rfl (qz8y _) ?_)
    case hc => exact E0
    refine (qz8j _ _).mono ?_
    rintro e w1 ⟨rfl, b1⟩
    have hk3 : k * 5 + 5 <= l.length * 5 := by omega
    have R1 := qz0 R b1 hz
    have T1 := qz3 T b1 hz
    have hlen : (qz1 vrC (l.take k)).length = k * 5 := by rw [qz5 (sz := 5) (fun _ => rfl), List.length_take]; omega
    have T2 := qz1e T1 (k * 5) 5 hk3
    have G := qzy R1 (vs := vrC l[k]) (by rw [hlen]; exact T2)
    rw [hlen, <- qze, <- List.take_succ_eq_append_getElem hlt] at G
    simp only [Nat.zero_add] at G T2
    have z1 := b1.size
    have B2 := bel.trans (b1.mono (by omega))
    clear E0 R R1 hlen
    go_wp2_with (refine wpList_store_mid rfl 60 (.tmp 21) (.tmp 20) rfl w.heap.size (k * 5) _ rfl rfl ?ht ?hi ?h1 ?_)
    case ht => exact T2
    case hi => exact qz8r _
    case h1 => simp [vrC, Value.oneCell']
    go_roundw
    case rel => exact ⟨k + 1, by omega, by go_num, G, World.there_setCells T1 _ _ _, by rw [qzg]; omega, Below.setCells (Nat.le_refl _) _ _ _ B2⟩
    case measure => simp [intOf]; omega
  ·obtain rfl : k = l.length := by omega
   go_wp2
   go_ret
   exact ⟨rfl, by simpa using R, T, hz, bel⟩
structure qzd (B : Nat) (w : World) (s g n r : Value) (A : Ar) : Prop where
 s : qz8 B w s A.slots.length (qz1 intC A.slots)
 g : qz8 B w g A.guides.length (qz1 intC A.guides)
 n : qz8 B w n A.nodes.length (qz1 ndC A.nodes)
 r : qz8 B w r A.vers.length (qz1 vrC A.vers)
def Ar.size (A : Ar) : Nat := A.slots.length + A.guides.length + A.nodes.length + A.vers.length
theorem qzd.below {B : Nat} {w w' : World} {s g n r : Value} {A : Ar} (I : qzd B w s g n r A) (hb : Below B w w') : qzd B w' s g n r A :=
 ⟨I.s.below hb, I.g.below hb, I.n.below hb, I.r.below hb⟩
theorem qzd.weaken {B B' : Nat} {w : World} {s g n r : Value} {A : Ar} (I : qzd B w s g n r A) (hB : B <= B') : qzd B' w s g n r A :=
 ⟨I.s.weaken hB, I.g.weaken hB, I.n.weaken hB, I.r.weaken hB⟩
theorem qz8.mk {w : World} {b len : Nat} {cs : List Value} (h : b < w.heap.size) (R : w.rangeAt b 0 cs) : qz8 w.heap.size w (.slice (some ⟨b, 0, none⟩) len len) len cs :=
 ⟨_, _, rfl, Or.inr ⟨b, 0, rfl, h, R⟩⟩
theorem qz1t {w : World} {b : Nat} {cs : List Value} (R : w.rangeAt b 0 cs) (k : Nat) (hk : k < cs.length) (v : Value) : (w.setCell ⟨b, k, none⟩ v).rangeAt b 0 (cs.set k v) := by
 intro j u hj
 rw [Nat.zero_add]
 by_cases e : k = j
 ·subst e
  rw [List.getElem?_set_self hk] at hj
  cases hj
  have := R k cs[k] (List.getElem?_eq_getElem hk)
  rw [Nat.zero_add] at this
  exact World.cell?_setCell_same _ _ _ this
 ·rw [List.getElem?_set_ne e] at hj
  have := R j u hj
  rw [Nat.zero_add] at this
  exact (World.cell?_setCell_other _ _ _ _ (by simp)).trans this
theorem qz2u {w : World} {b o : Nat} {cs : List Value} (R : w.rangeAt b o cs) {a : Addr} (h : a.block ≠ b) (v : Value) : (w.setCell a v).rangeAt b o cs := by
 intro j u hj
 refine (World.cell?_setCell_other _ _ _ _ ?_).trans (R j u hj)
 intro e
 exact h (by rw [e])
theorem row5 {w : World} {b : Nat} {v0 v1 v2 v3 v4 : Value} (R : w.rangeAt b 0 [v0, v1, v2, v3, v4]) : w.cell? ⟨b, 0, none⟩ = some v0 /\ w.cell? ⟨b, 1, none⟩ = some v1 /\ w.cell? ⟨b, 2, none⟩ = some v2 /\ w.cell? ⟨b, 3, none⟩ = some v3 /\ w.cell? ⟨b, 4, none⟩ = some v4 := by
 refine ⟨?_, ?_, ?_, ?_, ?_⟩
 ·simpa using R 0 v0 rfl
 ·simpa using R 1 v1 rfl
 ·simpa using R 2 v2 rfl
 ·simpa using R 3 v3 rfl
 ·simpa using R 4 v4 rfl
structure qz32 (w : World) (b : Nat) (cs : List Value) (n : Nat) : Prop where
 row : w.rangeAt b 0 cs
 may : w.there b 0 n
theorem qz32.below {w w' : World} {B b n : Nat} {cs : List Value} (h : qz32 w b cs n) (hb : Below B w w') (hB : b < B) : qz32 w' b cs n := ⟨qz0 h.row hb hB, qz3 h.may hb hB⟩
theorem qz32.setCell_ne {w : World} {b n : Nat} {cs : List Value} (h : qz32 w b cs n) {a : Addr} (hne : a.block ≠ b) (v : Value) : qz32 (w.setCell a v) b cs n := ⟨qz2u h.row hne v, qzp h.may a v⟩
theorem qz32.setCells_ne {w : World} {b n c o : Nat} {cs vs : List Value} (h : qz32 w b cs n) (hne : b ≠ c) : qz32 (w.setCells c o vs) b cs n := ⟨World.rangeAt_setCells_apart h.row _ _ _ (Or.inl hne), World.there_setCells h.may c o vs⟩
theorem qz39 (B : Nat) (v : Value) (l : List Int) (w : World) (hB : B <= w.heap.size) (hl : l.length <= 1048576) (S : qz8 B w v l.length (qz1 intC l)) :
  Calls Tryd.prog 22 #[v] w fun e w' => ∃ b, e = .returned (.slice (some ⟨b, 0, none⟩) l.length l.length) /\ w.heap.size <= b /\ b < w'.heap.size /\ qz32 w' b (qz1 intC l) (l.length * 1) /\ Below w.heap.size w w' :=
 (qz5t B v l w hB hl S).mono fun e w' ⟨h1, h2, h3, h4, h5⟩ => ⟨_, h1, Nat.le_refl _, h4, ⟨h2, by rw [Nat.mul_one]; exact h3⟩, h5⟩
theorem qz6w (B : Nat) (v : Value) (l : List Nd) (w : World) (hB : B <= w.heap.size) (hl : l.length <= 1048576) (S : qz8 B w v l.length (qz1 ndC l)) :
  Calls Tryd.prog 23 #[v] w fun e w' => ∃ b, e = .returned (.slice (some ⟨b, 0, none⟩) l.length l.length) /\ w.heap.size <= b /\ b < w'.heap.size /\ qz32 w' b (qz1 ndC l) (l.length * 3) /\ Below w.heap.size w w' :=
 (qz6x B v l w hB hl S).mono fun e w' ⟨h1, h2, h3, h4, h5⟩ => ⟨_, h1, Nat.le_refl _, h4, ⟨h2, h3⟩, h5⟩
theorem qz7p (B : Nat) (v : Value) (l : List Vr) (w : World) (hB : B <= w.heap.size) (hl : l.length <= 1048576) (S : qz8 B w v l.length (qz1 vrC l)) :
  Calls Tryd.prog 24 #[v] w fun e w' => ∃ b, e = .returned (.slice (some ⟨b, 0, none⟩) l.length l.length) /\ w.heap.size <= b /\ b < w'.heap.size /\ qz32 w' b (qz1 vrC l) (l.length * 5) /\ Below w.heap.size w w' :=
 (qz7g B v l w hB hl S).mono fun e w' ⟨h1, h2, h3, h4, h5⟩ => ⟨_, h1, Nat.le_refl _, h4, ⟨h2, h3⟩, h5⟩
theorem qz94 : (Tryd.prog.info? 33).map (fun i => i.size) = some 5 := by kernel_rfl
theorem qz38 (B : Nat) (A : Ar) (s g n r : Value) (w : World) (hB : B <= w.heap.size) (hA : A.size <= 1048576) (I : qzd B w s g n r A) :
  Calls Tryd.prog 8 #[.agg #[.int .i64 A.camera, s, g, n, r]] w fun e w' => ∃ p0 p1 p2 p3, e = .returned (.agg #[.int .i64 A.camera, .slice (some ⟨p0, 0, none⟩) A.slots.length A.slots.length, .slice (some ⟨p1, 0, none⟩) A.guides.length A.guides.length, .slice (some ⟨p2, 0, none⟩) A.nodes.length A.nodes.length, .slice (some ⟨p3, 0, none⟩) A.vers.length A.vers.length]) /\
   w.heap.size < p0 /\ p0 < p1 /\ p1 < p2 /\ p2 < p3 /\ p3 < w'.heap.size /\ qz32 w' p0 (qz1 intC A.slots) (A.slots.length * 1) /\ qz32 w' p1 (qz1 intC A.guides) (A.guides.length * 1) /\ qz32 w' p2 (qz1 ndC A.nodes) (A.nodes.length * 3) /\ qz32 w' p3 (qz1 vrC A.vers) (A.vers.length * 5) /\ Below w.heap.size w w' := by
 unfold Ar.size at hA
 go_enter Tryd.func8, Tryd.ntmps8
 go_wp2_with fail
 have X0 := qz6 w [.int .i64 A.camera, s, g, n, r] 28
 have Y0 := qzv (w.alloc (.cells #[.int .i64 A.camera, s, g, n, r] 28)) #[.int .i64 0, .slice none 0 0, .slice none 0 0, .slice none 0 0, .slice none 0 0] 33 5 (by decide)
 have R0 : World.rangeAt _ _ 0 [.int .i64 A.camera, .slice none 0 0, .slice none 0 0, .slice none 0 0, .slice none 0 0] := qz6 ((w.alloc (.cells #[.int .i64 A.camera, s, g, n, r] 28)).alloc (.cells #[.int .i64 0, .slice none 0 0, .slice none 0 0, .slice none 0 0, .slice none 0 0] 33)) [.int .i64 A.camera, .slice none 0 0, .slice none 0 0, .slice none 0 0, .slice none 0 0] 33
 have T0 := qzv ((w.alloc (.cells #[.int .i64 A.camera, s, g, n, r] 28)).alloc (.cells #[.int .i64 0, .slice none 0 0, .slice none 0 0, .slice none 0 0, .slice none 0 0] 33)) #[.int .i64 A.camera, .slice none 0 0, .slice none 0 0, .slice none 0 0, .slice none 0 0] 33 5 (by simp)
 have K0 := (((Below.refl w.heap.size w).alloc (Nat.le_refl _) (.cells #[.int .i64 A.camera, s, g, n, r] 28)).alloc (by simp) (.cells #[.int .i64 0, .slice none 0 0, .slice none 0 0, .slice none 0 0, .slice none 0 0] 33)).alloc (by simp; omega) (.cells #[.int .i64 A.camera, .slice none 0 0, .slice none 0 0, .slice none 0 0, .slice none 0 0] 33)
 have X1 := World.rangeAt_alloc (World.rangeAt_alloc X0 (.cells #[.int .i64 0, .slice none 0 0, .slice none 0 0, .slice none 0 0, .slice none 0 0] 33)) (.cells #[.int .i64 A.camera, .slice none 0 0, .slice none 0 0, .slice none 0 0, .slice none 0 0] 33)
 have Y1 := World.there_alloc Y0 (.cells #[.int .i64 A.camera, .slice none 0 0, .slice none 0 0, .slice none 0 0, .slice none 0 0] 33)
 simp only [World.size_alloc] at R0 T0 Y1
 have I0 := I.below (K0.mono hB)
 have hz0 : w.heap.size + 1 + 1 < (((w.alloc (.cells #[.int .i64 A.camera, s, g, n, r] 28)).alloc (.cells #[.int .i64 0, .slice none 0 0, .slice none 0 0, .slice none 0 0, .slice none 0 0] 33)).alloc (.cells #[.int .i64 A.camera, .slice none 0 0, .slice none 0 0, .slice none 0 0, .slice none 0 0] 33)).heap.size := by simp
 clear X0 Y0 I
 refine (qz39 B s A.slots _ (by have := hz0; omega) (by omega) I0.s).mono ?_
 rintro e w1 ⟨p0, rfl, q0, m0, E0, b1⟩
 have o0 : w.heap.size + 1 + 1 < p0 := Nat.lt_of_lt_of_le hz0 q0
 have X2 := qz0 X1 b1 (by have := hz0; omega)
 have Y2 := qz3 Y1 b1 (by have := hz0; omega)
 have R0' := qz0 R0 b1 hz0
 have T0' := qz3 T0 b1 hz0
 have K0' := K0.trans (b1.mono (by have := hz0; omega))
 have I0' := I0.below (b1.mono (by have := hz0; omega))
 have hz0' := Nat.lt_of_lt_of_le hz0 b1.size
 have s1 := R0' 1 (.slice none 0 0) rfl
 have s2 := (T0' 1 (by omega)).2
 simp only [Nat.zero_add] at s1 s2
 have R1 := qz1t R0' 1 (by simp) (.slice (some ⟨p0, 0, none⟩) A.slots.length A.slots.length)
 have T1 := qzp T0' ⟨w.heap.size + 1 + 1, 1, none⟩ (.slice (some ⟨p0, 0, none⟩) A.slots.length A.slots.length)
 have bs : Below (w.heap.size + 1 + 1) w1 (w1.setCell ⟨w.heap.size + 1 + 1, 1, none⟩ (.slice (some ⟨p0, 0, none⟩) A.slots.length A.slots.length)) := Below.setCell (p := ⟨w.heap.size + 1 + 1, 1, none⟩) (Below.refl _ _) (Nat.le_refl _) _
 have X2s := qz0 X2 bs (by omega)
 have Y2s := qz3 Y2 bs (by omega)
 have K1 := K0'.trans (bs.mono (by omega))
 have I1 := I0'.below (bs.mono (by omega))
 have F0 := qz32.setCell_ne E0 (a := ⟨w.heap.size + 1 + 1, 1, none⟩) (by simp only; omega) (.slice (some ⟨p0, 0, none⟩) A.slots.length A.slots.length)
 have hz1 : w.heap.size + 1 + 1 < (w1.setCell ⟨w.heap.size + 1 + 1, 1, none⟩ (.slice (some ⟨p0, 0, none⟩) A.slots.length A.slots.length)).heap.size := by rw [World.size_setCell]; exact hz0'
 have m0s : p0 < (w1.setCell ⟨w.heap.size + 1 + 1, 1, none⟩ (.slice (some ⟨p0, 0, none⟩) A.slots.length A.slots.length)).heap.size := by rw [World.size_setCell]; have := b1.size; omega
 clear X1 X2 Y1 Y2 R0 R0' T0 T0' K0 K0' I0 I0' bs E0 b1 m0
 have c1 := X2s 2 g rfl
 simp only [Nat.zero_add] at c1
 go_wp2_with fail
 clear s1 s2 c1
 have X2 := X2s
 have Y2 := Y2s
 clear X2s Y2s
 have E0 := F0
 have m0 := m0s
 clear F0 m0s
 refine (qz39 B g A.guides _ (by have := hz1; omega) (by omega) I1.g).mono ?_
 rintro e w2 ⟨p1, rfl, q1, m1, E1, b2⟩
 have o1 : p0 < p1 := Nat.lt_of_lt_of_le m0 q1
 have X3 := qz0 X2 b2 (by have := hz1; omega)
 have Y3 := qz3 Y2 b2 (by have := hz1; omega)
 have R1' := qz0 R1 b2 hz1
 have T1' := qz3 T1 b2 hz1
 have K1' := K1.trans (b2.mono (by have := hz1; omega))
 have I1' := I1.below (b2.mono (by have := hz1; omega))
 have E0' := E0.below b2 m0
 have hz1' := Nat.lt_of_lt_of_le hz1 b2.size
 have s1 := R1' 2 (.slice none 0 0) rfl
 have s2 := (T1' 2 (by omega)).2
 simp only [Nat.zero_add] at s1 s2
 have R2 := qz1t R1' 2 (by simp) (.slice (some ⟨p1, 0, none⟩) A.guides.length A.guides.length)
 have T2 := qzp T1' ⟨w.heap.size + 1 + 1, 2, none⟩ (.slice (some ⟨p1, 0, none⟩) A.guides.length A.guides.length)
 have bs : Below (w.heap.size + 1 + 1) w2 (w2.setCell ⟨w.heap.size + 1 + 1, 2, none⟩ (.slice (some ⟨p1, 0, none⟩) A.guides.length A.guides.length)) := Below.setCell (p := ⟨w.heap.size + 1 + 1, 2, none⟩) (Below.refl _ _) (Nat.le_refl _) _
 have X3s := qz0 X3 bs (by omega)
 have Y3s := qz3 Y3 bs (by omega)
 have K2 := K1'.trans (bs.mono (by omega))
 have I2 := I1'.below (bs.mono (by omega))
 have F1 := qz32.setCell_ne E1 (a := ⟨w.heap.size + 1 + 1, 2, none⟩) (by simp only; omega) (.slice (some ⟨p1, 0, none⟩) A.guides.length A.guides.length)
 have F0 := qz32.setCell_ne E0' (a := ⟨w.heap.size + 1 + 1, 2, none⟩) (by simp only; omega) (.slice (some ⟨p1, 0, none⟩) A.guides.length A.guides.length)
 have hz2 : w.heap.size + 1 + 1 < (w2.setCell ⟨w.heap.size + 1 + 1, 2, none⟩ (.slice (some ⟨p1, 0, none⟩) A.guides.length A.guides.length)).heap.size := by rw [World.size_setCell]; exact hz1'
 have m0s : p0 < (w2.setCell ⟨w.heap.size + 1 + 1, 2, none⟩ (.slice (some ⟨p1, 0, none⟩) A.guides.length A.guides.length)).heap.size := by rw [World.size_setCell]; have := b2.size; omega
 have m1s : p1 < (w2.setCell ⟨w.heap.size + 1 + 1, 2, none⟩ (.slice (some ⟨p1, 0, none⟩) A.guides.length A.guides.length)).heap.size := by rw [World.size_setCell]; have := b2.size; omega
 clear X2 X3 Y2 Y3 R1 R1' T1 T1' K1 K1' I1 I1' bs E1 E0 E0' b2 m0 m1
 have c1 := X3s 3 n rfl
 simp only [Nat.zero_add] at c1
 go_wp2_with fail
 clear s1 s2 c1
 have X3 := X3s
 have Y3 := Y3s
 clear X3s Y3s
 have E0 := F0
 have m0 := m0s
 clear F0 m0s
 have E1 := F1
 have m1 := m1s
 clear F1 m1s
 refine (qz6w B n A.nodes _ (by have := hz2; omega) (by omega) I2.n).mono ?_
 rintro e w3 ⟨p2, rfl, q2, m2, E2, b3⟩
 have o2 : p1 < p2 := Nat.lt_of_lt_of_le m1 q2
 have X4 := qz0 X3 b3 (by have := hz2; omega)
 have Y4 := qz3 Y3 b3 (by have := hz2; omega)
 have R2' := qz0 R2 b3 hz2
 have T2' := qz3 T2 b3 hz2
 have K2' := K2.trans (b3.mono (by have := hz2; omega))
 have I2' := I2.below (b3.mono (by have := hz2; omega))
 have E0' := E0.below b3 m0
 have E1' := E1.below b3 m1
 have hz2' := Nat.lt_of_lt_of_le hz2 b3.size
 have s1 := R2' 3 (.slice none 0 0) rfl
 have s2 := (T2' 3 (by omega)).2
 simp only [Nat.zero_add] at s1 s2
 have R3 := qz1t R2' 3 (by simp) (.slice (some ⟨p2, 0, none⟩) A.nodes.length A.nodes.length)
 have T3 := qzp T2' ⟨w.heap.size + 1 + 1, 3, none⟩ (.slice (some ⟨p2, 0, none⟩) A.nodes.length A.nodes.length)
 have bs : Below (w.heap.size + 1 + 1) w3 (w3.setCell ⟨w.heap.size + 1 + 1, 3, none⟩ (.slice (some ⟨p2, 0, none⟩) A.nodes.length A.nodes.length)) := Below.setCell (p := ⟨w.heap.size + 1 + 1, 3, none⟩) (Below.refl _ _) (Nat.le_refl _) _
 have X4s := qz0 X4 bs (by omega)
 have Y4s := qz3 Y4 bs (by omega)
 have K3 := K2'.trans (bs.mono (by omega))
 have I3 := I2'.below (bs.mono (by omega))
 have F2 := qz32.setCell_ne E2 (a := ⟨w.heap.size + 1 + 1, 3, none⟩) (by simp only; omega) (.slice (some ⟨p2, 0, none⟩) A.nodes.length A.nodes.length)
 have F0 := qz32.setCell_ne E0' (a := ⟨w.heap.size + 1 + 1, 3, none⟩) (by simp only; omega) (.slice (some ⟨p2, 0, none⟩) A.nodes.length A.nodes.length)
 have F1 := qz32.setCell_ne E1' (a := ⟨w.heap.size + 1 + 1, 3, none⟩) (by simp only; omega) (.slice (some ⟨p2, 0, none⟩) A.nodes.length A.nodes.length)
 have hz3 : w.heap.size + 1 + 1 < (w3.setCell ⟨w.heap.size + 1 + 1, 3, none⟩ (.slice (some ⟨p2, 0, none⟩) A.nodes.length A.nodes.length)).heap.size := by rw [World.size_setCell]; exact hz2'
 have m0s : p0 < (w3.setCell ⟨w.heap.size + 1 + 1, 3, none⟩ (.slice (some ⟨p2, 0, none⟩) A.nodes.length A.nodes.length)).heap.size := by rw [World.size_setCell]; have := b3.size; omega
 have m1s : p1 < (w3.setCell ⟨w.heap.size + 1 + 1, 3, none⟩ (.slice (some ⟨p2, 0, none⟩) A.nodes.length A.nodes.length)).heap.size := by rw [World.size_setCell]; have := b3.size; omega
 have m2s : p2 < (w3.setCell ⟨w.heap.size + 1 + 1, 3, none⟩ (.slice (some ⟨p2, 0, none⟩) A.nodes.length A.nodes.length)).heap.size := by rw [World.size_setCell]; have := b3.size; omega
 clear X3 X4 Y3 Y4 R2 R2' T2 T2' K2 K2' I2 I2' bs E2 E0 E0' E1 E1' b3 m0 m1 m2
 have c1 := X4s 4 r rfl
 simp only [Nat.zero_add] at c1
 go_wp2_with fail
 clear s1 s2 c1
 have X4 := X4s
 have Y4 := Y4s
 clear X4s Y4s
 have E0 := F0
 have m0 := m0s
 clear F0 m0s
 have E1 := F1
 have m1 := m1s
 clear F1 m1s
 have E2 := F2
 have m2 := m2s
 clear F2 m2s
 refine (qz7p B r A.vers _ (by have := hz3; omega) (by omega) I3.r).mono ?_
 rintro e w4 ⟨p3, rfl, q3, m3, E3, b4⟩
 have o3 : p2 < p3 := Nat.lt_of_lt_of_le m2 q3
 have X5 := qz0 X4 b4 (by have := hz3; omega)
 have Y5 := qz3 Y4 b4 (by have := hz3; omega)
 have R3' := qz0 R3 b4 hz3
 have T3' := qz3 T3 b4 hz3
 have K3' := K3.trans (b4.mono (by have := hz3; omega))
 have I3' := I3.below (b4.mono (by have := hz3; omega))
 have E0' := E0.below b4 m0
 have E1' := E1.below b4 m1
 have E2' := E2.below b4 m2
 have hz3' := Nat.lt_of_lt_of_le hz3 b4.size
 have s1 := R3' 4 (.slice none 0 0) rfl
 have s2 := (T3' 4 (by omega)).2
 simp only [Nat.zero_add] at s1 s2
 have R4 := qz1t R3' 4 (by simp) (.slice (some ⟨p3, 0, none⟩) A.vers.length A.vers.length)
 have T4 := qzp T3' ⟨w.heap.size + 1 + 1, 4, none⟩ (.slice (some ⟨p3, 0, none⟩) A.vers.length A.vers.length)
 have bs : Below (w.heap.size + 1 + 1) w4 (w4.setCell ⟨w.heap.size + 1 + 1, 4, none⟩ (.slice (some ⟨p3, 0, none⟩) A.vers.length A.vers.length)) := Below.setCell (p := ⟨w.heap.size + 1 + 1, 4, none⟩) (Below.refl _ _) (Nat.le_refl _) _
 have X5s := qz0 X5 bs (by omega)
 have Y5s := qz3 Y5 bs (by omega)
 have K4 := K3'.trans (bs.mono (by omega))
 have I4 := I3'.below (bs.mono (by omega))
 have F3 := qz32.setCell_ne E3 (a := ⟨w.heap.size + 1 + 1, 4, none⟩) (by simp only; omega) (.slice (some ⟨p3, 0, none⟩) A.vers.length A.vers.length)
 have F0 := qz32.setCell_ne E0' (a := ⟨w.heap.size + 1 + 1, 4, none⟩) (by simp only; omega) (.slice (some ⟨p3, 0, none⟩) A.vers.length A.vers.length)
 have F1 := qz32.setCell_ne E1' (a := ⟨w.heap.size + 1 + 1, 4, none⟩) (by simp only; omega) (.slice (some ⟨p3, 0, none⟩) A.vers.length A.vers.length)
 have F2 := qz32.setCell_ne E2' (a := ⟨w.heap.size + 1 + 1, 4, none⟩) (by simp only; omega) (.slice (some ⟨p3, 0, none⟩) A.vers.length A.vers.length)
 have hz4 : w.heap.size + 1 + 1 < (w4.setCell ⟨w.heap.size + 1 + 1, 4, none⟩ (.slice (some ⟨p3, 0, none⟩) A.vers.length A.vers.length)).heap.size := by rw [World.size_setCell]; exact hz3'
 have m0s : p0 < (w4.setCell ⟨w.heap.size + 1 + 1, 4, none⟩ (.slice (some ⟨p3, 0, none⟩) A.vers.length A.vers.length)).heap.size := by rw [World.size_setCell]; have := b4.size; omega
 have m1s : p1 < (w4.setCell ⟨w.heap.size + 1 + 1, 4, none⟩ (.slice (some ⟨p3, 0, none⟩) A.vers.length A.vers.length)).heap.size := by rw [World.size_setCell]; have := b4.size; omega
 have m2s : p2 < (w4.setCell ⟨w.heap.size + 1 + 1, 4, none⟩ (.slice (some ⟨p3, 0, none⟩) A.vers.length A.vers.length)).heap.size := by rw [World.size_setCell]; have := b4.size; omega
 have m3s : p3 < (w4.setCell ⟨w.heap.size + 1 + 1, 4, none⟩ (.slice (some ⟨p3, 0, none⟩) A.vers.length A.vers.length)).heap.size := by rw [World.size_setCell]; have := b4.size; omega
 clear X4 X5 Y4 Y5 R3 R3' T3 T3' K3 K3' I3 I3' bs E3 E0 E0' E1 E1' E2 E2' b4 m0 m1 m2 m3
 have G : World.rangeAt _ (w.heap.size + 1 + 1) 0 [.int .i64 A.camera, .slice (some ⟨p0, 0, none⟩) A.slots.length A.slots.length, .slice (some ⟨p1, 0, none⟩) A.guides.length A.guides.length, .slice (some ⟨p2, 0, none⟩) A.nodes.length A.nodes.length, .slice (some ⟨p3, 0, none⟩) A.vers.length A.vers.length] := R4
 go_wp2_with (first | (refine wpList_load_mid rfl 33 (.tmp 3) rfl (w.heap.size + 1 + 1) 0 rfl [.int .i64 A.camera, .slice (some ⟨p0, 0, none⟩) A.slots.length A.slots.length, .slice (some ⟨p1, 0, none⟩) A.guides.length A.guides.length, .slice (some ⟨p2, 0, none⟩) A.nodes.length A.nodes.length, .slice (some ⟨p3, 0, none⟩) A.vers.length A.vers.length] _ ?hc Tryd.underlying33 rfl qz94 ?_) | (refine wpList_store_mid rfl 33 (.tmp 2) (.tmp 23) rfl (w.heap.size + 1) 0 _ rfl rfl ?ht ?hi ?h1 ?_))
 case hc => exact G
 case ht => exact Y5s
 case hi => exact qz94
 case h1 => simp [Value.oneCell']
 have ob := Below.setCells (B := w.heap.size) (b := w.heap.size + 1) (by omega) [.int .i64 A.camera, .slice (some ⟨p0, 0, none⟩) A.slots.length A.slots.length, .slice (some ⟨p1, 0, none⟩) A.guides.length A.guides.length, .slice (some ⟨p2, 0, none⟩) A.nodes.length A.nodes.length, .slice (some ⟨p3, 0, none⟩) A.vers.length A.vers.length] 0 _ K4
 refine bodyPost_ret (v := .agg #[.int .i64 A.camera, .slice (some ⟨p0, 0, none⟩) A.slots.length A.slots.length, .slice (some ⟨p1, 0, none⟩) A.guides.length A.guides.length, .slice (some ⟨p2, 0, none⟩) A.nodes.length A.nodes.length, .slice (some ⟨p3, 0, none⟩) A.vers.length A.vers.length]) ?_ rfl ⟨_, _, _, _, rfl, by omega, o1, o2, o3, by rw [qzg]; exact m3s, ?_, ?_, ?_, ?_, ob⟩
 ·exact qz2r Tryd.results8 _ _ (w.heap.size + 1) 0 rfl [.int .i64 A.camera, .slice (some ⟨p0, 0, none⟩) A.slots.length A.slots.length, .slice (some ⟨p1, 0, none⟩) A.guides.length A.guides.length, .slice (some ⟨p2, 0, none⟩) A.nodes.length A.nodes.length, .slice (some ⟨p3, 0, none⟩) A.vers.length A.vers.length] _ (World.rangeAt_setCells_same _ _ _ _ Y5s) Tryd.underlying33 rfl qz94
 ·exact F0.setCells_ne (by omega)
 ·exact F1.setCells_ne (by omega)
 ·exact F2.setCells_ne (by omega)
 ·exact F3.setCells_ne (by omega)
theorem qz6z (B : Nat) (A : Ar) (s g n r : Value) (w : World) (hB : B <= w.heap.size) (hA : A.size <= 1048576) (I : qzd B w s g n r A) :
  Calls Tryd.prog 8 #[.agg #[.int .i64 A.camera, s, g, n, r]] w fun e w' => ∃ p0 p1 p2 p3, e = .returned (.agg #[.int .i64 A.camera, .slice (some ⟨p0, 0, none⟩) A.slots.length A.slots.length, .slice (some ⟨p1, 0, none⟩) A.guides.length A.guides.length, .slice (some ⟨p2, 0, none⟩) A.nodes.length A.nodes.length, .slice (some ⟨p3, 0, none⟩) A.vers.length A.vers.length]) /\
   qzd w'.heap.size w' (.slice (some ⟨p0, 0, none⟩) A.slots.length A.slots.length) (.slice (some ⟨p1, 0, none⟩) A.guides.length A.guides.length) (.slice (some ⟨p2, 0, none⟩) A.nodes.length A.nodes.length) (.slice (some ⟨p3, 0, none⟩) A.vers.length A.vers.length) A /\ Below w.heap.size w w' :=
 (qz38 B A s g n r w hB hA I).mono fun e w' ⟨p0, p1, p2, p3, he, h0, h1, h2, h3, h4, R0, R1, R2, R3, b⟩ => ⟨p0, p1, p2, p3, he, ⟨qz8.mk (by omega) R0.row, qz8.mk (by omega) R1.row, qz8.mk (by omega) R2.row, qz8.mk h4 R3.row⟩, b⟩
end
end Go.Proofs.YtlfjhcdjgoeafaaDoor
