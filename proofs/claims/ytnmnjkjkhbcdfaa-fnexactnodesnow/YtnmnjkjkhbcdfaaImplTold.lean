/-
  What the program says of views (chapter 4), as contracts: the two views as closures, the generic function that goes behind the head, what is told of a node, and NodesAt, NodesNow, PairsAt, PairsNow, InOrder over them. For every plan and every arena of at most 1048576 elements.
-/
import Derived.Test.YtnmnjkjkhbcdfaaSpecViews
import Derived.Test.YtnmnjkjkhbcdfaaImplVersion
import Derived.Test.YtnmnjkjkhbcdfaaMark
import Derived.Deep.AppendLies

namespace Go.Proofs.Ytnmnjkjkhbcdfaa
open Go.ChangeShapes Go.WideShapes Go.ChangeAt Go.RowKit
set_option linter.unusedVariables false
attribute [local go_sem ↓] Go.wp_at_zero Go.wp_at_succ

/-- What a view answers of a node. -/
def verOf (x y z u : Int) (A : Ar) (now : Bool) (st n : Int) : Int := if now then nowOf x y z u A n else atOf x y z u A n st
theorem verOf_right {x y z u : Int} {A : Ar} (h : arenaB x y z u A = true) (now : Bool) (st : Int) (n : Nat) (hn : n < A.nodes.length) : verOf x y z u A now st n = linkOf A now st n := by
  have h2 : hasB x y z u A n = true := by
    rw [hasB, h, Bool.true_and, inB_iff]
    omega
  unfold verOf linkOf nowOf atOf
  rw [h2]
  rfl
theorem verOf_wrong {x y z u : Int} {A : Ar} (h : arenaB x y z u A = false) (now : Bool) (st n : Int) : verOf x y z u A now st n = -1 := by
  have h2 : hasB x y z u A n = false := by rw [hasB, h, Bool.false_and]
  unfold verOf nowOf atOf
  rw [h2]
  cases now <;> rfl
theorem verOf_in (x y z u : Int) (A : Ar) (now : Bool) (st n : Int) : -1 ≤ verOf x y z u A now st n ∧ verOf x y z u A now st n < (A.vers.length : Int) ∧ (0 ≤ verOf x y z u A now st n → arenaB x y z u A = true) := by
  cases h : arenaB x y z u A
  · rw [verOf_wrong h]
    omega
  · cases h2 : inB n 0 ((A.nodes.length : Int) - 1)
    · have h3 : hasB x y z u A n = false := by rw [hasB, h2, Bool.and_false]
      have : verOf x y z u A now st n = -1 := by
        unfold verOf nowOf atOf
        rw [h3]
        cases now <;> rfl
      rw [this]
      exact ⟨by omega, by omega, fun _ => rfl⟩
    · have h4 := (inB_iff _ _ _).1 h2
      obtain ⟨k, rfl⟩ : ∃ k : Nat, n = k := ⟨n.toNat, by omega⟩
      have := linkOf_in h now st k (by omega)
      rw [verOf_right h now st k (by omega)]
      exact ⟨this.1, this.2, fun _ => rfl⟩
/-- The node behind a version, or -1. -/
def nextV (A : Ar) (c : Int) : Int := if c < 0 then -1 else (vrOf A c).next
theorem nextV_in {x y z u : Int} {A : Ar} (c : Int) (h : 0 ≤ c → arenaB x y z u A = true) (hc : c < (A.vers.length : Int)) : nextV A c = -1 ∨ ∃ k : Nat, nextV A c = k ∧ k < A.nodes.length ∧ 0 ≤ c := by
  unfold nextV
  split
  · exact Or.inl rfl
  · obtain ⟨m, rfl⟩ : ∃ m : Nat, c = m := ⟨c.toNat, by omega⟩
    have hm : m < A.vers.length := by omega
    have ha := h (by omega)
    rw [vrOf_nat A m hm]
    have := (allIdx_iff _ _).1 (arenaB_parts ha).2.2.2.2 m hm
    simp only [verB, Bool.and_eq_true, Bool.or_eq_true, inB_iff, beq_iff_eq] at this
    rcases this.1.1.1 with h1 | h1
    · exact Or.inl h1
    · exact Or.inr ⟨A.vers[m].next.toNat, by omega, by omega, by omega⟩
/-- The nodes behind a version: one step. -/
theorem nodesF_go (A : Ar) (now : Bool) (st : Int) (f : Nat) (c : Int) (k : Nat) (h : nextV A c = k) : nodesF A now st (f + 1) c = (k : Int) :: nodesF A now st f (linkOf A now st k) := by
  unfold nextV at h
  split at h
  · omega
  · rw [nodesF, if_neg (by omega), h]
theorem nodesF_end (A : Ar) (now : Bool) (st : Int) (f : Nat) (c : Int) (h : nextV A c = -1) : nodesF A now st f c = [] := by
  apply nodesF_stop
  unfold nextV at h
  split at h
  · exact Or.inl (by omega)
  · exact Or.inr (by omega)
theorem nodesL_ver (x y z u : Int) (A : Ar) (now : Bool) (st : Int) : nodesF A now st A.nodes.length (verOf x y z u A now st 0) = nodesL x y z u A now st := by
  unfold nodesL
  cases h : arenaB x y z u A
  · rw [verOf_wrong h, nodesF_stop A now st _ (Or.inl (by omega))]
    rfl
  · have := verOf_right h now st 0 (arenaB_some h).1
    rw [if_pos rfl]
    exact congrArg _ this

/-- What viewNow hands back: a closure over boxes that are new. -/
structure SeenNow (lo : Nat) (W : World) (f : Value) (b : Nat) (x y z u : Int) (A : Ar) (s g n r : Value) : Prop where
  is : f = .func (.func 60) #[] #[.pointer (some ⟨b, 0, none⟩), .pointer (some ⟨b + 1, 0, none⟩)]
  lo : lo ≤ b
  hi : b + 1 < W.heap.size
  plan : PlanAt W b x y z u
  row : W.rangeAt (b + 1) 0 [.int .i64 A.camera, s, g, n, r]

theorem SeenNow.below {lo : Nat} {W W' : World} {f : Value} {b : Nat} {x y z u : Int} {A : Ar} {s g n r : Value} (h : SeenNow lo W f b x y z u A s g n r) {C : Nat} (hb : Below C W W') (hC : b + 1 < C) : SeenNow lo W' f b x y z u A s g n r :=
  ⟨h.is, h.lo, Nat.lt_of_lt_of_le h.hi hb.size, ⟨(hb.cell (p := ⟨b, 0, none⟩) (by show b < C; omega)).trans h.plan.1, (hb.cell (p := ⟨b, 1, none⟩) (by show b < C; omega)).trans h.plan.2.1, (hb.cell (p := ⟨b, 2, none⟩) (by show b < C; omega)).trans h.plan.2.2.1, (hb.cell (p := ⟨b, 3, none⟩) (by show b < C; omega)).trans h.plan.2.2.2⟩, rangeAt_below h.row hb (by omega)⟩

theorem viewNow_any (A : Ar) (x y z u : Int) (a0 a1 a2 a3 : Option Addr) (c0 c1 c2 c3 : Nat) (w : World) :
    Calls Try.prog 45 #[.agg #[.int .i64 x, .int .i64 y, .int .i64 z, .int .i64 u], .agg #[.int .i64 A.camera, .slice a0 A.slots.length c0, .slice a1 A.guides.length c1, .slice a2 A.nodes.length c2, .slice a3 A.vers.length c3]] w fun e w' => e = .returned (.func (.func 60) #[] #[.pointer (some ⟨w.heap.size, 0, none⟩), .pointer (some ⟨w.heap.size + 1, 0, none⟩)]) ∧ w' = (w.alloc (.cells #[.int .i64 x, .int .i64 y, .int .i64 z, .int .i64 u] 31)).alloc (.cells #[.int .i64 A.camera, .slice a0 A.slots.length c0, .slice a1 A.guides.length c1, .slice a2 A.nodes.length c2, .slice a3 A.vers.length c3] 36) := by
  go_enter Try.func45, Try.ntmps45
  go_wp2
  go_ret
  exact ⟨rfl, rfl⟩

theorem viewNow_seen (A : Ar) (x y z u : Int) (a0 a1 a2 a3 : Option Addr) (c0 c1 c2 c3 : Nat) (w : World) :
    Calls Try.prog 45 #[.agg #[.int .i64 x, .int .i64 y, .int .i64 z, .int .i64 u], .agg #[.int .i64 A.camera, .slice a0 A.slots.length c0, .slice a1 A.guides.length c1, .slice a2 A.nodes.length c2, .slice a3 A.vers.length c3]] w fun e w' => ∃ f b, e = .returned f ∧ SeenNow w.heap.size w' f b x y z u A (.slice a0 A.slots.length c0) (.slice a1 A.guides.length c1) (.slice a2 A.nodes.length c2) (.slice a3 A.vers.length c3) ∧ Below w.heap.size w w' := by
  refine (viewNow_any A x y z u _ _ _ _ _ _ _ _ _).mono ?_
  rintro e w' ⟨rfl, rfl⟩
  have R := rangeAt_new (w.alloc (.cells #[.int .i64 x, .int .i64 y, .int .i64 z, .int .i64 u] 31)) [.int .i64 A.camera, .slice a0 A.slots.length c0, .slice a1 A.guides.length c1, .slice a2 A.nodes.length c2, .slice a3 A.vers.length c3] 36
  have P := (planAt_alloc w x y z u 31).below ((Below.refl _ _).alloc (Nat.le_refl _) (.cells #[.int .i64 A.camera, .slice a0 A.slots.length c0, .slice a1 A.guides.length c1, .slice a2 A.nodes.length c2, .slice a3 A.vers.length c3] 36)) (by simp)
  simp only [World.size_alloc] at R
  refine ⟨_, w.heap.size, rfl, ⟨rfl, Nat.le_refl _, by simp, P, R⟩, ?_⟩
  exact ((Below.refl _ _).alloc (Nat.le_refl _) _).alloc (by simp) _

set_option maxRecDepth 100000 in
set_option maxHeartbeats 1000000 in
theorem viewNow1_any (B b : Nat) (lo : Nat) (f : Value) (A : Ar) (x y z u : Int) (n : Int) (a0 a1 a2 a3 : Option Addr) (c0 c1 c2 c3 : Nat) (w : World) (hB : B ≤ w.heap.size) (hA : A.size ≤ 1048576) (I : ArenaIs B w (.slice a0 A.slots.length c0) (.slice a1 A.guides.length c1) (.slice a2 A.nodes.length c2) (.slice a3 A.vers.length c3) A) (S : SeenNow lo w f b x y z u A (.slice a0 A.slots.length c0) (.slice a1 A.guides.length c1) (.slice a2 A.nodes.length c2) (.slice a3 A.vers.length c3)) :
    Calls Try.prog 60 #[.int .i64 n, .pointer (some ⟨b, 0, none⟩), .pointer (some ⟨b + 1, 0, none⟩)] w fun e w' => e = .returned (.int .i64 (nowOf x y z u A n)) ∧ Below w.heap.size w w' := by
  obtain ⟨p0, p1, p2, p3⟩ := S.plan
  obtain ⟨x0, x1, x2, x3, x4⟩ := row5 S.row
  go_enter Try.func60, Try.ntmps60
  go_wp2_with fail
  refine (versionNow_any B A x y z u n _ _ _ _ _ _ _ _ _ hB hA I).mono ?_
  rintro e w1 ⟨rfl, b1⟩
  go_wp2
  go_ret
  exact ⟨rfl, b1⟩

/-- What viewAt hands back: a closure over boxes that are new. -/
structure SeenAt (lo : Nat) (W : World) (f : Value) (b : Nat) (x y z u : Int) (st : Int) (A : Ar) (s g n r : Value) : Prop where
  is : f = .func (.func 56) #[] #[.pointer (some ⟨b, 0, none⟩), .pointer (some ⟨b + 1, 0, none⟩), .pointer (some ⟨b + 2, 0, none⟩)]
  lo : lo ≤ b
  hi : b + 2 < W.heap.size
  plan : PlanAt W b x y z u
  row : W.rangeAt (b + 1) 0 [.int .i64 A.camera, s, g, n, r]
  at0 : W.cell? ⟨b + 2, 0, none⟩ = some (.int .i64 st)

theorem SeenAt.below {lo : Nat} {W W' : World} {f : Value} {b : Nat} {x y z u st : Int} {A : Ar} {s g n r : Value} (h : SeenAt lo W f b x y z u st A s g n r) {C : Nat} (hb : Below C W W') (hC : b + 2 < C) : SeenAt lo W' f b x y z u st A s g n r :=
  ⟨h.is, h.lo, Nat.lt_of_lt_of_le h.hi hb.size, ⟨(hb.cell (p := ⟨b, 0, none⟩) (by show b < C; omega)).trans h.plan.1, (hb.cell (p := ⟨b, 1, none⟩) (by show b < C; omega)).trans h.plan.2.1, (hb.cell (p := ⟨b, 2, none⟩) (by show b < C; omega)).trans h.plan.2.2.1, (hb.cell (p := ⟨b, 3, none⟩) (by show b < C; omega)).trans h.plan.2.2.2⟩, rangeAt_below h.row hb (by omega), (hb.cell (p := ⟨b + 2, 0, none⟩) hC).trans h.at0⟩

theorem viewAt_any (A : Ar) (x y z u : Int) (st : Int) (a0 a1 a2 a3 : Option Addr) (c0 c1 c2 c3 : Nat) (w : World) :
    Calls Try.prog 39 #[.agg #[.int .i64 x, .int .i64 y, .int .i64 z, .int .i64 u], .agg #[.int .i64 A.camera, .slice a0 A.slots.length c0, .slice a1 A.guides.length c1, .slice a2 A.nodes.length c2, .slice a3 A.vers.length c3], .int .i64 st] w fun e w' => e = .returned (.func (.func 56) #[] #[.pointer (some ⟨w.heap.size, 0, none⟩), .pointer (some ⟨w.heap.size + 1, 0, none⟩), .pointer (some ⟨w.heap.size + 2, 0, none⟩)]) ∧ w' = ((w.alloc (.cells #[.int .i64 x, .int .i64 y, .int .i64 z, .int .i64 u] 31)).alloc (.cells #[.int .i64 A.camera, .slice a0 A.slots.length c0, .slice a1 A.guides.length c1, .slice a2 A.nodes.length c2, .slice a3 A.vers.length c3] 36)).alloc (.cells #[.int .i64 st] 2) := by
  go_enter Try.func39, Try.ntmps39
  go_wp2
  go_ret
  exact ⟨rfl, rfl⟩

theorem viewAt_seen (A : Ar) (x y z u : Int) (st : Int) (a0 a1 a2 a3 : Option Addr) (c0 c1 c2 c3 : Nat) (w : World) :
    Calls Try.prog 39 #[.agg #[.int .i64 x, .int .i64 y, .int .i64 z, .int .i64 u], .agg #[.int .i64 A.camera, .slice a0 A.slots.length c0, .slice a1 A.guides.length c1, .slice a2 A.nodes.length c2, .slice a3 A.vers.length c3], .int .i64 st] w fun e w' => ∃ f b, e = .returned f ∧ SeenAt w.heap.size w' f b x y z u st A (.slice a0 A.slots.length c0) (.slice a1 A.guides.length c1) (.slice a2 A.nodes.length c2) (.slice a3 A.vers.length c3) ∧ Below w.heap.size w w' := by
  refine (viewAt_any A x y z u st _ _ _ _ _ _ _ _ _).mono ?_
  rintro e w' ⟨rfl, rfl⟩
  have R := rangeAt_new (w.alloc (.cells #[.int .i64 x, .int .i64 y, .int .i64 z, .int .i64 u] 31)) [.int .i64 A.camera, .slice a0 A.slots.length c0, .slice a1 A.guides.length c1, .slice a2 A.nodes.length c2, .slice a3 A.vers.length c3] 36
  have P := (planAt_alloc w x y z u 31).below ((Below.refl _ _).alloc (Nat.le_refl _) (.cells #[.int .i64 A.camera, .slice a0 A.slots.length c0, .slice a1 A.guides.length c1, .slice a2 A.nodes.length c2, .slice a3 A.vers.length c3] 36)) (by simp)
  simp only [World.size_alloc] at R
  have Q := rangeAt_new ((w.alloc (.cells #[.int .i64 x, .int .i64 y, .int .i64 z, .int .i64 u] 31)).alloc (.cells #[.int .i64 A.camera, .slice a0 A.slots.length c0, .slice a1 A.guides.length c1, .slice a2 A.nodes.length c2, .slice a3 A.vers.length c3] 36)) [.int .i64 st] 2 0 (.int .i64 st) rfl
  simp only [World.size_alloc] at Q
  refine ⟨_, w.heap.size, rfl, ⟨rfl, Nat.le_refl _, by simp, P.below ((Below.refl _ _).alloc (Nat.le_refl _) _) (by simp; omega), World.rangeAt_alloc R _, by simpa using Q⟩, ?_⟩
  exact (((Below.refl _ _).alloc (Nat.le_refl _) _).alloc (by simp) _).alloc (by simp; omega) _

set_option maxRecDepth 100000 in
set_option maxHeartbeats 1000000 in
theorem viewAt1_any (B b : Nat) (lo : Nat) (f : Value) (A : Ar) (x y z u : Int) (st : Int) (n : Int) (a0 a1 a2 a3 : Option Addr) (c0 c1 c2 c3 : Nat) (w : World) (hB : B ≤ w.heap.size) (hA : A.size ≤ 1048576) (I : ArenaIs B w (.slice a0 A.slots.length c0) (.slice a1 A.guides.length c1) (.slice a2 A.nodes.length c2) (.slice a3 A.vers.length c3) A) (S : SeenAt lo w f b x y z u st A (.slice a0 A.slots.length c0) (.slice a1 A.guides.length c1) (.slice a2 A.nodes.length c2) (.slice a3 A.vers.length c3)) :
    Calls Try.prog 56 #[.int .i64 n, .pointer (some ⟨b, 0, none⟩), .pointer (some ⟨b + 1, 0, none⟩), .pointer (some ⟨b + 2, 0, none⟩)] w fun e w' => e = .returned (.int .i64 (atOf x y z u A n st)) ∧ Below w.heap.size w w' := by
  obtain ⟨p0, p1, p2, p3⟩ := S.plan
  obtain ⟨x0, x1, x2, x3, x4⟩ := row5 S.row
  have q0 := S.at0
  go_enter Try.func56, Try.ntmps56
  go_wp2_with fail
  refine (versionAt_any B A x y z u n st _ _ _ _ _ _ _ _ _ hB hA I).mono ?_
  rintro e w1 ⟨rfl, b1⟩
  go_wp2
  go_ret
  exact ⟨rfl, b1⟩

set_option maxRecDepth 100000 in
set_option maxHeartbeats 1000000 in
theorem nextBy_any (B : Nat) (A : Ar) (c : Int) (a0 a1 a2 a3 : Option Addr) (c0 c1 c2 c3 : Nat) (w : World) (hB : B ≤ w.heap.size) (hA : A.size ≤ 1048576) (I : ArenaIs B w (.slice a0 A.slots.length c0) (.slice a1 A.guides.length c1) (.slice a2 A.nodes.length c2) (.slice a3 A.vers.length c3) A) (hc0 : -1 ≤ c) (hc1 : c < (A.vers.length : Int)) :
    Calls Try.prog 55 #[.agg #[.int .i64 A.camera, .slice a0 A.slots.length c0, .slice a1 A.guides.length c1, .slice a2 A.nodes.length c2, .slice a3 A.vers.length c3], .int .i64 c] w fun e w' => e = .returned (.int .i64 (nextV A c)) ∧ Below w.heap.size w w' := by
  unfold Ar.size at hA
  have X0 := rangeAt_new w [.int .i64 A.camera, .slice a0 A.slots.length c0, .slice a1 A.guides.length c1, .slice a2 A.nodes.length c2, .slice a3 A.vers.length c3] 36
  have K0 := (Below.refl w.heap.size w).alloc (Nat.le_refl _) (.cells #[.int .i64 A.camera, .slice a0 A.slots.length c0, .slice a1 A.guides.length c1, .slice a2 A.nodes.length c2, .slice a3 A.vers.length c3] 36)
  have I0 := I.below (K0.mono hB)
  obtain ⟨x0, x1, x2, x3, x4⟩ := row5 X0
  by_cases hneg : c < 0
  · have hv : nextV A c = -1 := by rw [nextV, if_pos hneg]
    obtain rfl : c = -1 := by omega
    go_enter Try.func55, Try.ntmps55
    go_wp2
    go_ret
    exact ⟨by first | rfl | (rw [hv]; rfl), K0⟩
  obtain ⟨m, rfl⟩ : ∃ m : Nat, c = m := ⟨c.toNat, by omega⟩
  have hm : m < A.vers.length := by omega
  have hm' : (m : Int) < (A.vers.length : Int) := by omega
  have hm0 : (0 : Int) ≤ (m : Int) := by omega
  have hm1 : ¬ ((m : Int) = -1) := by omega
  have hv : nextV A m = A.vers[m].next := by rw [nextV, if_neg hneg, vrOf_nat A m hm]
  obtain ⟨bb, off, rfl, hbb, R⟩ := SliceAt.at I0.r (by omega)
  have e0 := rangeAt_elem (sz := 5) (fun _ => rfl) R m hm 0 _ rfl
  simp only [Nat.add_zero] at e0
  clear R
  go_enter Try.func55, Try.ntmps55
  go_wp2
  go_ret
  exact ⟨by first | rfl | (rw [hv]; rfl), K0⟩

theorem nodeItself_any (a : Value) (n v : Int) (w : World) (s : Value) (A : Ar) (a0 a1 a2 a3 : Option Addr) (c0 c1 c2 c3 : Nat) :
    Calls Try.prog 40 #[.agg #[.int .i64 A.camera, .slice a0 A.slots.length c0, .slice a1 A.guides.length c1, .slice a2 A.nodes.length c2, .slice a3 A.vers.length c3], .int .i64 n, .int .i64 v] w fun e w' => e = .returned (.tuple #[.int .i64 n, .bool true]) ∧ Below w.heap.size w w' := by
  have K0 := (Below.refl w.heap.size w).alloc (Nat.le_refl _) (.cells #[.int .i64 A.camera, .slice a0 A.slots.length c0, .slice a1 A.guides.length c1, .slice a2 A.nodes.length c2, .slice a3 A.vers.length c3] 36)
  go_enter Try.func40, Try.ntmps40
  go_wp2
  go_ret2
  exact ⟨rfl, K0⟩

/-- What is told of a node, by a version of its. -/
def pairV (A : Ar) (c n : Int) : Option Pr := if 0 ≤ c ∧ (vrOf A c).gone = false then some ⟨(ndOf A n).key, (ndOf A n).value⟩ else none
theorem pairOf_ver (A : Ar) (now : Bool) (st n : Int) : pairOf A now st n = pairV A (linkOf A now st n) n := rfl
def prV : Option Pr → Value
  | some p => .agg #[.int .i64 p.key, .int .i64 p.value]
  | none => .agg #[.int .i64 0, .int .i64 0]

set_option maxRecDepth 100000 in
set_option maxHeartbeats 2000000 in
theorem pairIfIn_any (B : Nat) (A : Ar) (n : Nat) (c : Int) (a0 a1 a2 a3 : Option Addr) (c0 c1 c2 c3 : Nat) (w : World) (hB : B ≤ w.heap.size) (hA : A.size ≤ 1048576) (I : ArenaIs B w (.slice a0 A.slots.length c0) (.slice a1 A.guides.length c1) (.slice a2 A.nodes.length c2) (.slice a3 A.vers.length c3) A) (hn : n < A.nodes.length) (hc0 : -1 ≤ c) (hc1 : c < (A.vers.length : Int)) :
    Calls Try.prog 48 #[.agg #[.int .i64 A.camera, .slice a0 A.slots.length c0, .slice a1 A.guides.length c1, .slice a2 A.nodes.length c2, .slice a3 A.vers.length c3], .int .i64 n, .int .i64 c] w fun e w' => e = .returned (.tuple #[prV (pairV A c n), .bool (pairV A c n).isSome]) ∧ Below w.heap.size w w' := by
  unfold Ar.size at hA
  have X0 := World.rangeAt_alloc (rangeAt_new w [.int .i64 A.camera, .slice a0 A.slots.length c0, .slice a1 A.guides.length c1, .slice a2 A.nodes.length c2, .slice a3 A.vers.length c3] 36) (.cells #[.int .i64 0, .int .i64 0] 74)
  have K0 := ((Below.refl w.heap.size w).alloc (Nat.le_refl _) (.cells #[.int .i64 A.camera, .slice a0 A.slots.length c0, .slice a1 A.guides.length c1, .slice a2 A.nodes.length c2, .slice a3 A.vers.length c3] 36)).alloc (by simp) (.cells #[.int .i64 0, .int .i64 0] 74)
  have I0 := I.below (K0.mono hB)
  obtain ⟨x0, x1, x2, x3, x4⟩ := row5 X0
  have hn' : (n : Int) < (A.nodes.length : Int) := by omega
  have hn0 : (0 : Int) ≤ (n : Int) := by omega
  by_cases hneg : c < 0
  · have hv : pairV A c n = none := by rw [pairV, if_neg (by omega)]
    obtain rfl : c = -1 := by omega
    go_enter Try.func48, Try.ntmps48
    go_wp2
    exact bodyPost_ret (v := .tuple #[prV (pairV A (-1) n), .bool (pairV A (-1) n).isSome]) (by rw [hv]; simp [results, Try.results48, go_sem, prV]) rfl ⟨by first | rfl | (rw [hv]; rfl), by first | exact K0 | exact K1 | exact K1.drew⟩
  obtain ⟨m, rfl⟩ : ∃ m : Nat, c = m := ⟨c.toNat, by omega⟩
  have hm : m < A.vers.length := by omega
  have hm' : (m : Int) < (A.vers.length : Int) := by omega
  have hm0 : (0 : Int) ≤ (m : Int) := by omega
  have hm1 : ¬ ((m : Int) = -1) := by omega
  obtain ⟨bb, off, rfl, hbb, R⟩ := SliceAt.at I0.r (by omega)
  have e1 := rangeAt_elem (sz := 5) (fun _ => rfl) R m hm 1 _ rfl
  clear R
  cases hg : A.vers[m].gone
  case true =>
    have hv : pairV A m n = none := by rw [pairV, vrOf_nat A m hm, hg]; simp
    rw [hg] at e1
    go_enter Try.func48, Try.ntmps48
    go_wp2
    exact bodyPost_ret (v := .tuple #[prV (pairV A m n), .bool (pairV A m n).isSome]) (by rw [hv]; simp [results, Try.results48, go_sem, prV]) rfl ⟨by first | rfl | (rw [hv]; rfl), by first | exact K0 | exact K1 | exact K1.drew⟩
  have hv : pairV A m n = some ⟨A.nodes[n].key, A.nodes[n].value⟩ := by rw [pairV, vrOf_nat A m hm, hg, ndOf_nat A n hn]; simp
  rw [hg] at e1
  obtain ⟨bb2, off2, rfl, hbb2, R⟩ := SliceAt.at I0.n (by omega)
  have g0 := rangeAt_elem (sz := 3) (fun _ => rfl) R n hn 0 _ rfl
  have g1 := rangeAt_elem (sz := 3) (fun _ => rfl) R n hn 1 _ rfl
  simp only [Nat.add_zero] at g0
  clear R
  have K1 : Below w.heap.size w ((w.alloc (.cells #[.int .i64 A.camera, .slice a0 A.slots.length c0, .slice a1 A.guides.length c1, .slice (some ⟨bb2, off2, none⟩) A.nodes.length c2, .slice (some ⟨bb, off, none⟩) A.vers.length c3] 36)).alloc (.cells #[.int .i64 A.nodes[n].key, .int .i64 A.nodes[n].value] 74)) := ((Below.refl w.heap.size w).alloc (Nat.le_refl _) _).alloc (by simp) _
  have I1 := I.below (K1.mono hB)
  obtain ⟨bb3, off3, e3, hbb3, R⟩ := SliceAt.at I1.n (by omega)
  cases e3
  have g2 := rangeAt_elem (sz := 3) (fun _ => rfl) R n hn 0 _ rfl
  have g3 := rangeAt_elem (sz := 3) (fun _ => rfl) R n hn 1 _ rfl
  simp only [Nat.add_zero] at g2
  clear R
  go_enter Try.func48, Try.ntmps48
  go_wp2
  go_region_held3 (fun w' => w'.cell? ⟨w.heap.size, 3, none⟩ = some (.slice (some ⟨bb2, off2, none⟩) A.nodes.length c2) ∧ w'.cell? ⟨bb2, off2 + n * 3, none⟩ = some (.int .i64 A.nodes[n].key) ∧ w'.cell? ⟨bb2, off2 + n * 3 + 1, none⟩ = some (.int .i64 A.nodes[n].value)) (go_keep) (fail)
  go_wp2
  exact bodyPost_ret (v := .tuple #[prV (pairV A m n), .bool (pairV A m n).isSome]) (by rw [hv]; simp [results, Try.results48, go_sem, prV]) rfl ⟨by first | rfl | (rw [hv]; rfl), by first | exact K0 | exact K1 | exact K1.drew⟩

set_option maxRecDepth 100000 in
set_option maxHeartbeats 4000000 in
theorem toldNowNodes_any (B b lo : Nat) (f : Value) (A : Ar) (x y z u : Int) (a0 a1 a2 a3 : Option Addr) (c0 c1 c2 c3 : Nat) (w : World) (hB : B ≤ w.heap.size) (hA : A.size ≤ 1048576) (I : ArenaIs B w (.slice a0 A.slots.length c0) (.slice a1 A.guides.length c1) (.slice a2 A.nodes.length c2) (.slice a3 A.vers.length c3) A) (S : SeenNow lo w f b x y z u A (.slice a0 A.slots.length c0) (.slice a1 A.guides.length c1) (.slice a2 A.nodes.length c2) (.slice a3 A.vers.length c3)) :
    Calls Try.prog 38 #[.agg #[.int .i64 A.camera, .slice a0 A.slots.length c0, .slice a1 A.guides.length c1, .slice a2 A.nodes.length c2, .slice a3 A.vers.length c3], f, .func (.func 40) #[] #[]] w fun e w' => ∃ v lb, e = .returned v ∧ NewList w.heap.size w' v (nodesL x y z u A true 0).length 1 (cellsOf intC (nodesL x y z u A true 0)) lb ∧ Below w.heap.size w w' := by
  have hA' := hA
  unfold Ar.size at hA
  have X0 := World.rangeAt_alloc (rangeAt_new w [.int .i64 A.camera, .slice a0 A.slots.length c0, .slice a1 A.guides.length c1, .slice a2 A.nodes.length c2, .slice a3 A.vers.length c3] 36) (.cells #[] 2)
  have K0 := ((Below.refl w.heap.size w).alloc (Nat.le_refl _) (.cells #[.int .i64 A.camera, .slice a0 A.slots.length c0, .slice a1 A.guides.length c1, .slice a2 A.nodes.length c2, .slice a3 A.vers.length c3] 36)).alloc (by simp) (.cells #[] 2)
  have hz0 : w.heap.size + 1 < ((w.alloc (.cells #[.int .i64 A.camera, .slice a0 A.slots.length c0, .slice a1 A.guides.length c1, .slice a2 A.nodes.length c2, .slice a3 A.vers.length c3] 36)).alloc (.cells #[] 2)).heap.size := by simp
  have O0 := World.ownsRow_lit (base := w.heap.size + 1) (e := 2) (size := 1) (w.alloc (.cells #[.int .i64 A.camera, .slice a0 A.slots.length c0, .slice a1 A.guides.length c1, .slice a2 A.nodes.length c2, .slice a3 A.vers.length c3] 36)) #[] 0 (by simp) (by decide) (by simp)
  simp only [World.size_alloc] at O0
  have hb := S.hi
  have hL := nodesL_ver x y z u A true 0
  have hV : ∀ n, verOf x y z u A true 0 n = nowOf x y z u A n := fun _ => rfl
  obtain rfl := S.is
  go_enter Try.func38, Try.ntmps38
  go_wp2_with fail
  generalize hw0 : ((w.alloc (.cells #[.int .i64 A.camera, .slice a0 A.slots.length c0, .slice a1 A.guides.length c1, .slice a2 A.nodes.length c2, .slice a3 A.vers.length c3] 36)).alloc (.cells #[] 2)) = w0 at *
  clear hw0
  have S0 := S.below K0 (by omega)
  have I0 := I.below (K0.mono hB)
  refine (viewNow1_any B b lo _ A x y z u _ _ _ _ _ _ _ _ _ _ (Nat.le_trans hB K0.size) hA' I0 S0).mono ?_
  rintro e w1 ⟨rfl, b1⟩
  rw [← hV]
  have hin := verOf_in x y z u A true 0 0
  have X1 := rangeAt_below X0 b1 (by omega)
  have K1 := K0.trans (b1.mono (by omega))
  have I1 := I.below (K1.mono hB)
  have S1 := S.below K1 (by omega)
  have O1 := own_below O0 b1 (fun j e => by simp [Value.ownBlock] at e; omega)
  have hz1 := Nat.lt_of_lt_of_le hz0 b1.size
  clear X0 K0 I I0 S S0 O0 b1 hz0
  obtain ⟨x0, x1, x2, x3, x4⟩ := row5 X1
  obtain ⟨i0, hi, hzr, hsz, hby⟩ := info_parts infoInt
  generalize verOf x y z u A true 0 0 = d0 at *
  go_wp2
  clear x0 x1 x2 x3 x4
  go_loopw [7, 8, 18] (fun o v i wr => ∃ (k : Nat) (ds : List Int) (c : Int), k ≤ A.nodes.length ∧ i = .int .i64 k ∧ v = .int .i64 c ∧ -1 ≤ c ∧ c < (A.vers.length : Int) ∧ (0 ≤ c → arenaB x y z u A = true) ∧ wr.ownsRow (w.heap.size + 1) 2 1 o ds.length (cellsOf intC ds) ∧ ds.length ≤ k ∧ Hid (ds ++ nodesF A true 0 (A.nodes.length - k) c = (nodesL x y z u A true 0)) ∧ Below (w.heap.size + 1) w1 wr) (fun _ _ i _ => A.nodes.length - (intOf i).toNat)
  case atStart => exact ⟨0, [], _, Nat.zero_le _, rfl, rfl, hin.1, hin.2.1, hin.2.2, O1, Nat.le_refl _, by show _ = _; rw [List.nil_append, Nat.sub_zero, hL], Below.refl _ _⟩
  case round =>
    obtain ⟨k, ds, c, hk, rfl, rfl, hc0, hc1, hca, own, hdk, hs, bel⟩ := hrel
    obtain ⟨oa, oc, rfl⟩ := own_is own
    have hz := bel.size
    by_cases hlt : k < A.nodes.length
    case neg =>
      have hv : Hid ((nodesL x y z u A true 0) = ds) := by show _ = _; rw [← hs.out, show A.nodes.length - k = 0 by omega]; simp [nodesF]
      obtain ⟨lb, N⟩ := own_new own
      have hkk : ¬ ((k : Int) < (A.nodes.length : Int)) := by omega
      have KX := K1.trans (bel.mono (by omega))
      clear own hs
      go_wp2
      go_ret
      have NN : NewList w.heap.size wr (.slice oa ds.length oc) (nodesL x y z u A true 0).length 1 (cellsOf intC (nodesL x y z u A true 0)) lb := by rw [hv.out]; exact N.lo (by omega)
      first | exact ⟨_, lb, rfl, NN, KX⟩ | exact ⟨_, rfl, ⟨lb, NN⟩, KX⟩
    have hk0 : (0 : Int) ≤ (k : Int) := by omega
    have hk1 : (k : Int) < (A.nodes.length : Int) := by omega
    obtain ⟨x0, x1, x2, x3, x4⟩ := row5 (rangeAt_below X1 bel (by omega))
    have hnx := nextV_in c hca hc1
    go_wp2_with fail
    refine (nextBy_any B A c _ _ _ _ _ _ _ _ _ (by omega) hA' (I1.below (bel.mono (by omega))) hc0 hc1).mono ?_
    rintro e w2 ⟨rfl, b2⟩
    have bel2 := bel.trans (b2.mono (by omega))
    have own2 := own_below own b2 (fun j e => own_lt own e)
    have hz2 := bel2.size
    clear own b2 bel hz x0 x1 x2 x3 x4
    rcases hnx with hnx | ⟨k2, hnx, hk2, hcc⟩
    · have hv : Hid ((nodesL x y z u A true 0) = ds) := by show _ = _; rw [← hs.out, nodesF_end A _ _ _ c hnx]; simp
      obtain ⟨lb, N⟩ := own_new own2
      have KX := K1.trans (bel2.mono (by omega))
      clear own2 hs
      rw [hnx]
      go_wp2
      go_ret
      have NN : NewList w.heap.size w2 (.slice oa ds.length oc) (nodesL x y z u A true 0).length 1 (cellsOf intC (nodesL x y z u A true 0)) lb := by rw [hv.out]; exact N.lo (by omega)
      first | exact ⟨_, lb, rfl, NN, KX⟩ | exact ⟨_, rfl, ⟨lb, NN⟩, KX⟩
    have hq := hca hcc
    have hstep := nodesF_go A true 0 (A.nodes.length - (k + 1)) c k2 hnx
    rw [show A.nodes.length - (k + 1) + 1 = A.nodes.length - k by omega] at hstep
    rw [hnx]
    have hk20 : ¬ ((k2 : Int) = -1) := by omega
    have hk21 : (0 : Int) ≤ (k2 : Int) := by omega
    have hk22 : (k2 : Int) < (A.nodes.length : Int) := by omega
    have hvk := verOf_right hq true 0 k2 hk2
    have hlk := linkOf_in hq true 0 k2 hk2
    clear hnx
    go_wp2_with fail
    refine (viewNow1_any B b lo _ A x y z u _ _ _ _ _ _ _ _ _ _ (by omega) hA' (I1.below (bel2.mono (by omega))) (S1.below bel2 (by omega))).mono ?_
    rintro e w3 ⟨rfl, b3⟩
    rw [← hV, hvk]
    have bel3 := bel2.trans (b3.mono (by omega))
    have own3 := own_below own2 b3 (fun j e => own_lt own2 e)
    have hz3 := bel3.size
    clear own2 b3 bel2 hz2
    obtain ⟨x0, x1, x2, x3, x4⟩ := row5 (rangeAt_below X1 bel3 (by omega))
    skip
    generalize linkOf A true 0 k2 = d at *
    go_wp2_with fail
    refine (nodeItself_any (.int .i64 0) _ _ _ (.int .i64 0) A _ _ _ _ _ _ _ _).mono ?_
    rintro e w4 ⟨rfl, b4⟩
    have hs2 : Hid ((ds ++ [(k2 : Int)]) ++ nodesF A true 0 (A.nodes.length - (k + 1)) d = (nodesL x y z u A true 0)) := by
      show _ = _
      rw [← hs.out, hstep, List.append_assoc]
      rfl
    have bel4 := bel3.trans (b4.mono (by omega))
    have own4 := own_below own3 b4 (fun j e => own_lt own3 e)
    have hz4 := bel4.size
    clear own3 b4 bel3 hz3 hs hstep x0 x1 x2 x3 x4
    go_wp2_with (at_builtin; refine wpList_append_own _ rfl _ _ 24 rfl (w.heap.size + 1) 2 i0 (.int .i64 0) 1 8 Try.underlying24 hi hzr hsz hby rfl (by decide) _ _ _ rfl (own4.alloc _) ⟨w4.heap.size, 0, none⟩ 1 1 [.int .i64 (k2 : Int)] rfl rfl ?c1 ?c2 ?c3 ?c4 ?c5 ?_)
    try (case c1 => intro j u hj; rcases j with _ | j; (simp at hj; subst hj; simp [Addr.add]); simp at hj)
    try (case c2 => first | rfl | (intro u hu; simp at hu; subst hu; rfl))
    try (case c3 => unfold maxLen; omega)
    try (case c4 => omega)
    try (case c5 => first | omega | (simp; omega))
    intro v' w5 hown' hgrow _
    have b5 : Below (w.heap.size + 1) w4 w5 := ((Below.refl _ w4).alloc (by omega) _).grown hgrow (by simp; omega) (fun j e => own_ge own4 e)
    replace hown' : w5.ownsRow (w.heap.size + 1) 2 1 v' (ds ++ [(k2 : Int)]).length (cellsOf intC (ds ++ [(k2 : Int)])) := by rw [cellsOf_snoc, List.length_append]; exact hown'
    have bel5 := bel4.trans b5
    clear own4 hgrow
    go_wp2
    go_roundw
    case rel => exact ⟨k + 1, _, _, by omega, by go_num, rfl, hlk.1, hlk.2, fun _ => hq, hown', by simp; omega, hs2, bel5⟩
    case measure => simp [intOf]; omega

set_option maxRecDepth 100000 in
set_option maxHeartbeats 4000000 in
theorem toldNowPairs_any (B b lo : Nat) (f : Value) (A : Ar) (x y z u : Int) (a0 a1 a2 a3 : Option Addr) (c0 c1 c2 c3 : Nat) (w : World) (hB : B ≤ w.heap.size) (hA : A.size ≤ 1048576) (I : ArenaIs B w (.slice a0 A.slots.length c0) (.slice a1 A.guides.length c1) (.slice a2 A.nodes.length c2) (.slice a3 A.vers.length c3) A) (S : SeenNow lo w f b x y z u A (.slice a0 A.slots.length c0) (.slice a1 A.guides.length c1) (.slice a2 A.nodes.length c2) (.slice a3 A.vers.length c3)) :
    Calls Try.prog 47 #[.agg #[.int .i64 A.camera, .slice a0 A.slots.length c0, .slice a1 A.guides.length c1, .slice a2 A.nodes.length c2, .slice a3 A.vers.length c3], f, .func (.func 48) #[] #[]] w fun e w' => ∃ v lb, e = .returned v ∧ NewList w.heap.size w' v (pairsL x y z u A true 0).length 2 (cellsOf prC (pairsL x y z u A true 0)) lb ∧ Below w.heap.size w w' := by
  have hA' := hA
  unfold Ar.size at hA
  have X0 := World.rangeAt_alloc (rangeAt_new w [.int .i64 A.camera, .slice a0 A.slots.length c0, .slice a1 A.guides.length c1, .slice a2 A.nodes.length c2, .slice a3 A.vers.length c3] 36) (.cells #[] 74)
  have K0 := ((Below.refl w.heap.size w).alloc (Nat.le_refl _) (.cells #[.int .i64 A.camera, .slice a0 A.slots.length c0, .slice a1 A.guides.length c1, .slice a2 A.nodes.length c2, .slice a3 A.vers.length c3] 36)).alloc (by simp) (.cells #[] 74)
  have hz0 : w.heap.size + 1 < ((w.alloc (.cells #[.int .i64 A.camera, .slice a0 A.slots.length c0, .slice a1 A.guides.length c1, .slice a2 A.nodes.length c2, .slice a3 A.vers.length c3] 36)).alloc (.cells #[] 74)).heap.size := by simp
  have O0 := World.ownsRow_lit (base := w.heap.size + 1) (e := 74) (size := 2) (w.alloc (.cells #[.int .i64 A.camera, .slice a0 A.slots.length c0, .slice a1 A.guides.length c1, .slice a2 A.nodes.length c2, .slice a3 A.vers.length c3] 36)) #[] 0 (by simp) (by decide) (by simp)
  simp only [World.size_alloc] at O0
  have hb := S.hi
  have hL := nodesL_ver x y z u A true 0
  have hV : ∀ n, verOf x y z u A true 0 n = nowOf x y z u A n := fun _ => rfl
  obtain rfl := S.is
  go_enter Try.func47, Try.ntmps47
  go_wp2_with fail
  generalize hw0 : ((w.alloc (.cells #[.int .i64 A.camera, .slice a0 A.slots.length c0, .slice a1 A.guides.length c1, .slice a2 A.nodes.length c2, .slice a3 A.vers.length c3] 36)).alloc (.cells #[] 74)) = w0 at *
  clear hw0
  have S0 := S.below K0 (by omega)
  have I0 := I.below (K0.mono hB)
  refine (viewNow1_any B b lo _ A x y z u _ _ _ _ _ _ _ _ _ _ (Nat.le_trans hB K0.size) hA' I0 S0).mono ?_
  rintro e w1 ⟨rfl, b1⟩
  rw [← hV]
  have hin := verOf_in x y z u A true 0 0
  have X1 := rangeAt_below X0 b1 (by omega)
  have K1 := K0.trans (b1.mono (by omega))
  have I1 := I.below (K1.mono hB)
  have S1 := S.below K1 (by omega)
  have O1 := own_below O0 b1 (fun j e => by simp [Value.ownBlock] at e; omega)
  have hz1 := Nat.lt_of_lt_of_le hz0 b1.size
  clear X0 K0 I I0 S S0 O0 b1 hz0
  obtain ⟨x0, x1, x2, x3, x4⟩ := row5 X1
  obtain ⟨i0, hi, hzr, hsz, hby⟩ := info_parts infoPair
  generalize verOf x y z u A true 0 0 = d0 at *
  go_wp2
  clear x0 x1 x2 x3 x4
  go_loopw [7, 8, 18] (fun o v i wr => ∃ (k : Nat) (ds : List Pr) (c : Int), k ≤ A.nodes.length ∧ i = .int .i64 k ∧ v = .int .i64 c ∧ -1 ≤ c ∧ c < (A.vers.length : Int) ∧ (0 ≤ c → arenaB x y z u A = true) ∧ wr.ownsRow (w.heap.size + 1) 74 2 o ds.length (cellsOf prC ds) ∧ ds.length ≤ k ∧ Hid (ds ++ (nodesF A true 0 (A.nodes.length - k) c).filterMap (pairOf A true 0) = (pairsL x y z u A true 0)) ∧ Below (w.heap.size + 1) w1 wr) (fun _ _ i _ => A.nodes.length - (intOf i).toNat)
  case atStart => exact ⟨0, [], _, Nat.zero_le _, rfl, rfl, hin.1, hin.2.1, hin.2.2, O1, Nat.le_refl _, by show _ = _; rw [List.nil_append, Nat.sub_zero, hL]; rfl, Below.refl _ _⟩
  case round =>
    obtain ⟨k, ds, c, hk, rfl, rfl, hc0, hc1, hca, own, hdk, hs, bel⟩ := hrel
    obtain ⟨oa, oc, rfl⟩ := own_is own
    have hz := bel.size
    by_cases hlt : k < A.nodes.length
    case neg =>
      have hv : Hid ((pairsL x y z u A true 0) = ds) := by show _ = _; rw [← hs.out, show A.nodes.length - k = 0 by omega]; simp [nodesF]
      obtain ⟨lb, N⟩ := own_new own
      have hkk : ¬ ((k : Int) < (A.nodes.length : Int)) := by omega
      have KX := K1.trans (bel.mono (by omega))
      clear own hs
      go_wp2
      go_ret
      have NN : NewList w.heap.size wr (.slice oa ds.length oc) (pairsL x y z u A true 0).length 2 (cellsOf prC (pairsL x y z u A true 0)) lb := by rw [hv.out]; exact N.lo (by omega)
      first | exact ⟨_, lb, rfl, NN, KX⟩ | exact ⟨_, rfl, ⟨lb, NN⟩, KX⟩
    have hk0 : (0 : Int) ≤ (k : Int) := by omega
    have hk1 : (k : Int) < (A.nodes.length : Int) := by omega
    obtain ⟨x0, x1, x2, x3, x4⟩ := row5 (rangeAt_below X1 bel (by omega))
    have hnx := nextV_in c hca hc1
    go_wp2_with fail
    refine (nextBy_any B A c _ _ _ _ _ _ _ _ _ (by omega) hA' (I1.below (bel.mono (by omega))) hc0 hc1).mono ?_
    rintro e w2 ⟨rfl, b2⟩
    have bel2 := bel.trans (b2.mono (by omega))
    have own2 := own_below own b2 (fun j e => own_lt own e)
    have hz2 := bel2.size
    clear own b2 bel hz x0 x1 x2 x3 x4
    rcases hnx with hnx | ⟨k2, hnx, hk2, hcc⟩
    · have hv : Hid ((pairsL x y z u A true 0) = ds) := by show _ = _; rw [← hs.out, nodesF_end A _ _ _ c hnx]; simp
      obtain ⟨lb, N⟩ := own_new own2
      have KX := K1.trans (bel2.mono (by omega))
      clear own2 hs
      rw [hnx]
      go_wp2
      go_ret
      have NN : NewList w.heap.size w2 (.slice oa ds.length oc) (pairsL x y z u A true 0).length 2 (cellsOf prC (pairsL x y z u A true 0)) lb := by rw [hv.out]; exact N.lo (by omega)
      first | exact ⟨_, lb, rfl, NN, KX⟩ | exact ⟨_, rfl, ⟨lb, NN⟩, KX⟩
    have hq := hca hcc
    have hstep := nodesF_go A true 0 (A.nodes.length - (k + 1)) c k2 hnx
    rw [show A.nodes.length - (k + 1) + 1 = A.nodes.length - k by omega] at hstep
    rw [hnx]
    have hk20 : ¬ ((k2 : Int) = -1) := by omega
    have hk21 : (0 : Int) ≤ (k2 : Int) := by omega
    have hk22 : (k2 : Int) < (A.nodes.length : Int) := by omega
    have hvk := verOf_right hq true 0 k2 hk2
    have hlk := linkOf_in hq true 0 k2 hk2
    clear hnx
    go_wp2_with fail
    refine (viewNow1_any B b lo _ A x y z u _ _ _ _ _ _ _ _ _ _ (by omega) hA' (I1.below (bel2.mono (by omega))) (S1.below bel2 (by omega))).mono ?_
    rintro e w3 ⟨rfl, b3⟩
    rw [← hV, hvk]
    have bel3 := bel2.trans (b3.mono (by omega))
    have own3 := own_below own2 b3 (fun j e => own_lt own2 e)
    have hz3 := bel3.size
    clear own2 b3 bel2 hz2
    obtain ⟨x0, x1, x2, x3, x4⟩ := row5 (rangeAt_below X1 bel3 (by omega))
    have hpo := pairOf_ver A true 0 k2
    generalize linkOf A true 0 k2 = d at *
    go_wp2_with fail
    refine (pairIfIn_any B A k2 d _ _ _ _ _ _ _ _ _ (by omega) hA' (I1.below (bel3.mono (by omega))) hk2 hlk.1 hlk.2).mono ?_
    rintro e w4 ⟨rfl, b4⟩
    have hs2 : Hid ((ds ++ (pairV A d k2).toList) ++ (nodesF A true 0 (A.nodes.length - (k + 1)) d).filterMap (pairOf A true 0) = (pairsL x y z u A true 0)) := by
      show _ = _
      rw [← hs.out, hstep, List.append_assoc, List.filterMap_cons, hpo]
      cases pairV A d k2 <;> rfl
    clear hpo
    have bel4 := bel3.trans (b4.mono (by omega))
    have own4 := own_below own3 b4 (fun j e => own_lt own3 e)
    have hz4 := bel4.size
    clear own3 b4 bel3 hz3 hs hstep x0 x1 x2 x3 x4
    generalize pairV A d k2 = pv at *
    cases pv
    case none =>
      simp only [prV, Option.isSome_none]
      go_wp2
      go_roundw
      case rel => exact ⟨k + 1, ds, _, by omega, by go_num, rfl, hlk.1, hlk.2, fun _ => hq, own4.alloc _, by omega, by simpa using hs2, bel4.alloc (by omega) _⟩
      case measure => simp [intOf]; omega
    rename_i p
    rw [Option.toList_some] at hs2
    simp only [prV, Option.isSome_some]
    go_wp2_with (at_builtin; refine wpList_append_own _ rfl _ _ 45 rfl (w.heap.size + 1) 74 i0 (.agg #[.int .i64 0, .int .i64 0]) 2 16 Try.underlying45 hi hzr hsz hby rfl (by decide) _ _ _ rfl ((own4.alloc _).alloc _) ⟨w4.heap.size + 1, 0, none⟩ 1 1 (prC p) rfl rfl ?c1 ?c2 ?c3 ?c4 ?c5 ?_)
    try (case c1 => have hn2 := new_elem2 (w4.alloc (.cells #[.int .i64 p.key, .int .i64 p.value] 74)) (.int .i64 p.key) (.int .i64 p.value) 74; simp only [World.size_alloc] at hn2; exact hn2)
    try (case c2 => first | rfl | exact onePair _)
    try (case c3 => unfold maxLen; omega)
    try (case c4 => omega)
    try (case c5 => first | omega | (simp; omega))
    intro v' w5 hown' hgrow _
    have b5 : Below (w.heap.size + 1) w4 w5 := (((Below.refl _ w4).alloc (by omega) _).alloc (by simp; omega) _).grown hgrow (by simp; omega) (fun j e => own_ge own4 e)
    replace hown' : w5.ownsRow (w.heap.size + 1) 74 2 v' (ds ++ [p]).length (cellsOf prC (ds ++ [p])) := by rw [cellsOf_snoc, List.length_append]; exact hown'
    have bel5 := bel4.trans b5
    clear own4 hgrow
    go_wp2
    go_roundw
    case rel => exact ⟨k + 1, _, _, by omega, by go_num, rfl, hlk.1, hlk.2, fun _ => hq, hown', by simp; omega, hs2, bel5⟩
    case measure => simp [intOf]; omega

set_option maxRecDepth 100000 in
set_option maxHeartbeats 4000000 in
theorem toldAtNodes_any (B b lo : Nat) (f : Value) (A : Ar) (x y z u : Int) (st : Int) (a0 a1 a2 a3 : Option Addr) (c0 c1 c2 c3 : Nat) (w : World) (hB : B ≤ w.heap.size) (hA : A.size ≤ 1048576) (I : ArenaIs B w (.slice a0 A.slots.length c0) (.slice a1 A.guides.length c1) (.slice a2 A.nodes.length c2) (.slice a3 A.vers.length c3) A) (S : SeenAt lo w f b x y z u st A (.slice a0 A.slots.length c0) (.slice a1 A.guides.length c1) (.slice a2 A.nodes.length c2) (.slice a3 A.vers.length c3)) :
    Calls Try.prog 38 #[.agg #[.int .i64 A.camera, .slice a0 A.slots.length c0, .slice a1 A.guides.length c1, .slice a2 A.nodes.length c2, .slice a3 A.vers.length c3], f, .func (.func 40) #[] #[]] w fun e w' => ∃ v lb, e = .returned v ∧ NewList w.heap.size w' v (nodesL x y z u A false st).length 1 (cellsOf intC (nodesL x y z u A false st)) lb ∧ Below w.heap.size w w' := by
  have hA' := hA
  unfold Ar.size at hA
  have X0 := World.rangeAt_alloc (rangeAt_new w [.int .i64 A.camera, .slice a0 A.slots.length c0, .slice a1 A.guides.length c1, .slice a2 A.nodes.length c2, .slice a3 A.vers.length c3] 36) (.cells #[] 2)
  have K0 := ((Below.refl w.heap.size w).alloc (Nat.le_refl _) (.cells #[.int .i64 A.camera, .slice a0 A.slots.length c0, .slice a1 A.guides.length c1, .slice a2 A.nodes.length c2, .slice a3 A.vers.length c3] 36)).alloc (by simp) (.cells #[] 2)
  have hz0 : w.heap.size + 1 < ((w.alloc (.cells #[.int .i64 A.camera, .slice a0 A.slots.length c0, .slice a1 A.guides.length c1, .slice a2 A.nodes.length c2, .slice a3 A.vers.length c3] 36)).alloc (.cells #[] 2)).heap.size := by simp
  have O0 := World.ownsRow_lit (base := w.heap.size + 1) (e := 2) (size := 1) (w.alloc (.cells #[.int .i64 A.camera, .slice a0 A.slots.length c0, .slice a1 A.guides.length c1, .slice a2 A.nodes.length c2, .slice a3 A.vers.length c3] 36)) #[] 0 (by simp) (by decide) (by simp)
  simp only [World.size_alloc] at O0
  have hb := S.hi
  have hL := nodesL_ver x y z u A false st
  have hV : ∀ n, verOf x y z u A false st n = atOf x y z u A n st := fun _ => rfl
  obtain rfl := S.is
  go_enter Try.func38, Try.ntmps38
  go_wp2_with fail
  generalize hw0 : ((w.alloc (.cells #[.int .i64 A.camera, .slice a0 A.slots.length c0, .slice a1 A.guides.length c1, .slice a2 A.nodes.length c2, .slice a3 A.vers.length c3] 36)).alloc (.cells #[] 2)) = w0 at *
  clear hw0
  have S0 := S.below K0 (by omega)
  have I0 := I.below (K0.mono hB)
  refine (viewAt1_any B b lo _ A x y z u st _ _ _ _ _ _ _ _ _ _ (Nat.le_trans hB K0.size) hA' I0 S0).mono ?_
  rintro e w1 ⟨rfl, b1⟩
  rw [← hV]
  have hin := verOf_in x y z u A false st 0
  have X1 := rangeAt_below X0 b1 (by omega)
  have K1 := K0.trans (b1.mono (by omega))
  have I1 := I.below (K1.mono hB)
  have S1 := S.below K1 (by omega)
  have O1 := own_below O0 b1 (fun j e => by simp [Value.ownBlock] at e; omega)
  have hz1 := Nat.lt_of_lt_of_le hz0 b1.size
  clear X0 K0 I I0 S S0 O0 b1 hz0
  obtain ⟨x0, x1, x2, x3, x4⟩ := row5 X1
  obtain ⟨i0, hi, hzr, hsz, hby⟩ := info_parts infoInt
  generalize verOf x y z u A false st 0 = d0 at *
  go_wp2
  clear x0 x1 x2 x3 x4
  go_loopw [7, 8, 18] (fun o v i wr => ∃ (k : Nat) (ds : List Int) (c : Int), k ≤ A.nodes.length ∧ i = .int .i64 k ∧ v = .int .i64 c ∧ -1 ≤ c ∧ c < (A.vers.length : Int) ∧ (0 ≤ c → arenaB x y z u A = true) ∧ wr.ownsRow (w.heap.size + 1) 2 1 o ds.length (cellsOf intC ds) ∧ ds.length ≤ k ∧ Hid (ds ++ nodesF A false st (A.nodes.length - k) c = (nodesL x y z u A false st)) ∧ Below (w.heap.size + 1) w1 wr) (fun _ _ i _ => A.nodes.length - (intOf i).toNat)
  case atStart => exact ⟨0, [], _, Nat.zero_le _, rfl, rfl, hin.1, hin.2.1, hin.2.2, O1, Nat.le_refl _, by show _ = _; rw [List.nil_append, Nat.sub_zero, hL], Below.refl _ _⟩
  case round =>
    obtain ⟨k, ds, c, hk, rfl, rfl, hc0, hc1, hca, own, hdk, hs, bel⟩ := hrel
    obtain ⟨oa, oc, rfl⟩ := own_is own
    have hz := bel.size
    by_cases hlt : k < A.nodes.length
    case neg =>
      have hv : Hid ((nodesL x y z u A false st) = ds) := by show _ = _; rw [← hs.out, show A.nodes.length - k = 0 by omega]; simp [nodesF]
      obtain ⟨lb, N⟩ := own_new own
      have hkk : ¬ ((k : Int) < (A.nodes.length : Int)) := by omega
      have KX := K1.trans (bel.mono (by omega))
      clear own hs
      go_wp2
      go_ret
      have NN : NewList w.heap.size wr (.slice oa ds.length oc) (nodesL x y z u A false st).length 1 (cellsOf intC (nodesL x y z u A false st)) lb := by rw [hv.out]; exact N.lo (by omega)
      first | exact ⟨_, lb, rfl, NN, KX⟩ | exact ⟨_, rfl, ⟨lb, NN⟩, KX⟩
    have hk0 : (0 : Int) ≤ (k : Int) := by omega
    have hk1 : (k : Int) < (A.nodes.length : Int) := by omega
    obtain ⟨x0, x1, x2, x3, x4⟩ := row5 (rangeAt_below X1 bel (by omega))
    have hnx := nextV_in c hca hc1
    go_wp2_with fail
    refine (nextBy_any B A c _ _ _ _ _ _ _ _ _ (by omega) hA' (I1.below (bel.mono (by omega))) hc0 hc1).mono ?_
    rintro e w2 ⟨rfl, b2⟩
    have bel2 := bel.trans (b2.mono (by omega))
    have own2 := own_below own b2 (fun j e => own_lt own e)
    have hz2 := bel2.size
    clear own b2 bel hz x0 x1 x2 x3 x4
    rcases hnx with hnx | ⟨k2, hnx, hk2, hcc⟩
    · have hv : Hid ((nodesL x y z u A false st) = ds) := by show _ = _; rw [← hs.out, nodesF_end A _ _ _ c hnx]; simp
      obtain ⟨lb, N⟩ := own_new own2
      have KX := K1.trans (bel2.mono (by omega))
      clear own2 hs
      rw [hnx]
      go_wp2
      go_ret
      have NN : NewList w.heap.size w2 (.slice oa ds.length oc) (nodesL x y z u A false st).length 1 (cellsOf intC (nodesL x y z u A false st)) lb := by rw [hv.out]; exact N.lo (by omega)
      first | exact ⟨_, lb, rfl, NN, KX⟩ | exact ⟨_, rfl, ⟨lb, NN⟩, KX⟩
    have hq := hca hcc
    have hstep := nodesF_go A false st (A.nodes.length - (k + 1)) c k2 hnx
    rw [show A.nodes.length - (k + 1) + 1 = A.nodes.length - k by omega] at hstep
    rw [hnx]
    have hk20 : ¬ ((k2 : Int) = -1) := by omega
    have hk21 : (0 : Int) ≤ (k2 : Int) := by omega
    have hk22 : (k2 : Int) < (A.nodes.length : Int) := by omega
    have hvk := verOf_right hq false st k2 hk2
    have hlk := linkOf_in hq false st k2 hk2
    clear hnx
    go_wp2_with fail
    refine (viewAt1_any B b lo _ A x y z u st _ _ _ _ _ _ _ _ _ _ (by omega) hA' (I1.below (bel2.mono (by omega))) (S1.below bel2 (by omega))).mono ?_
    rintro e w3 ⟨rfl, b3⟩
    rw [← hV, hvk]
    have bel3 := bel2.trans (b3.mono (by omega))
    have own3 := own_below own2 b3 (fun j e => own_lt own2 e)
    have hz3 := bel3.size
    clear own2 b3 bel2 hz2
    obtain ⟨x0, x1, x2, x3, x4⟩ := row5 (rangeAt_below X1 bel3 (by omega))
    skip
    generalize linkOf A false st k2 = d at *
    go_wp2_with fail
    refine (nodeItself_any (.int .i64 0) _ _ _ (.int .i64 0) A _ _ _ _ _ _ _ _).mono ?_
    rintro e w4 ⟨rfl, b4⟩
    have hs2 : Hid ((ds ++ [(k2 : Int)]) ++ nodesF A false st (A.nodes.length - (k + 1)) d = (nodesL x y z u A false st)) := by
      show _ = _
      rw [← hs.out, hstep, List.append_assoc]
      rfl
    have bel4 := bel3.trans (b4.mono (by omega))
    have own4 := own_below own3 b4 (fun j e => own_lt own3 e)
    have hz4 := bel4.size
    clear own3 b4 bel3 hz3 hs hstep x0 x1 x2 x3 x4
    go_wp2_with (at_builtin; refine wpList_append_own _ rfl _ _ 24 rfl (w.heap.size + 1) 2 i0 (.int .i64 0) 1 8 Try.underlying24 hi hzr hsz hby rfl (by decide) _ _ _ rfl (own4.alloc _) ⟨w4.heap.size, 0, none⟩ 1 1 [.int .i64 (k2 : Int)] rfl rfl ?c1 ?c2 ?c3 ?c4 ?c5 ?_)
    try (case c1 => intro j u hj; rcases j with _ | j; (simp at hj; subst hj; simp [Addr.add]); simp at hj)
    try (case c2 => first | rfl | (intro u hu; simp at hu; subst hu; rfl))
    try (case c3 => unfold maxLen; omega)
    try (case c4 => omega)
    try (case c5 => first | omega | (simp; omega))
    intro v' w5 hown' hgrow _
    have b5 : Below (w.heap.size + 1) w4 w5 := ((Below.refl _ w4).alloc (by omega) _).grown hgrow (by simp; omega) (fun j e => own_ge own4 e)
    replace hown' : w5.ownsRow (w.heap.size + 1) 2 1 v' (ds ++ [(k2 : Int)]).length (cellsOf intC (ds ++ [(k2 : Int)])) := by rw [cellsOf_snoc, List.length_append]; exact hown'
    have bel5 := bel4.trans b5
    clear own4 hgrow
    go_wp2
    go_roundw
    case rel => exact ⟨k + 1, _, _, by omega, by go_num, rfl, hlk.1, hlk.2, fun _ => hq, hown', by simp; omega, hs2, bel5⟩
    case measure => simp [intOf]; omega

set_option maxRecDepth 100000 in
set_option maxHeartbeats 4000000 in
theorem toldAtPairs_any (B b lo : Nat) (f : Value) (A : Ar) (x y z u : Int) (st : Int) (a0 a1 a2 a3 : Option Addr) (c0 c1 c2 c3 : Nat) (w : World) (hB : B ≤ w.heap.size) (hA : A.size ≤ 1048576) (I : ArenaIs B w (.slice a0 A.slots.length c0) (.slice a1 A.guides.length c1) (.slice a2 A.nodes.length c2) (.slice a3 A.vers.length c3) A) (S : SeenAt lo w f b x y z u st A (.slice a0 A.slots.length c0) (.slice a1 A.guides.length c1) (.slice a2 A.nodes.length c2) (.slice a3 A.vers.length c3)) :
    Calls Try.prog 47 #[.agg #[.int .i64 A.camera, .slice a0 A.slots.length c0, .slice a1 A.guides.length c1, .slice a2 A.nodes.length c2, .slice a3 A.vers.length c3], f, .func (.func 48) #[] #[]] w fun e w' => ∃ v lb, e = .returned v ∧ NewList w.heap.size w' v (pairsL x y z u A false st).length 2 (cellsOf prC (pairsL x y z u A false st)) lb ∧ Below w.heap.size w w' := by
  have hA' := hA
  unfold Ar.size at hA
  have X0 := World.rangeAt_alloc (rangeAt_new w [.int .i64 A.camera, .slice a0 A.slots.length c0, .slice a1 A.guides.length c1, .slice a2 A.nodes.length c2, .slice a3 A.vers.length c3] 36) (.cells #[] 74)
  have K0 := ((Below.refl w.heap.size w).alloc (Nat.le_refl _) (.cells #[.int .i64 A.camera, .slice a0 A.slots.length c0, .slice a1 A.guides.length c1, .slice a2 A.nodes.length c2, .slice a3 A.vers.length c3] 36)).alloc (by simp) (.cells #[] 74)
  have hz0 : w.heap.size + 1 < ((w.alloc (.cells #[.int .i64 A.camera, .slice a0 A.slots.length c0, .slice a1 A.guides.length c1, .slice a2 A.nodes.length c2, .slice a3 A.vers.length c3] 36)).alloc (.cells #[] 74)).heap.size := by simp
  have O0 := World.ownsRow_lit (base := w.heap.size + 1) (e := 74) (size := 2) (w.alloc (.cells #[.int .i64 A.camera, .slice a0 A.slots.length c0, .slice a1 A.guides.length c1, .slice a2 A.nodes.length c2, .slice a3 A.vers.length c3] 36)) #[] 0 (by simp) (by decide) (by simp)
  simp only [World.size_alloc] at O0
  have hb := S.hi
  have hL := nodesL_ver x y z u A false st
  have hV : ∀ n, verOf x y z u A false st n = atOf x y z u A n st := fun _ => rfl
  obtain rfl := S.is
  go_enter Try.func47, Try.ntmps47
  go_wp2_with fail
  generalize hw0 : ((w.alloc (.cells #[.int .i64 A.camera, .slice a0 A.slots.length c0, .slice a1 A.guides.length c1, .slice a2 A.nodes.length c2, .slice a3 A.vers.length c3] 36)).alloc (.cells #[] 74)) = w0 at *
  clear hw0
  have S0 := S.below K0 (by omega)
  have I0 := I.below (K0.mono hB)
  refine (viewAt1_any B b lo _ A x y z u st _ _ _ _ _ _ _ _ _ _ (Nat.le_trans hB K0.size) hA' I0 S0).mono ?_
  rintro e w1 ⟨rfl, b1⟩
  rw [← hV]
  have hin := verOf_in x y z u A false st 0
  have X1 := rangeAt_below X0 b1 (by omega)
  have K1 := K0.trans (b1.mono (by omega))
  have I1 := I.below (K1.mono hB)
  have S1 := S.below K1 (by omega)
  have O1 := own_below O0 b1 (fun j e => by simp [Value.ownBlock] at e; omega)
  have hz1 := Nat.lt_of_lt_of_le hz0 b1.size
  clear X0 K0 I I0 S S0 O0 b1 hz0
  obtain ⟨x0, x1, x2, x3, x4⟩ := row5 X1
  obtain ⟨i0, hi, hzr, hsz, hby⟩ := info_parts infoPair
  generalize verOf x y z u A false st 0 = d0 at *
  go_wp2
  clear x0 x1 x2 x3 x4
  go_loopw [7, 8, 18] (fun o v i wr => ∃ (k : Nat) (ds : List Pr) (c : Int), k ≤ A.nodes.length ∧ i = .int .i64 k ∧ v = .int .i64 c ∧ -1 ≤ c ∧ c < (A.vers.length : Int) ∧ (0 ≤ c → arenaB x y z u A = true) ∧ wr.ownsRow (w.heap.size + 1) 74 2 o ds.length (cellsOf prC ds) ∧ ds.length ≤ k ∧ Hid (ds ++ (nodesF A false st (A.nodes.length - k) c).filterMap (pairOf A false st) = (pairsL x y z u A false st)) ∧ Below (w.heap.size + 1) w1 wr) (fun _ _ i _ => A.nodes.length - (intOf i).toNat)
  case atStart => exact ⟨0, [], _, Nat.zero_le _, rfl, rfl, hin.1, hin.2.1, hin.2.2, O1, Nat.le_refl _, by show _ = _; rw [List.nil_append, Nat.sub_zero, hL]; rfl, Below.refl _ _⟩
  case round =>
    obtain ⟨k, ds, c, hk, rfl, rfl, hc0, hc1, hca, own, hdk, hs, bel⟩ := hrel
    obtain ⟨oa, oc, rfl⟩ := own_is own
    have hz := bel.size
    by_cases hlt : k < A.nodes.length
    case neg =>
      have hv : Hid ((pairsL x y z u A false st) = ds) := by show _ = _; rw [← hs.out, show A.nodes.length - k = 0 by omega]; simp [nodesF]
      obtain ⟨lb, N⟩ := own_new own
      have hkk : ¬ ((k : Int) < (A.nodes.length : Int)) := by omega
      have KX := K1.trans (bel.mono (by omega))
      clear own hs
      go_wp2
      go_ret
      have NN : NewList w.heap.size wr (.slice oa ds.length oc) (pairsL x y z u A false st).length 2 (cellsOf prC (pairsL x y z u A false st)) lb := by rw [hv.out]; exact N.lo (by omega)
      first | exact ⟨_, lb, rfl, NN, KX⟩ | exact ⟨_, rfl, ⟨lb, NN⟩, KX⟩
    have hk0 : (0 : Int) ≤ (k : Int) := by omega
    have hk1 : (k : Int) < (A.nodes.length : Int) := by omega
    obtain ⟨x0, x1, x2, x3, x4⟩ := row5 (rangeAt_below X1 bel (by omega))
    have hnx := nextV_in c hca hc1
    go_wp2_with fail
    refine (nextBy_any B A c _ _ _ _ _ _ _ _ _ (by omega) hA' (I1.below (bel.mono (by omega))) hc0 hc1).mono ?_
    rintro e w2 ⟨rfl, b2⟩
    have bel2 := bel.trans (b2.mono (by omega))
    have own2 := own_below own b2 (fun j e => own_lt own e)
    have hz2 := bel2.size
    clear own b2 bel hz x0 x1 x2 x3 x4
    rcases hnx with hnx | ⟨k2, hnx, hk2, hcc⟩
    · have hv : Hid ((pairsL x y z u A false st) = ds) := by show _ = _; rw [← hs.out, nodesF_end A _ _ _ c hnx]; simp
      obtain ⟨lb, N⟩ := own_new own2
      have KX := K1.trans (bel2.mono (by omega))
      clear own2 hs
      rw [hnx]
      go_wp2
      go_ret
      have NN : NewList w.heap.size w2 (.slice oa ds.length oc) (pairsL x y z u A false st).length 2 (cellsOf prC (pairsL x y z u A false st)) lb := by rw [hv.out]; exact N.lo (by omega)
      first | exact ⟨_, lb, rfl, NN, KX⟩ | exact ⟨_, rfl, ⟨lb, NN⟩, KX⟩
    have hq := hca hcc
    have hstep := nodesF_go A false st (A.nodes.length - (k + 1)) c k2 hnx
    rw [show A.nodes.length - (k + 1) + 1 = A.nodes.length - k by omega] at hstep
    rw [hnx]
    have hk20 : ¬ ((k2 : Int) = -1) := by omega
    have hk21 : (0 : Int) ≤ (k2 : Int) := by omega
    have hk22 : (k2 : Int) < (A.nodes.length : Int) := by omega
    have hvk := verOf_right hq false st k2 hk2
    have hlk := linkOf_in hq false st k2 hk2
    clear hnx
    go_wp2_with fail
    refine (viewAt1_any B b lo _ A x y z u st _ _ _ _ _ _ _ _ _ _ (by omega) hA' (I1.below (bel2.mono (by omega))) (S1.below bel2 (by omega))).mono ?_
    rintro e w3 ⟨rfl, b3⟩
    rw [← hV, hvk]
    have bel3 := bel2.trans (b3.mono (by omega))
    have own3 := own_below own2 b3 (fun j e => own_lt own2 e)
    have hz3 := bel3.size
    clear own2 b3 bel2 hz2
    obtain ⟨x0, x1, x2, x3, x4⟩ := row5 (rangeAt_below X1 bel3 (by omega))
    have hpo := pairOf_ver A false st k2
    generalize linkOf A false st k2 = d at *
    go_wp2_with fail
    refine (pairIfIn_any B A k2 d _ _ _ _ _ _ _ _ _ (by omega) hA' (I1.below (bel3.mono (by omega))) hk2 hlk.1 hlk.2).mono ?_
    rintro e w4 ⟨rfl, b4⟩
    have hs2 : Hid ((ds ++ (pairV A d k2).toList) ++ (nodesF A false st (A.nodes.length - (k + 1)) d).filterMap (pairOf A false st) = (pairsL x y z u A false st)) := by
      show _ = _
      rw [← hs.out, hstep, List.append_assoc, List.filterMap_cons, hpo]
      cases pairV A d k2 <;> rfl
    clear hpo
    have bel4 := bel3.trans (b4.mono (by omega))
    have own4 := own_below own3 b4 (fun j e => own_lt own3 e)
    have hz4 := bel4.size
    clear own3 b4 bel3 hz3 hs hstep x0 x1 x2 x3 x4
    generalize pairV A d k2 = pv at *
    cases pv
    case none =>
      simp only [prV, Option.isSome_none]
      go_wp2
      go_roundw
      case rel => exact ⟨k + 1, ds, _, by omega, by go_num, rfl, hlk.1, hlk.2, fun _ => hq, own4.alloc _, by omega, by simpa using hs2, bel4.alloc (by omega) _⟩
      case measure => simp [intOf]; omega
    rename_i p
    rw [Option.toList_some] at hs2
    simp only [prV, Option.isSome_some]
    go_wp2_with (at_builtin; refine wpList_append_own _ rfl _ _ 45 rfl (w.heap.size + 1) 74 i0 (.agg #[.int .i64 0, .int .i64 0]) 2 16 Try.underlying45 hi hzr hsz hby rfl (by decide) _ _ _ rfl ((own4.alloc _).alloc _) ⟨w4.heap.size + 1, 0, none⟩ 1 1 (prC p) rfl rfl ?c1 ?c2 ?c3 ?c4 ?c5 ?_)
    try (case c1 => have hn2 := new_elem2 (w4.alloc (.cells #[.int .i64 p.key, .int .i64 p.value] 74)) (.int .i64 p.key) (.int .i64 p.value) 74; simp only [World.size_alloc] at hn2; exact hn2)
    try (case c2 => first | rfl | exact onePair _)
    try (case c3 => unfold maxLen; omega)
    try (case c4 => omega)
    try (case c5 => first | omega | (simp; omega))
    intro v' w5 hown' hgrow _
    have b5 : Below (w.heap.size + 1) w4 w5 := (((Below.refl _ w4).alloc (by omega) _).alloc (by simp; omega) _).grown hgrow (by simp; omega) (fun j e => own_ge own4 e)
    replace hown' : w5.ownsRow (w.heap.size + 1) 74 2 v' (ds ++ [p]).length (cellsOf prC (ds ++ [p])) := by rw [cellsOf_snoc, List.length_append]; exact hown'
    have bel5 := bel4.trans b5
    clear own4 hgrow
    go_wp2
    go_roundw
    case rel => exact ⟨k + 1, _, _, by omega, by go_num, rfl, hlk.1, hlk.2, fun _ => hq, hown', by simp; omega, hs2, bel5⟩
    case measure => simp [intOf]; omega

set_option maxHeartbeats 1000000 in
theorem inOrder_any (B : Nat) (v : Value) (l : List Pr) (w : World) (hB : B ≤ w.heap.size) (hl : l.length ≤ 1048576) (S : SliceAt B w v l.length (cellsOf prC l)) :
    Calls Try.prog 30 #[v] w fun e w' => e = .returned (.bool (ordB l)) ∧ Below w.heap.size w w' := by
  obtain ⟨a, cap, rfl, hS⟩ := S
  go_enter Try.func30, Try.ntmps30
  go_wp2
  go_loopw [3] (fun i wr => ∃ k : Nat, 1 ≤ k ∧ (k ≤ l.length ∨ k = 1) ∧ i = .int .i64 k ∧ Hid (∀ j (h : j + 1 < l.length), j + 1 < k → l[j].key < l[j + 1].key) ∧ Below w.heap.size w wr) (fun i _ => l.length - (intOf i).toNat)
  case atStart => exact ⟨1, Nat.le_refl _, Or.inr rfl, rfl, fun _ _ h => absurd h (by omega), Below.refl _ _⟩
  case round =>
    obtain ⟨k, hk1, hk, rfl, hall, bel⟩ := hrel
    by_cases hlt : k < l.length
    · rcases hS with h0 | ⟨bb, off, rfl, hbb, R0⟩
      · omega
      · obtain ⟨m, rfl⟩ : ∃ m, k = m + 1 := ⟨k - 1, by omega⟩
        have R := rangeAt_below R0 (bel.mono hB) hbb
        have f1 : wr.cell? ⟨bb, off + (m + 1) * 2, none⟩ = some (.int .i64 l[m + 1].key) := (rangeAt_elem (sz := 2) (fun _ => rfl) R (m + 1) hlt) 0 _ rfl
        have f0 : wr.cell? ⟨bb, off + m * 2, none⟩ = some (.int .i64 l[m].key) := (rangeAt_elem (sz := 2) (fun _ => rfl) R m (by omega)) 0 _ rfl
        clear R R0
        have hm : ((m + 1 : Nat) : Int) < (l.length : Int) := by omega
        have hm0 : (0 : Int) ≤ ((m + 1 : Nat) : Int) := by omega
        have hm1 : ((m + 1 : Nat) : Int) - 1 = (m : Int) := by omega
        have hm2 : (m : Int) < (l.length : Int) := by omega
        by_cases hq : l[m + 1].key ≤ l[m].key
        · have hv : ordB l = false := ordB_no hlt (by omega)
          go_wp2
          go_quiet (fail)
          go_wp2
          go_ret
          exact ⟨by rw [hv]; rfl, below_drewN bel _⟩
        · have hall' : Hid (∀ j (h : j + 1 < l.length), j + 1 < m + 1 + 1 → l[j].key < l[j + 1].key) := fun j h hj => by
            rcases Nat.lt_or_ge j m with h1 | h1
            · exact hall.out j h (by omega)
            · obtain rfl : j = m := by omega
              omega
          go_wp2
          go_quiet (fail)
          go_wp2
          go_roundw
          case rel => exact ⟨m + 1 + 1, by omega, Or.inl (by omega), by go_num, hall', below_drewN bel _⟩
          case measure => simp [intOf]; omega
    · have hv : ordB l = true := (ordB_iff l).2 (fun i h => hall.out i h (by omega))
      go_wp2
      go_ret
      exact ⟨by rw [hv]; rfl, bel⟩

end Go.Proofs.Ytnmnjkjkhbcdfaa
