/-
  What the program says of versions (chapter 3), as contracts: VersionNow, the iterator over the versions of a link, and those that range over it: VersionAt, VersionsOf, DepthOf. For every plan and every arena of at most 1048576 elements.
-/
import Derived.RangeFuncNested
import Derived.RangeFuncBound
import Derived.RangeFuncCalls
import Derived.RangeFuncLeaves
import Derived.RangeFuncFrom
import Derived.Shelf.Abstract
import Derived.Shelf.RegionOpen
import Derived.WalkKit
import Derived.OwnWalkIn
import Derived.TacticsInMore
import Derived.LoopNIn
import Derived.LoopIn
import Derived.Test.YtnmnjkjkhbcdfaaSpecVersions
import Derived.Test.YtnmnjkjkhbcdfaaImplArena
import Derived.Test.YtnmnjkjkhbcdfaaOnly
namespace Go.Proofs.Ytnmnjkjkhbcdfaa
open Go.ChangeShapes Go.WideShapes Go.ChangeAt Go.RowKit Go.Shelf
set_option linter.unusedVariables false
attribute [local go_sem] Oper.semAt_some

set_option maxRecDepth 100000 in
set_option maxHeartbeats 2000000 in
theorem versionNow_any (B : Nat) (A : Ar) (x y z u : Int) (i0 : Int) (a0 a1 a2 a3 : Option Addr) (c0 c1 c2 c3 : Nat) (w : World) (hB : B ≤ w.heap.size) (hA : A.size ≤ 1048576) (I : ArenaIs B w (.slice a0 A.slots.length c0) (.slice a1 A.guides.length c1) (.slice a2 A.nodes.length c2) (.slice a3 A.vers.length c3) A) :
    Calls Try.prog 61 #[.agg #[.int .i64 x, .int .i64 y, .int .i64 z, .int .i64 u], .agg #[.int .i64 A.camera, .slice a0 A.slots.length c0, .slice a1 A.guides.length c1, .slice a2 A.nodes.length c2, .slice a3 A.vers.length c3], .int .i64 i0] w fun e w' => e = .returned (.int .i64 (nowOf x y z u A i0)) ∧ Below w.heap.size w w' := by
  have hA' := hA
  unfold Ar.size at hA
  have P0 := (planAt_alloc w x y z u 31).below ((Below.refl _ _).alloc (Nat.le_refl _) (.cells #[.int .i64 A.camera, .slice a0 A.slots.length c0, .slice a1 A.guides.length c1, .slice a2 A.nodes.length c2, .slice a3 A.vers.length c3] 36)) (by simp)
  have X0 : World.rangeAt ((w.alloc (.cells #[.int .i64 x, .int .i64 y, .int .i64 z, .int .i64 u] 31)).alloc (.cells #[.int .i64 A.camera, .slice a0 A.slots.length c0, .slice a1 A.guides.length c1, .slice a2 A.nodes.length c2, .slice a3 A.vers.length c3] 36)) (w.heap.size + 1) 0 [.int .i64 A.camera, .slice a0 A.slots.length c0, .slice a1 A.guides.length c1, .slice a2 A.nodes.length c2, .slice a3 A.vers.length c3] := by
    have h := rangeAt_new (w.alloc (.cells #[.int .i64 x, .int .i64 y, .int .i64 z, .int .i64 u] 31)) [.int .i64 A.camera, .slice a0 A.slots.length c0, .slice a1 A.guides.length c1, .slice a2 A.nodes.length c2, .slice a3 A.vers.length c3] 36
    simp only [World.size_alloc] at h
    exact h
  have K0 := ((Below.refl w.heap.size w).alloc (Nat.le_refl _) (.cells #[.int .i64 x, .int .i64 y, .int .i64 z, .int .i64 u] 31)).alloc (by simp) (.cells #[.int .i64 A.camera, .slice a0 A.slots.length c0, .slice a1 A.guides.length c1, .slice a2 A.nodes.length c2, .slice a3 A.vers.length c3] 36)
  have hz0 : w.heap.size + 1 < ((w.alloc (.cells #[.int .i64 x, .int .i64 y, .int .i64 z, .int .i64 u] 31)).alloc (.cells #[.int .i64 A.camera, .slice a0 A.slots.length c0, .slice a1 A.guides.length c1, .slice a2 A.nodes.length c2, .slice a3 A.vers.length c3] 36)).heap.size := by simp
  have I0 := I.below (K0.mono hB)
  obtain ⟨p0, p1, p2, p3⟩ := P0
  obtain ⟨x0, x1, x2, x3, x4⟩ := row5 X0
  go_enter Try.func61, Try.ntmps61
  go_wp2_with fail
  refine (arenaOk_any B A x y z u _ _ _ _ _ _ _ _ _ (by omega) hA' I0).mono ?_
  rintro e w1 ⟨rfl, b1⟩
  have X1 := rangeAt_below X0 b1 hz0
  have K1 := K0.trans (b1.mono (by omega))
  have I1 := I.below (K1.mono hB)
  have hz1 := Nat.lt_of_lt_of_le hz0 b1.size
  clear p0 p1 p2 p3 x0 x1 x2 x3 x4 X0 K0 I I0 b1 hz0
  obtain ⟨x0, x1, x2, x3, x4⟩ := row5 X1
  cases hq : arenaB x y z u A
  · have hv : nowOf x y z u A i0 = -1 := by simp [nowOf, hasB, hq]
    go_wp2
    go_ret
    exact ⟨by rw [hv]; rfl, K1⟩
  cases hq2 : inB i0 0 ((A.nodes.length : Int) - 1)
  · have hv : nowOf x y z u A i0 = -1 := by simp [nowOf, hasB, hq, hq2]
    go_wp2_with (go_at_call 72; refine (within_any _ _ _ _).mono ?_; rintro e w' ⟨rfl, hw⟩; obtain rfl := hw.symm)
    go_ret
    exact ⟨by rw [hv]; rfl, K1⟩
  have hq' := (inB_iff _ _ _).1 hq2
  obtain ⟨n, rfl⟩ : ∃ k : Nat, i0 = k := ⟨i0.toNat, by omega⟩
  have hn : n < A.nodes.length := by omega
  have hn' : (n : Int) < (A.nodes.length : Int) := by omega
  have hn0 : (0 : Int) ≤ (n : Int) := by omega
  obtain ⟨bb, off, rfl, hbb, R⟩ := SliceAt.at I1.n (by omega)
  have hc : w1.cell? ⟨bb, off + n * 3 + 2, none⟩ = some (.int .i64 A.nodes[n].head) := (rangeAt_elem (sz := 3) (fun _ => rfl) R n hn) 2 _ rfl
  have hv : nowOf x y z u A n = A.nodes[n].head := by simp [nowOf, hasB, hq, hq2, ndOf_nat A n hn]
  clear R hq'
  go_wp2_with (go_at_call 72; refine (within_any _ _ _ _).mono ?_; rintro e w' ⟨rfl, hw⟩; obtain rfl := hw.symm)
  go_ret
  exact ⟨by rw [hv]; rfl, K1⟩

theorem backFrom_any (cam : Int) (s g n r : Value) (i : Int) (w : World) :
    Calls Try.prog 75 #[.agg #[.int .i64 cam, s, g, n, r], .int .i64 i] w fun e w' => e = .returned (.func (.func 83) #[] #[.pointer (some ⟨w.heap.size + 1, 0, none⟩), .pointer (some ⟨w.heap.size, 0, none⟩)]) ∧ w' = (w.alloc (.cells #[.int .i64 cam, s, g, n, r] 36)).alloc (.cells #[.int .i64 i] 2) := by
  go_enter Try.func75, Try.ntmps75
  go_wp2
  go_ret
  exact ⟨rfl, rfl⟩

/-- A version that is there. -/
abbrev Vn (A : Ar) : Type := { v : Int // 0 ≤ v ∧ v < (A.vers.length : Int) }

set_option maxRecDepth 100000 in
set_option maxHeartbeats 2000000 in
/-- The iterator: whatever a round's body keeps (Rd, Kp), it hands over the versions from v on, one after the other. -/
theorem backFrom1_in (F : Fence) (n : Nat) (hF : F.fn 83) (hro : F.round = none) (hn : 1 ≤ n) (l Ba Bn B : Nat) (A : Ar) (v : Int) (a0 a1 a2 a3 : Option Addr) (c0 c1 c2 c3 : Nat) (hA : A.size ≤ 1048576) (hv0 : -1 ≤ v) (hv1 : v < (A.vers.length : Int)) (Fa : 0 ≤ v → Falls A)
    (Rd : World → Prop) (Kp : World → World → Prop) (hRd : ∀ W, Rd W → W.rangeAt Ba 0 [.int .i64 A.camera, .slice a0 A.slots.length c0, .slice a1 A.guides.length c1, .slice a2 A.nodes.length c2, .slice a3 A.vers.length c3] ∧ W.cell? ⟨Bn, 0, none⟩ = some (.int .i64 v) ∧ ArenaIs B W (.slice a0 A.slots.length c0) (.slice a1 A.guides.length c1) (.slice a2 A.nodes.length c2) (.slice a3 A.vers.length c3) A) (hKp : ∀ W W', Rd W → Kp W W' → Rd W')
    (J Jx : List (Vn A) → World → Prop)
    (hY : ∀ pre x W, J pre W → pre.length < (chain A v).length → YieldAt F (n - 1) Try.prog l #[.int .i64 x.1] W fun e W' =>
      (e = .returned (.bool true) ∧ J (pre ++ [x]) W' ∧ Kp W W') ∨ (e = .returned (.bool false) ∧ Jx (pre ++ [x]) W'))
    (W : World) (hW : Rd W) (h0 : J [] W) :
    CallsIn F n Try.prog 83 #[.func (.yield l) #[] #[], .pointer (some ⟨Bn, 0, none⟩), .pointer (some ⟨Ba, 0, none⟩)] W fun e W' => (∃ v, e = .returned v) ∧
      ((∃ ys : List (Vn A), ys.map (·.1) = chain A v ∧ J ys W') ∨ (∃ pre : List (Vn A), pre.map (·.1) <+: chain A v ∧ Jx pre W')) := by
  unfold Ar.size at hA
  obtain ⟨X0, q0, I0⟩ := hRd W hW
  clear X0 I0
  refine callsIn_of_wp Try.func83 rfl hF ?_ hro
  simp only [Try.ntmps83, List.size_toArray, List.length_cons, List.length_nil, Nat.reduceAdd, Nat.reduceSub, Array.replicate_succ, Array.replicate_zero, List.push_toArray, List.append_toArray, List.nil_append, List.cons_append]
  gi_wp2
  clear q0
  gi_loopw [4] (fun p wr => ∃ (pre : List (Vn A)) (c : Int), p = .int .i64 c ∧ -1 ≤ c ∧ c < (A.vers.length : Int) ∧ (0 ≤ c → Falls A) ∧ Hid (pre.map (·.1) ++ chain A c = chain A v) ∧ Rd wr ∧ J pre wr) (fun p _ => (intOf p + 1).toNat)
  case atStart => exact ⟨[], _, rfl, hv0, hv1, Fa, rfl, hW, h0⟩
  case round =>
    obtain ⟨pre, c, rfl, hc0, hc1, hFa, hs, hr, hJ⟩ := hrel
    by_cases hneg : c < 0
    · have hv : Hid (pre.map (·.1) = chain A v) := by show _ = _; rw [← hs.out, chain_neg A hneg, List.append_nil]
      obtain rfl : c = -1 := by omega
      clear hs
      gi_wp2
      go_end0
      exact ⟨⟨_, rfl⟩, .inl ⟨pre, hv.out, hJ⟩⟩
    · have Fa := hFa (by omega)
      clear hFa
      obtain ⟨m, rfl⟩ : ∃ m : Nat, c = m := ⟨c.toNat, by omega⟩
      have hm : m < A.vers.length := by omega
      have hm' : (m : Int) < (A.vers.length : Int) := by omega
      have hm0 : (0 : Int) ≤ (m : Int) := by omega
      have hm1 : ¬ ((m : Int) = -1) := by omega
      have hf := Fa m hm
      obtain ⟨xm, hxm⟩ : ∃ xm : Vn A, Hid (xm.1 = (m : Int)) := ⟨⟨(m : Int), hm0, hm'⟩, rfl⟩
      have hs2 : Hid ((pre ++ [xm]).map (·.1) ++ chain A A.vers[m].prev = chain A v) := by
        show _ = _
        rw [List.map_append, List.map_singleton, hxm.out, List.append_assoc]
        show pre.map (·.1) ++ ((m : Int) :: chain A A.vers[m].prev) = _
        rw [← chain_nat Fa m hm]
        exact hs.out
      have hlen : pre.length < (chain A v).length := by
        have := congrArg List.length hs2.out
        simp only [List.length_append, List.length_map, List.length_cons, List.length_nil] at this
        omega
      obtain ⟨fn, tmps, assign, body, hy, hR⟩ := hY pre xm wr hJ hlen
      rw [hxm.out] at hy
      clear hs
      gi_wp2
      refine hR.mono ?_
      rintro e W3 (⟨rfl, hJ3, hk3⟩ | ⟨rfl, hJx3⟩)
      · have hr3 := hKp _ _ hr hk3
        obtain ⟨X0, q0, I0⟩ := hRd W3 hr3
        obtain ⟨x0, x1, x2, x3, x4⟩ := row5 X0
        obtain ⟨bb2, off2, rfl, hbb2, R2⟩ := SliceAt.at I0.r (by omega)
        have e3 : W3.cell? ⟨bb2, off2 + m * 5 + 3, none⟩ = some (.int .i64 A.vers[m].prev) := (rangeAt_elem (sz := 5) (fun _ => rfl) R2 m hm) 3 _ rfl
        clear R2 X0 I0
        gi_wp2
        go_roundw
        case rel => exact ⟨pre ++ [xm], _, rfl, hf.1, by omega, fun _ => Fa, hs2, hr3, hJ3⟩
        case measure => simp [intOf]; omega
      · gi_wp2
        refine bodyPost_ret (results_none rfl _ _ _) rfl ?_
        exact ⟨⟨_, rfl⟩, .inr ⟨pre ++ [xm], ⟨chain A A.vers[m].prev, hs2.out⟩, hJx3⟩⟩

/-- The versions of a link; none where something is not right. -/
theorem versOf_now (x y z u : Int) (A : Ar) (n : Int) : versOf x y z u A n = chain A (nowOf x y z u A n) := by
  unfold versOf nowOf
  split
  · rfl
  · rw [chain_neg A (by omega)]
theorem now_ge (x y z u : Int) (A : Ar) (n : Int) : -1 ≤ nowOf x y z u A n ∧ nowOf x y z u A n < (A.vers.length : Int) ∧ (0 ≤ nowOf x y z u A n → Falls A) := by
  unfold nowOf
  split
  · rename_i h
    have hh : arenaB x y z u A = true ∧ inB n 0 ((A.nodes.length : Int) - 1) = true := by simpa [hasB] using h
    have h2 := (inB_iff _ _ _).1 hh.2
    obtain ⟨k, rfl⟩ : ∃ k : Nat, n = k := ⟨n.toNat, by omega⟩
    have hk : k < A.nodes.length := by omega
    rw [ndOf_nat A k hk]
    have := arenaB_head hh.1 k hk
    exact ⟨by omega, this.2, fun _ => arenaB_falls hh.1⟩
  · exact ⟨by omega, by omega, fun h => by omega⟩

/-- What linkOf hands back: the iterator over a box of the arena and one of the version to begin with, both new. -/
structure LinkAt (lo : Nat) (W : World) (v : Value) (b : Nat) (A : Ar) (k : Int) (s g n r : Value) : Prop where
  is : v = .func (.func 83) #[] #[.pointer (some ⟨b + 1, 0, none⟩), .pointer (some ⟨b, 0, none⟩)]
  lo : lo ≤ b
  hi : b + 1 < W.heap.size
  row : W.rangeAt b 0 [.int .i64 A.camera, s, g, n, r]
  at0 : W.cell? ⟨b + 1, 0, none⟩ = some (.int .i64 k)

theorem backFrom_link (A : Ar) (s g n r : Value) (i : Int) (w : World) :
    Calls Try.prog 75 #[.agg #[.int .i64 A.camera, s, g, n, r], .int .i64 i] w fun e w' => ∃ v b, e = .returned v ∧ LinkAt w.heap.size w' v b A i s g n r ∧ Below w.heap.size w w' := by
  refine (backFrom_any _ _ _ _ _ _ _).mono ?_
  rintro e w' ⟨rfl, rfl⟩
  refine ⟨_, w.heap.size, rfl, ⟨rfl, Nat.le_refl _, by simp, World.rangeAt_alloc (rangeAt_new w [.int .i64 A.camera, s, g, n, r] 36) _, ?_⟩, ((Below.refl _ _).alloc (Nat.le_refl _) _).alloc (by simp) _⟩
  have := rangeAt_new (w.alloc (.cells #[.int .i64 A.camera, s, g, n, r] 36)) [.int .i64 i] 2 0 (.int .i64 i) rfl
  simpa only [World.size_alloc] using this

set_option maxRecDepth 100000 in
set_option maxHeartbeats 2000000 in
theorem linkOf_any (B : Nat) (A : Ar) (x y z u : Int) (i0 : Int) (a0 a1 a2 a3 : Option Addr) (c0 c1 c2 c3 : Nat) (w : World) (hB : B ≤ w.heap.size) (hA : A.size ≤ 1048576) (I : ArenaIs B w (.slice a0 A.slots.length c0) (.slice a1 A.guides.length c1) (.slice a2 A.nodes.length c2) (.slice a3 A.vers.length c3) A) :
    Calls Try.prog 69 #[.agg #[.int .i64 x, .int .i64 y, .int .i64 z, .int .i64 u], .agg #[.int .i64 A.camera, .slice a0 A.slots.length c0, .slice a1 A.guides.length c1, .slice a2 A.nodes.length c2, .slice a3 A.vers.length c3], .int .i64 i0] w fun e w' => ∃ v b, e = .returned v ∧ LinkAt w.heap.size w' v b A (nowOf x y z u A i0) (.slice a0 A.slots.length c0) (.slice a1 A.guides.length c1) (.slice a2 A.nodes.length c2) (.slice a3 A.vers.length c3) ∧ Below w.heap.size w w' := by
  have hA' := hA
  unfold Ar.size at hA
  have P0 := (planAt_alloc w x y z u 31).below ((Below.refl _ _).alloc (Nat.le_refl _) (.cells #[.int .i64 A.camera, .slice a0 A.slots.length c0, .slice a1 A.guides.length c1, .slice a2 A.nodes.length c2, .slice a3 A.vers.length c3] 36)) (by simp)
  have X0 : World.rangeAt ((w.alloc (.cells #[.int .i64 x, .int .i64 y, .int .i64 z, .int .i64 u] 31)).alloc (.cells #[.int .i64 A.camera, .slice a0 A.slots.length c0, .slice a1 A.guides.length c1, .slice a2 A.nodes.length c2, .slice a3 A.vers.length c3] 36)) (w.heap.size + 1) 0 [.int .i64 A.camera, .slice a0 A.slots.length c0, .slice a1 A.guides.length c1, .slice a2 A.nodes.length c2, .slice a3 A.vers.length c3] := by
    have h := rangeAt_new (w.alloc (.cells #[.int .i64 x, .int .i64 y, .int .i64 z, .int .i64 u] 31)) [.int .i64 A.camera, .slice a0 A.slots.length c0, .slice a1 A.guides.length c1, .slice a2 A.nodes.length c2, .slice a3 A.vers.length c3] 36
    simp only [World.size_alloc] at h
    exact h
  have K0 := ((Below.refl w.heap.size w).alloc (Nat.le_refl _) (.cells #[.int .i64 x, .int .i64 y, .int .i64 z, .int .i64 u] 31)).alloc (by simp) (.cells #[.int .i64 A.camera, .slice a0 A.slots.length c0, .slice a1 A.guides.length c1, .slice a2 A.nodes.length c2, .slice a3 A.vers.length c3] 36)
  have hz0 : w.heap.size + 1 < ((w.alloc (.cells #[.int .i64 x, .int .i64 y, .int .i64 z, .int .i64 u] 31)).alloc (.cells #[.int .i64 A.camera, .slice a0 A.slots.length c0, .slice a1 A.guides.length c1, .slice a2 A.nodes.length c2, .slice a3 A.vers.length c3] 36)).heap.size := by simp
  have I0 := I.below (K0.mono hB)
  go_enter Try.func69, Try.ntmps69
  obtain ⟨p0', p1', p2', p3'⟩ := id P0
  obtain ⟨x0', x1', x2', x3', x4'⟩ := row5 X0
  go_wp2_with fail
  generalize hw0 : (w.alloc (.cells #[.int .i64 x, .int .i64 y, .int .i64 z, .int .i64 u] 31)).alloc (.cells #[.int .i64 A.camera, .slice a0 A.slots.length c0, .slice a1 A.guides.length c1, .slice a2 A.nodes.length c2, .slice a3 A.vers.length c3] 36) = w1 at *
  clear hw0
  have hz0' : w.heap.size < w1.heap.size := by omega
  have BB := Below.refl w1.heap.size w1
  go_region_held3 (fun w' => w'.cell? ⟨w.heap.size, 0, none⟩ = some (.int .i64 x) ∧ w'.cell? ⟨w.heap.size, 1, none⟩ = some (.int .i64 y) ∧ w'.cell? ⟨w.heap.size, 2, none⟩ = some (.int .i64 z) ∧ w'.cell? ⟨w.heap.size, 3, none⟩ = some (.int .i64 u) ∧ w'.cell? ⟨w.heap.size + 1, 0, none⟩ = some (.int .i64 A.camera) ∧ w'.cell? ⟨w.heap.size + 1, 1, none⟩ = some (.slice a0 A.slots.length c0) ∧ w'.cell? ⟨w.heap.size + 1, 2, none⟩ = some (.slice a1 A.guides.length c1) ∧ w'.cell? ⟨w.heap.size + 1, 3, none⟩ = some (.slice a2 A.nodes.length c2) ∧ w'.cell? ⟨w.heap.size + 1, 4, none⟩ = some (.slice a3 A.vers.length c3)) (go_keep) (first | (go_at_call 61; refine (versionNow_any B A x y z u i0 _ _ _ _ _ _ _ _ _ ?_ hA' ?_).mono ?_; (exact Nat.le_trans hB (Nat.le_trans (Nat.le_of_lt hz0') (by exact BB.size))); (first | exact I0.below (BB.mono (by omega)) | exact I0.below (BB.drew.mono (by omega))); rintro e wi ⟨rfl, bi⟩; replace BB : Below w1.heap.size w1 wi := (by first | exact BB.drew.trans (bi.mono (by exact BB.size)) | exact BB.trans (bi.mono (by exact BB.size))); obtain ⟨p0', p1', p2', p3'⟩ := P0.below BB hz0'; obtain ⟨x0', x1', x2', x3', x4'⟩ := row5 (rangeAt_below X0 BB hz0)) | (go_at_call 75; refine (backFrom_link A _ _ _ _ _ _).mono ?_; rintro e wi ⟨v, b, rfl, L, bi⟩; have hzb := BB.size; replace BB : Below w1.heap.size w1 wi := (by first | exact BB.drew.trans (bi.mono (by exact BB.size)) | exact BB.trans (bi.mono (by exact BB.size))); obtain ⟨p0', p1', p2', p3'⟩ := P0.below BB hz0'; obtain ⟨x0', x1', x2', x3', x4'⟩ := row5 (rangeAt_below X0 BB hz0)))
  go_wp2
  go_ret
  exact ⟨_, b, rfl, ⟨L.is, Nat.le_trans (Nat.le_trans (Nat.le_of_lt hz0') hzb) L.lo, L.hi, L.row, L.at0⟩, K0.trans (BB.mono (Nat.le_of_lt hz0'))⟩

end Go.Proofs.Ytnmnjkjkhbcdfaa
