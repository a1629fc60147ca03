/-
  Those of the program that range over the versions of a link (chapter 3), as contracts: DepthOf, VersionsOf, VersionAt. For every plan and every arena of at most 1048576 elements.
-/
import Derived.RangeFuncBox
import Derived.Maps.AppendAt
import Derived.Maps.OwnIn
import Derived.Test.YtnmnjkjkhbcdfaaImplLink
namespace Go.Proofs.Ytnmnjkjkhbcdfaa
open Go.ChangeShapes Go.WideShapes Go.ChangeAt Go.RowKit Go.Shelf
set_option linter.unusedVariables false
attribute [local go_sem] Oper.semAt_some

theorem depthOf_now (x y z u : Int) (A : Ar) (n : Int) : depthOf x y z u A n = if (chain A (nowOf x y z u A n)).length = 0 then -1 else ((chain A (nowOf x y z u A n)).length : Int) := by
  unfold depthOf nowOf
  split
  · rename_i h
    have hh : arenaB x y z u A = true ∧ inB n 0 ((A.nodes.length : Int) - 1) = true := by simpa [hasB] using h
    have h2 := (inB_iff _ _ _).1 hh.2
    obtain ⟨k, rfl⟩ : ∃ k : Nat, n = k := ⟨n.toNat, by omega⟩
    have hk : k < A.nodes.length := by omega
    rw [ndOf_nat A k hk]
    have hd := arenaB_head hh.1 k hk
    obtain ⟨m, hm⟩ : ∃ m : Nat, A.nodes[k].head = m := ⟨A.nodes[k].head.toNat, by omega⟩
    rw [hm, chain_nat (arenaB_falls hh.1) m (by omega)]
    rw [if_neg (by simp)]
  · rw [chain_neg A (by omega)]
    rfl

/-- Is a version stamped, with at most st? -/
def byB (st : Int) (x : Vr) : Bool := (x.stamp != -1) && decide (x.stamp ≤ st)
theorem byB_eq (st : Int) (x : Vr) (h : -1 ≤ x.stamp) : byB st x = !(decide (x.stamp < 0) || decide (st < x.stamp)) := by
  unfold byB
  by_cases h1 : x.stamp = -1
  · simp [h1]
  · have h2 : ¬ x.stamp < 0 := by omega
    by_cases h3 : x.stamp ≤ st
    · have h4 : ¬ st < x.stamp := by omega
      simp [h1, h2, h3, h4]
    · have h4 : st < x.stamp := by omega
      simp [h2, h3, h4]
theorem atOf_now (x y z u : Int) (A : Ar) (n st : Int) : atOf x y z u A n st = seek A st (nowOf x y z u A n) := by
  unfold atOf nowOf
  split
  · rfl
  · rw [seek_neg A st (by omega)]
theorem seek_none {A : Ar} {st v : Int} {ys : List (Vn A)} (h : ys.map (·.1) = chain A v) (hn : ∀ y ∈ ys, byB st (vrOf A y.1) = false) (hs : ∀ y : Vn A, -1 ≤ (vrOf A y.1).stamp) : seek A st v = -1 := by
  unfold seek
  rw [← h, List.find?_eq_none.2]
  · rfl
  · intro k hk
    obtain ⟨y, hy, rfl⟩ := List.mem_map.1 hk
    rw [← byB_eq st _ (hs y), hn y hy]
    exact Bool.false_ne_true
theorem seek_some {A : Ar} {st v : Int} {pre : List (Vn A)} {x : Vn A} (h : (pre ++ [x]).map (·.1) <+: chain A v) (hn : ∀ y ∈ pre, byB st (vrOf A y.1) = false) (hx : byB st (vrOf A x.1) = true) (hs : ∀ y : Vn A, -1 ≤ (vrOf A y.1).stamp) : seek A st v = x.1 := by
  obtain ⟨t, ht⟩ := h
  unfold seek
  rw [← ht, List.map_append, List.find?_append, List.find?_append, List.find?_eq_none.2]
  · rw [List.map_singleton, List.find?_cons_of_pos (by rw [← byB_eq st _ (hs x), hx])]
    rfl
  · intro k hk
    obtain ⟨y, hy, rfl⟩ := List.mem_map.1 hk
    rw [← byB_eq st _ (hs y), hn y hy]
    exact Bool.false_ne_true
theorem now_stamps {x y z u : Int} {A : Ar} {n : Int} (h : 0 < (chain A (nowOf x y z u A n)).length) : ∀ y : Vn A, -1 ≤ (vrOf A y.1).stamp := by
  rintro ⟨v, h0, h1⟩
  obtain ⟨k, rfl⟩ : ∃ k : Nat, v = k := ⟨v.toNat, by omega⟩
  have hk : k < A.vers.length := by omega
  have ha : arenaB x y z u A = true := by
    unfold nowOf at h
    split at h
    · rename_i h'
      exact (show arenaB x y z u A = true ∧ inB n 0 ((A.nodes.length : Int) - 1) = true by simpa [hasB] using h').1
    · rw [chain_neg A (by omega)] at h
      simp at h
  have := (allIdx_iff _ _).1 (arenaB_parts ha).2.2.2.2 k hk
  simp only [verB, Bool.and_eq_true, inB_iff] at this
  show -1 ≤ (vrOf A (k : Int)).stamp
  rw [vrOf_nat A k hk]
  omega

theorem verStampedBy_any (bb off : Nat) (x : Vr) (st : Int) (w : World) (R : w.rangeAt bb off (vrC x)) :
    Calls Try.prog 70 #[.pointer (some ⟨bb, off, none⟩), .int .i64 st] w fun e w' => e = .returned (.bool (byB st x)) ∧ w' = w := by
  have f2 : w.cell? ⟨bb, off + 2, none⟩ = some (.int .i64 x.stamp) := R 2 _ rfl
  cases h1 : (x.stamp != -1)
  · have hv : byB st x = false := by simp only [byB, h1, Bool.false_and]
    go_enter Try.func70, Try.ntmps70
    go_wp2_with (go_at_call 76; refine (verStamped_any bb off x _ R).mono ?_; rintro e w' ⟨rfl, hw⟩; obtain rfl := hw.symm)
    go_ret
    exact ⟨by rw [hv]; rfl, rfl⟩
  · have hv : byB st x = decide (x.stamp ≤ st) := by simp only [byB, h1, Bool.true_and]
    go_enter Try.func70, Try.ntmps70
    go_wp2_with (go_at_call 76; refine (verStamped_any bb off x _ R).mono ?_; rintro e w' ⟨rfl, hw⟩; obtain rfl := hw.symm)
    go_ret
    exact ⟨by rw [hv]; rfl, rfl⟩

set_option maxRecDepth 100000 in
set_option maxHeartbeats 4000000 in
theorem versionAt_any (B : Nat) (A : Ar) (x y z u : Int) (i0 : Int) (i1 : Int) (a0 a1 a2 a3 : Option Addr) (c0 c1 c2 c3 : Nat) (w : World) (hB : B ≤ w.heap.size) (hA : A.size ≤ 1048576) (I : ArenaIs B w (.slice a0 A.slots.length c0) (.slice a1 A.guides.length c1) (.slice a2 A.nodes.length c2) (.slice a3 A.vers.length c3) A) :
    Calls Try.prog 57 #[.agg #[.int .i64 x, .int .i64 y, .int .i64 z, .int .i64 u], .agg #[.int .i64 A.camera, .slice a0 A.slots.length c0, .slice a1 A.guides.length c1, .slice a2 A.nodes.length c2, .slice a3 A.vers.length c3], .int .i64 i0, .int .i64 i1] w fun e w' => e = .returned (.int .i64 (atOf x y z u A i0 i1)) ∧ Below w.heap.size w w' := by
  have hA' := hA
  unfold Ar.size at hA
  have P0 := (planAt_alloc w x y z u 31).below ((Below.refl _ _).alloc (Nat.le_refl _) (.cells #[.int .i64 A.camera, .slice a0 A.slots.length c0, .slice a1 A.guides.length c1, .slice a2 A.nodes.length c2, .slice a3 A.vers.length c3] 36)) (by simp)
  have X0 : World.rangeAt ((w.alloc (.cells #[.int .i64 x, .int .i64 y, .int .i64 z, .int .i64 u] 31)).alloc (.cells #[.int .i64 A.camera, .slice a0 A.slots.length c0, .slice a1 A.guides.length c1, .slice a2 A.nodes.length c2, .slice a3 A.vers.length c3] 36)) (w.heap.size + 1) 0 [.int .i64 A.camera, .slice a0 A.slots.length c0, .slice a1 A.guides.length c1, .slice a2 A.nodes.length c2, .slice a3 A.vers.length c3] := by
    have h := rangeAt_new (w.alloc (.cells #[.int .i64 x, .int .i64 y, .int .i64 z, .int .i64 u] 31)) [.int .i64 A.camera, .slice a0 A.slots.length c0, .slice a1 A.guides.length c1, .slice a2 A.nodes.length c2, .slice a3 A.vers.length c3] 36
    simp only [World.size_alloc] at h
    exact h
  have K0 := ((Below.refl w.heap.size w).alloc (Nat.le_refl _) (.cells #[.int .i64 x, .int .i64 y, .int .i64 z, .int .i64 u] 31)).alloc (by simp) (.cells #[.int .i64 A.camera, .slice a0 A.slots.length c0, .slice a1 A.guides.length c1, .slice a2 A.nodes.length c2, .slice a3 A.vers.length c3] 36)
  have hs0 : ((w.alloc (.cells #[.int .i64 x, .int .i64 y, .int .i64 z, .int .i64 u] 31)).alloc (.cells #[.int .i64 A.camera, .slice a0 A.slots.length c0, .slice a1 A.guides.length c1, .slice a2 A.nodes.length c2, .slice a3 A.vers.length c3] 36)).heap.size = w.heap.size + 2 := by simp
  obtain ⟨p0, p1, p2, p3⟩ := id P0
  obtain ⟨x0, x1, x2, x3, x4⟩ := row5 X0
  refine (callsIn_wide (n := 6)).1 ?_
  refine callsIn_of_wp_marks Try.func57 rfl trivial ?_ rfl
  simp only [Try.ntmps57, List.size_toArray, List.length_cons, List.length_nil, Nat.reduceAdd, Nat.reduceSub, Array.replicate_succ, Array.replicate_zero, List.push_toArray, List.append_toArray, List.nil_append, List.cons_append]
  gi_wp2_with fail
  clear p0 p1 p2 p3 x0 x1 x2 x3 P0
  have hs1 : (((w.alloc (.cells #[.int .i64 x, .int .i64 y, .int .i64 z, .int .i64 u] 31)).alloc (.cells #[.int .i64 A.camera, .slice a0 A.slots.length c0, .slice a1 A.guides.length c1, .slice a2 A.nodes.length c2, .slice a3 A.vers.length c3] 36)).alloc (.cells #[.int .i64 i1] 2)).heap.size = w.heap.size + 3 := by simp
  have x41 : ((((w.alloc (.cells #[.int .i64 x, .int .i64 y, .int .i64 z, .int .i64 u] 31)).alloc (.cells #[.int .i64 A.camera, .slice a0 A.slots.length c0, .slice a1 A.guides.length c1, .slice a2 A.nodes.length c2, .slice a3 A.vers.length c3] 36)).alloc (.cells #[.int .i64 i1] 2)).alloc (.cells #[.int .i64 0] 2)).cell? ⟨w.heap.size + 1, 4, none⟩ = some (.slice a3 A.vers.length c3) := (World.cell?_alloc_lt _ _ _ (by show w.heap.size + 1 < _; omega)).trans ((World.cell?_alloc_lt _ _ _ (by show w.heap.size + 1 < _; omega)).trans x4)
  have t1 : ((((w.alloc (.cells #[.int .i64 x, .int .i64 y, .int .i64 z, .int .i64 u] 31)).alloc (.cells #[.int .i64 A.camera, .slice a0 A.slots.length c0, .slice a1 A.guides.length c1, .slice a2 A.nodes.length c2, .slice a3 A.vers.length c3] 36)).alloc (.cells #[.int .i64 i1] 2)).alloc (.cells #[.int .i64 0] 2)).cell? ⟨w.heap.size + 2, 0, none⟩ = some (.int .i64 i1) := by
    refine (World.cell?_alloc_lt _ _ _ (by show w.heap.size + 2 < _; omega)).trans ?_
    have := rangeAt_new ((w.alloc (.cells #[.int .i64 x, .int .i64 y, .int .i64 z, .int .i64 u] 31)).alloc (.cells #[.int .i64 A.camera, .slice a0 A.slots.length c0, .slice a1 A.guides.length c1, .slice a2 A.nodes.length c2, .slice a3 A.vers.length c3] 36)) [.int .i64 i1] 2 0 (.int .i64 i1) rfl
    rw [hs0] at this
    exact this
  have d1 : ((((w.alloc (.cells #[.int .i64 x, .int .i64 y, .int .i64 z, .int .i64 u] 31)).alloc (.cells #[.int .i64 A.camera, .slice a0 A.slots.length c0, .slice a1 A.guides.length c1, .slice a2 A.nodes.length c2, .slice a3 A.vers.length c3] 36)).alloc (.cells #[.int .i64 i1] 2)).alloc (.cells #[.int .i64 0] 2)).cell? ⟨w.heap.size + 2 + 1, 0, none⟩ = some (.int .i64 0) := by
    have := rangeAt_new (((w.alloc (.cells #[.int .i64 x, .int .i64 y, .int .i64 z, .int .i64 u] 31)).alloc (.cells #[.int .i64 A.camera, .slice a0 A.slots.length c0, .slice a1 A.guides.length c1, .slice a2 A.nodes.length c2, .slice a3 A.vers.length c3] 36)).alloc (.cells #[.int .i64 i1] 2)) [.int .i64 0] 2 0 (.int .i64 0) rfl
    rw [hs1] at this
    exact this
  have f1 : ((((w.alloc (.cells #[.int .i64 x, .int .i64 y, .int .i64 z, .int .i64 u] 31)).alloc (.cells #[.int .i64 A.camera, .slice a0 A.slots.length c0, .slice a1 A.guides.length c1, .slice a2 A.nodes.length c2, .slice a3 A.vers.length c3] 36)).alloc (.cells #[.int .i64 i1] 2)).alloc (.cells #[.int .i64 0] 2)).frozen? ⟨w.heap.size + 2 + 1, 0, none⟩ = false := by
    have := (there_new (((w.alloc (.cells #[.int .i64 x, .int .i64 y, .int .i64 z, .int .i64 u] 31)).alloc (.cells #[.int .i64 A.camera, .slice a0 A.slots.length c0, .slice a1 A.guides.length c1, .slice a2 A.nodes.length c2, .slice a3 A.vers.length c3] 36)).alloc (.cells #[.int .i64 i1] 2)) #[.int .i64 0] 2 1 (by decide) 0 (by omega)).2
    rw [hs1] at this
    exact this
  have K1 := (K0.alloc (by omega) (.cells #[.int .i64 i1] 2)).alloc (by omega) (.cells #[.int .i64 0] 2)
  have s1 : ((((w.alloc (.cells #[.int .i64 x, .int .i64 y, .int .i64 z, .int .i64 u] 31)).alloc (.cells #[.int .i64 A.camera, .slice a0 A.slots.length c0, .slice a1 A.guides.length c1, .slice a2 A.nodes.length c2, .slice a3 A.vers.length c3] 36)).alloc (.cells #[.int .i64 i1] 2)).alloc (.cells #[.int .i64 0] 2)).heap.size = w.heap.size + 4 := by simp
  generalize hw1 : (((w.alloc (.cells #[.int .i64 x, .int .i64 y, .int .i64 z, .int .i64 u] 31)).alloc (.cells #[.int .i64 A.camera, .slice a0 A.slots.length c0, .slice a1 A.guides.length c1, .slice a2 A.nodes.length c2, .slice a3 A.vers.length c3] 36)).alloc (.cells #[.int .i64 i1] 2)).alloc (.cells #[.int .i64 0] 2) = w1 at *
  clear hw1 hs0 hs1 K0 X0 x4
  have I1 := I.below (K1.mono hB)
  refine ⟨trivial, (callsIn_wide.2 (linkOf_any B A x y z u i0 _ _ _ _ _ _ _ _ _ (by omega) hA' I1)).mono ?_⟩
  rintro e w2 ⟨v, b, rfl, L, b2⟩
  obtain ⟨rfl, hb0, hb1, Y2, n2⟩ := L
  have x42 := (b2.cell (p := ⟨w.heap.size + 1, 4, none⟩) (by show w.heap.size + 1 < w1.heap.size; omega)).trans x41
  have t2 := (b2.cell (p := ⟨w.heap.size + 2, 0, none⟩) (by show w.heap.size + 2 < w1.heap.size; omega)).trans t1
  have d2 := (b2.cell (p := ⟨w.heap.size + 2 + 1, 0, none⟩) (by show w.heap.size + 2 + 1 < w1.heap.size; omega)).trans d1
  have f2 := (b2.frozen (p := ⟨w.heap.size + 2 + 1, 0, none⟩) (by show w.heap.size + 2 + 1 < w1.heap.size; omega)).trans f1
  have K2 := K1.trans (b2.mono (by omega))
  have I2 := I.below (K2.mono hB)
  have s2 := b2.size
  obtain ⟨hv0, hv1, Fa⟩ := now_ge x y z u A i0
  have hlen := chain_length hv1
  have hv : Hid (atOf x y z u A i0 i1 = seek A i1 (nowOf x y z u A i0)) := atOf_now x y z u A i0 i1
  clear x41 t1 d1 f1 K1 I1 b2
  gi_wp2_with fail
  refine wpIn_rangeFunc_ownF (w0 := w2) (n := 6) rfl (by omega) (gf := 83) (lb := #[.pointer (some ⟨b + 1, 0, none⟩), .pointer (some ⟨b, 0, none⟩)]) rfl trivial (enters_of Try.func83 (by kernel_rfl) rfl)
    (encs := fun x : Vn A => #[Value.int .i64 x.1]) (Kp := Below w2.heap.size) (S := fun ys => ys.map (·.1) = chain A (nowOf x y z u A i0)) (Sp := fun pre => pre.map (·.1) <+: chain A (nowOf x y z u A i0)) (N := (chain A (nowOf x y z u A i0)).length)
    (fun l J Jx W hW _ _ hY h0 => backFrom1_in Fence.wide 5 trivial rfl (by omega) l b (b + 1) B A (nowOf x y z u A i0) a0 a1 a2 a3 c0 c1 c2 c3 hA' hv0 hv1 Fa (Below w2.heap.size w2) (Below w2.heap.size)
      (fun W hb => ⟨rangeAt_below Y2 hb (by omega), (hb.cell (p := ⟨b + 1, 0, none⟩) (by show b + 1 < w2.heap.size; omega)).trans n2, I2.below (hb.mono (by omega))⟩)
      (fun _ _ h1 h2 => h1.trans h2) J Jx hY W hW h0)
    (fun h1 h2 => h1.trans h2) (belowK_b (Nat.le_refl _)) (Below.refl _ _) (fun _ => rfl)
    (fun pre W => ((∀ y ∈ pre, byB i1 (vrOf A y.1) = false) ∧ W.cell? ⟨w.heap.size + 1, 4, none⟩ = some (.slice a3 A.vers.length c3) ∧ W.cell? ⟨w.heap.size + 2, 0, none⟩ = some (.int .i64 i1) ∧ W.cell? ⟨w.heap.size + 2 + 1, 0, none⟩ = some (.int .i64 0) ∧ W.frozen? ⟨w.heap.size + 2 + 1, 0, none⟩ = false) ∧ Below w.heap.size w W)
    (fun c pre W => (c = .ret ∧ (∃ (q : List (Vn A)) (k : Vn A), pre = q ++ [k] ∧ (∀ y ∈ q, byB i1 (vrOf A y.1) = false) ∧ byB i1 (vrOf A k.1) = true ∧ W.cell? ⟨w.heap.size + 2 + 1, 0, none⟩ = some (.int .i64 k.1)) ∧ 0 < (chain A (nowOf x y z u A i0)).length) ∧ Below w.heap.size w W)
    (OwnFrom.and (Own.from (fun s A B row hs hg hr => ⟨hs.1, cell_kept hs.2.1 hg hr, cell_kept hs.2.2.1 hg hr, cell_kept hs.2.2.2.1 hg hr, (frozen_kept hs.2.2.2.1 hg hr).trans hs.2.2.2.2⟩) _) (ownFrom_below (Nat.le_refl _) (by have := K2.size; omega)))
    (fun c => OwnFrom.and (Own.from (fun s A B row hs hg hr => ⟨hs.1, (by obtain ⟨q, k, h1, h2, h3, h4⟩ := hs.2.1; exact ⟨q, k, h1, h2, h3, cell_kept h4 hg hr⟩), hs.2.2⟩) _) (ownFrom_below (Nat.le_refl _) (by have := K2.size; omega)))
    ⟨⟨by simp, x42, t2, d2, f2⟩, K2⟩
    (fun v => { tmps := #[.agg #[.int .i64 x, .int .i64 y, .int .i64 z, .int .i64 u], .agg #[.int .i64 A.camera, .slice a0 A.slots.length c0, .slice a1 A.guides.length c1, .slice a2 A.nodes.length c2, .slice a3 A.vers.length c3], .int .i64 i0, .int .i64 i1, .pointer (some ⟨w.heap.size, 0, none⟩), .pointer (some ⟨w.heap.size + 1, 0, none⟩), undef, .pointer (some ⟨w.heap.size + 2, 0, none⟩), .pointer (some ⟨w.heap.size + 2 + 1, 0, none⟩), .int .i64 v.1, .agg #[.int .i64 x, .int .i64 y, .int .i64 z, .int .i64 u], .agg #[.int .i64 A.camera, .slice a0 A.slots.length c0, .slice a1 A.guides.length c1, .slice a2 A.nodes.length c2, .slice a3 A.vers.length c3], .int .i64 i0, .func (.func 83) #[] #[.pointer (some ⟨b + 1, 0, none⟩), .pointer (some ⟨b, 0, none⟩)], .int .i64 v.1, undef, undef, undef, undef, undef, undef, undef], defers := [] }) ?assign ?body ?done ?stop
  case assign =>
    intro l v W K hK
    gi_wp2
    exact hK
  case body =>
    rintro l pre ⟨v, hx0, hx1⟩ W ⟨⟨hpre, hc4, hst, hcr, hfr⟩, hB2⟩ hlt
    have hIW := I.below (hB2.mono hB)
    obtain ⟨m, rfl⟩ : ∃ m : Nat, v = m := ⟨v.toNat, by omega⟩
    have hm : m < A.vers.length := by omega
    have hm' : (m : Int) < (A.vers.length : Int) := by omega
    have hm0 : (0 : Int) ≤ (m : Int) := by omega
    have hmo : Try.prog.follows .mixedOrders = true := by kernel_rfl
    obtain ⟨bb, off, rfl, hbb, R⟩ := SliceAt.at hIW.r (by omega)
    have E := rangeAt_elem (sz := 5) (fun _ => rfl) R m hm
    clear R hIW
    have hE : vrOf A (m : Int) = A.vers[m] := vrOf_nat A m hm
    cases hq : byB i1 A.vers[m]
    · have hI1 : ∀ y ∈ pre ++ [(⟨(m : Int), hx0, hx1⟩ : Vn A)], byB i1 (vrOf A y.1) = false := by
        intro y hy
        rcases List.mem_append.1 hy with h | h
        · exact hpre y h
        · obtain rfl := List.mem_singleton.1 h
          show byB i1 (vrOf A (m : Int)) = false
          rw [hE]
          exact hq
      gi_wp2_with fail
      gi_region_with_o (refine ⟨trivial, ?_⟩; refine (CallsIn.inRound l (callsIn_wide.2 (verStampedBy_any bb (off + m * 5) A.vers[m] i1 W.drew (by exact E)))).mono ?_; rintro e w' ⟨rfl, hw⟩; obtain rfl := hw.symm)
      all_goals gi_wp2
      all_goals exact ⟨KeepsOthers.drew W, (Below.refl _ W).drew, ⟨hI1, hc4, hst, hcr, hfr⟩, hB2.drew⟩
    · have hI1 : ∃ (q : List (Vn A)) (k : Vn A), pre ++ [(⟨(m : Int), hx0, hx1⟩ : Vn A)] = q ++ [k] ∧ (∀ y ∈ q, byB i1 (vrOf A y.1) = false) ∧ byB i1 (vrOf A k.1) = true ∧ (W.drew.setCell ⟨w.heap.size + 2 + 1, 0, none⟩ (.int .i64 m)).cell? ⟨w.heap.size + 2 + 1, 0, none⟩ = some (.int .i64 k.1) :=
        ⟨pre, _, rfl, hpre, (by show byB i1 (vrOf A (m : Int)) = true; rw [hE]; exact hq), World.cell?_setCell_same' _ _ _ (by rw [show W.drew.cell? ⟨w.heap.size + 2 + 1, 0, none⟩ = W.cell? ⟨w.heap.size + 2 + 1, 0, none⟩ from rfl, hcr]; rfl)⟩
      gi_wp2_with fail
      gi_region_with_o (refine ⟨trivial, ?_⟩; refine (CallsIn.inRound l (callsIn_wide.2 (verStampedBy_any bb (off + m * 5) A.vers[m] i1 W.drew (by exact E)))).mono ?_; rintro e w' ⟨rfl, hw⟩; obtain rfl := hw.symm)
      all_goals gi_wp2
      all_goals exact ⟨(KeepsOthers.drew W).trans (KeepsOthers.setCell _ _ _), ⟨rfl, hI1, by omega⟩, hB2.drew.setCell (p := ⟨w.heap.size + 2 + 1, 0, none⟩) (by show w.heap.size ≤ w.heap.size + 2 + 1; omega) _⟩
  case done =>
    rintro D ys W hD hys ⟨⟨hne, _, _, hcr, hfr⟩, hB2⟩ hK
    have hv' : Hid (atOf x y z u A i0 i1 = -1) := by
      show _ = _
      rw [hv.out]
      by_cases h0 : 0 < (chain A (nowOf x y z u A i0)).length
      · exact seek_none hys hne (now_stamps h0)
      · have h00 : chain A (nowOf x y z u A i0) = [] := List.length_eq_zero_iff.1 (by omega)
        unfold seek
        rw [h00]
        rfl
    clear hys
    gi_wp2
    have hK' := (KeepsOthers.setCell W ⟨w.heap.size + 2 + 1, 0, none⟩ (.int .i64 (-1))).same D _ hK rfl
    refine ⟨by simp, .inl ⟨_, _, rfl, run_takeDeferred hK', ?_⟩⟩
    have hc5 := cell_kept (World.cell?_setCell_same' W ⟨w.heap.size + 2 + 1, 0, none⟩ (.int .i64 (-1)) (by rw [hcr]; rfl)) (grownBy_putObj' _ D (.deferred none)) (fun r e => by cases e; exact ⟨_, hK', rfl⟩)
    refine ⟨.int .i64 (-1), ?_, by rw [hv'.out], (hB2.setCell (p := ⟨w.heap.size + 2 + 1, 0, none⟩) (by show w.heap.size ≤ w.heap.size + 2 + 1; omega) _).trans (belowK_b (w := w) (Nat.le_refl _) _ D _ _ (by have := K2.size; omega) hK' rfl rfl)⟩
    simp [results, Try.results57, go_sem, hc5]
  case stop =>
    rintro D c pre W hD hpre ⟨⟨rfl, ⟨q, k, rfl, hq, hk, hcr⟩, h0⟩, hB2⟩ hK
    have hv' : Hid (atOf x y z u A i0 i1 = k.1) := by
      show _ = _
      rw [hv.out]
      exact seek_some hpre hq hk (now_stamps h0)
    clear hpre
    gi_wp2
    refine ⟨by simp, .inl ⟨_, _, rfl, run_takeDeferred hK, ?_⟩⟩
    have hc5 := cell_kept hcr (grownBy_putObj' _ D (.deferred none)) (fun r e => by cases e; exact ⟨_, hK, rfl⟩)
    refine ⟨.int .i64 k.1, ?_, by rw [hv'.out], hB2.trans (belowK_b (w := w) (Nat.le_refl _) W D _ _ (by have := K2.size; omega) hK rfl rfl)⟩
    simp [results, Try.results57, go_sem, hc5]

end Go.Proofs.Ytnmnjkjkhbcdfaa
