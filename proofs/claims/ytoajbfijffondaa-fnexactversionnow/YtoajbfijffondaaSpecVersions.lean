/-
  The versions of a node as the model lists them (chapter 3), as contracts. For every plan and every arena of at most 1048576 elements.
-/
import Derived.Test.YtoajbfijffondaaSpecVersion
import Derived.Test.YtoajbfijffondaaOwn
namespace Go.Proofs.Ytoajbfijffondaa
open Go.ChangeShapes Go.WideShapes Go.ChangeAt Go.RowKit
set_option linter.unusedVariables false
attribute [local go_sem ↓] Go.wp_at_zero Go.wp_at_succ

theorem chainF_length (A : Ar) : ∀ (f : Nat) (v : Int), (chainF A f v).length ≤ f
  | 0, _ => Nat.le_refl _
  | f + 1, v => by
    simp only [chainF]
    split
    · exact Nat.zero_le _
    · have := chainF_length A f (vrOf A v).prev
      simp only [List.length_cons]
      omega
theorem chain_length {A : Ar} {v : Int} (h : v < (A.vers.length : Int)) : (chain A v).length ≤ A.vers.length := by
  by_cases hv : v < 0
  · rw [chain_neg A hv]; exact Nat.zero_le _
  · have := chainF_length A (v.toNat + 1) v
    simp only [chain]
    omega
theorem versOf_length {x y z u : Int} {A : Ar} {n : Int} : (versOf x y z u A n).length ≤ A.vers.length := by
  unfold versOf
  split
  · rename_i h
    have hh : arenaB x y z u A = true ∧ inB n 0 ((A.nodes.length : Int) - 1) = true := by simpa [hasB] using h
    have h2 := (inB_iff _ _ _).1 hh.2
    obtain ⟨k, rfl⟩ : ∃ k : Nat, n = k := ⟨n.toNat, by omega⟩
    have hk : k < A.nodes.length := by omega
    rw [ndOf_nat A k hk]
    exact chain_length (arenaB_head hh.1 k hk).2
  · exact Nat.zero_le _

set_option maxRecDepth 100000 in
set_option maxHeartbeats 2000000 in
theorem specVersionsOf_any (B : Nat) (A : Ar) (x y z u : Int) (n : Int) (a0 a1 a2 a3 : Option Addr) (c0 c1 c2 c3 : Nat) (w : World) (hB : B ≤ w.heap.size) (hA : A.size ≤ 1048576) (I : ArenaIs B w (.slice a0 A.slots.length c0) (.slice a1 A.guides.length c1) (.slice a2 A.nodes.length c2) (.slice a3 A.vers.length c3) A) :
    Calls Try.prog 15 #[.agg #[.int .i64 x, .int .i64 y, .int .i64 z, .int .i64 u], .agg #[.int .i64 A.camera, .slice a0 A.slots.length c0, .slice a1 A.guides.length c1, .slice a2 A.nodes.length c2, .slice a3 A.vers.length c3], .int .i64 n] w fun e w' => ∃ v b, e = .returned v ∧ NewList w.heap.size w' v (versOf x y z u A n).length 1 (cellsOf intC (versOf x y z u A n)) b ∧ Below w.heap.size w w' := by
  have P0 := (planAt_alloc w x y z u 31).below ((Below.refl _ _).alloc (Nat.le_refl _) (.cells #[.int .i64 A.camera, .slice a0 A.slots.length c0, .slice a1 A.guides.length c1, .slice a2 A.nodes.length c2, .slice a3 A.vers.length c3] 36)) (by simp)
  have X0 : World.rangeAt ((w.alloc (.cells #[.int .i64 x, .int .i64 y, .int .i64 z, .int .i64 u] 31)).alloc (.cells #[.int .i64 A.camera, .slice a0 A.slots.length c0, .slice a1 A.guides.length c1, .slice a2 A.nodes.length c2, .slice a3 A.vers.length c3] 36)) (w.heap.size + 1) 0 [.int .i64 A.camera, .slice a0 A.slots.length c0, .slice a1 A.guides.length c1, .slice a2 A.nodes.length c2, .slice a3 A.vers.length c3] := by
    have h := rangeAt_new (w.alloc (.cells #[.int .i64 x, .int .i64 y, .int .i64 z, .int .i64 u] 31)) [.int .i64 A.camera, .slice a0 A.slots.length c0, .slice a1 A.guides.length c1, .slice a2 A.nodes.length c2, .slice a3 A.vers.length c3] 36
    simp only [World.size_alloc] at h
    exact h
  have K0 := ((Below.refl w.heap.size w).alloc (Nat.le_refl _) (.cells #[.int .i64 x, .int .i64 y, .int .i64 z, .int .i64 u] 31)).alloc (by simp) (.cells #[.int .i64 A.camera, .slice a0 A.slots.length c0, .slice a1 A.guides.length c1, .slice a2 A.nodes.length c2, .slice a3 A.vers.length c3] 36)
  have hz0 : w.heap.size + 1 < ((w.alloc (.cells #[.int .i64 x, .int .i64 y, .int .i64 z, .int .i64 u] 31)).alloc (.cells #[.int .i64 A.camera, .slice a0 A.slots.length c0, .slice a1 A.guides.length c1, .slice a2 A.nodes.length c2, .slice a3 A.vers.length c3] 36)).heap.size := by simp
  have I0 := I.below (K0.mono hB)
  have P0' := P0
  obtain ⟨p0, p1, p2, p3⟩ := P0'
  obtain ⟨x0, x1, x2, x3, x4⟩ := row5 X0
  have O0 := World.ownsRow_lit (base := w.heap.size + 2) (e := 2) (size := 1) ((w.alloc (.cells #[.int .i64 x, .int .i64 y, .int .i64 z, .int .i64 u] 31)).alloc (.cells #[.int .i64 A.camera, .slice a0 A.slots.length c0, .slice a1 A.guides.length c1, .slice a2 A.nodes.length c2, .slice a3 A.vers.length c3] 36)) #[] 0 (by simp) (by decide) (by simp)
  simp only [World.size_alloc] at O0
  have al := (Below.refl ((w.alloc (.cells #[.int .i64 x, .int .i64 y, .int .i64 z, .int .i64 u] 31)).alloc (.cells #[.int .i64 A.camera, .slice a0 A.slots.length c0, .slice a1 A.guides.length c1, .slice a2 A.nodes.length c2, .slice a3 A.vers.length c3] 36)).heap.size ((w.alloc (.cells #[.int .i64 x, .int .i64 y, .int .i64 z, .int .i64 u] 31)).alloc (.cells #[.int .i64 A.camera, .slice a0 A.slots.length c0, .slice a1 A.guides.length c1, .slice a2 A.nodes.length c2, .slice a3 A.vers.length c3] 36))).alloc (Nat.le_refl _) (.cells #[] 2)
  go_enter Try.func15, Try.ntmps15
  go_wp2_with fail
  have P0a := P0.below al (by omega)
  have X0a := rangeAt_below X0 al hz0
  have K0a := K0.trans (al.mono (by omega))
  have I0a := I.below (K0a.mono hB)
  have hz0a := Nat.lt_of_lt_of_le hz0 al.size
  have hz0b : w.heap.size + 2 < (((w.alloc (.cells #[.int .i64 x, .int .i64 y, .int .i64 z, .int .i64 u] 31)).alloc (.cells #[.int .i64 A.camera, .slice a0 A.slots.length c0, .slice a1 A.guides.length c1, .slice a2 A.nodes.length c2, .slice a3 A.vers.length c3] 36)).alloc (.cells #[] 2)).heap.size := by simp
  clear P0 X0 K0 I0 al hz0 p0 p1 p2 p3 x0 x1 x2 x3 x4
  generalize hw0 : ((w.alloc (.cells #[.int .i64 x, .int .i64 y, .int .i64 z, .int .i64 u] 31)).alloc (.cells #[.int .i64 A.camera, .slice a0 A.slots.length c0, .slice a1 A.guides.length c1, .slice a2 A.nodes.length c2, .slice a3 A.vers.length c3] 36)).alloc (.cells #[] 2) = w0 at *
  clear hw0
  refine (l3Has_any B A x y z u n _ _ _ _ _ _ _ _ _ (Nat.le_trans hB K0a.size) hA I0a).mono ?_
  rintro e w1 ⟨rfl, b1⟩
  have P1 := P0a.below b1 (by omega)
  have X1 := rangeAt_below X0a b1 hz0a
  have K1 := K0a.trans (b1.mono (by omega))
  have I1 := I.below (K1.mono hB)
  have O1 := own_below O0 b1 (fun j e => by simp [Value.ownBlock] at e; omega)
  have hz1 := Nat.lt_of_lt_of_le hz0a b1.size
  have hz1b := Nat.lt_of_lt_of_le hz0b b1.size
  clear P0a X0a K0a I I0a b1 hz0a hz0b O0
  obtain ⟨p0, p1, p2, p3⟩ := id P1
  obtain ⟨x0, x1, x2, x3, x4⟩ := row5 X1
  unfold Ar.size at hA
  cases hq : hasB x y z u A n
  · have hv : versOf x y z u A n = [] := by simp [versOf, hq]
    obtain ⟨b, N⟩ := own_new O1
    clear O1
    go_wp2
    go_ret
    exact ⟨_, b, rfl, by rw [hv]; exact N.lo (by omega), K1⟩
  have hh : arenaB x y z u A = true ∧ inB n 0 ((A.nodes.length : Int) - 1) = true := by simpa [hasB] using hq
  have hq' := (inB_iff _ _ _).1 hh.2
  obtain ⟨n, rfl⟩ : ∃ k : Nat, n = k := ⟨n.toNat, by omega⟩
  have hn : n < A.nodes.length := by omega
  have hn' : (n : Int) < (A.nodes.length : Int) := by omega
  have hn0 : (0 : Int) ≤ (n : Int) := by omega
  obtain ⟨bb, off, rfl, hbb, R⟩ := SliceAt.at I1.n (by omega)
  have hc : w1.cell? ⟨bb, off + n * 3 + 2, none⟩ = some (.int .i64 A.nodes[n].head) := (rangeAt_elem (sz := 3) (fun _ => rfl) R n hn) 2 _ rfl
  clear R hq'
  have hL : versOf x y z u A n = chain A A.nodes[n].head := by simp only [versOf, hq, if_true]; rw [ndOf_nat A n hn]
  have hd := arenaB_head hh.1 n hn
  have F := arenaB_falls hh.1
  have hlen := chain_length hd.2
  clear hh hq
  obtain ⟨i0, hi, hzr, hsz, hby⟩ := info_parts infoInt
  go_wp2
  clear hc
  go_loopw [7, 8] (fun o v wr => ∃ (ds : List Int) (c : Int), wr.ownsRow (w.heap.size + 2) 2 1 o ds.length (cellsOf intC ds) ∧ v = .int .i64 c ∧ -1 ≤ c ∧ c < (A.vers.length : Int) ∧ Hid (ds ++ chain A c = chain A A.nodes[n].head) ∧ Below (w.heap.size + 2) w1 wr) (fun _ v _ => (intOf v + 1).toNat)
  case atStart => exact ⟨[], _, O1, rfl, by omega, hd.2, rfl, Below.refl _ _⟩
  case round =>
    obtain ⟨ds, c, own, rfl, hc0, hc1, hs, bel⟩ := hrel
    obtain ⟨x0, x1, x2, x3, x4⟩ := row5 (rangeAt_below X1 bel (by omega))
    have hz := bel.size
    by_cases hneg : c < 0
    · have hv : versOf x y z u A n = ds := by rw [hL, ← hs.out, chain_neg A hneg, List.append_nil]
      obtain ⟨b, N⟩ := own_new own
      obtain ⟨oa, oc, rfl⟩ := own_is own
      clear own hs
      go_wp2
      go_ret
      exact ⟨_, b, rfl, by rw [hv]; exact N.lo (by omega), K1.trans (bel.mono (by omega))⟩
    · obtain ⟨m, rfl⟩ : ∃ m : Nat, c = m := ⟨c.toNat, by omega⟩
      have hm : m < A.vers.length := by omega
      have hm0 : (0 : Int) ≤ (m : Int) := by omega
      have hf := F m hm
      have hs2 : Hid ((ds ++ [(m : Int)]) ++ chain A A.vers[m].prev = chain A A.nodes[n].head) := by
        rw [List.append_assoc]
        show ds ++ ((m : Int) :: chain A A.vers[m].prev) = _
        rw [← chain_nat F m hm]
        exact hs.out
      have hdl : ds.length < A.vers.length := by
        have := congrArg List.length hs2.out
        simp only [List.length_append, List.length_cons, List.length_nil] at this
        omega
      have own2 := own
      clear hs
      go_wp2_with (at_builtin; refine wpList_append_own _ rfl _ _ 24 rfl (w.heap.size + 2) 2 i0 (.int .i64 0) 1 8 Try.underlying24 hi hzr hsz hby rfl (by decide) _ _ _ rfl (own2.alloc _) ⟨wr.heap.size, 0, none⟩ 1 1 [.int .i64 (m : Int)] rfl rfl ?c1 ?c2 ?c3 ?c4 ?c5 ?_)
      try (case c1 => intro j u hj; rcases j with _ | j; (simp at hj; subst hj; simp [Addr.add]); simp at hj)
      try (case c2 => first | rfl | (intro u hu; simp at hu; subst hu; rfl))
      try (case c3 => unfold maxLen; omega)
      try (case c4 => omega)
      try (case c5 => first | omega | (simp; omega))
      intro v' w2 hown' hgrow _
      have b2 : Below (w.heap.size + 2) wr w2 := ((Below.refl _ wr).alloc (by omega) _).grown hgrow (by simp; omega) (fun j e => own_ge own e)
      replace hown' : w2.ownsRow (w.heap.size + 2) 2 1 v' (ds.length + 1) (cellsOf intC (ds ++ [(m : Int)])) := by rw [cellsOf_snoc]; exact hown'
      obtain ⟨va, vc, rfl⟩ := own_is hown'
      have bel2 := bel.trans b2
      obtain ⟨bb2, off2, rfl, hbb2, R2⟩ := SliceAt.at I1.r (by omega)
      have e3 : w2.cell? ⟨bb2, off2 + m * 5 + 3, none⟩ = some (.int .i64 A.vers[m].prev) := (rangeAt_elem (sz := 5) (fun _ => rfl) (rangeAt_below R2 (bel2.mono (by omega)) hbb2) m hm) 3 _ rfl
      obtain ⟨x0, x1, x2, x3, x4⟩ := row5 (rangeAt_below X1 bel2 (by omega))
      clear R2 own own2 hgrow
      go_wp2
      go_roundw
      case rel => exact ⟨ds ++ [(m : Int)], _, by simpa using hown', rfl, hf.1, by omega, hs2, bel2⟩
      case measure => simp [intOf]; omega

set_option maxRecDepth 100000 in
set_option maxHeartbeats 1000000 in
theorem specDepthOf_any (B : Nat) (A : Ar) (x y z u : Int) (n : Int) (a0 a1 a2 a3 : Option Addr) (c0 c1 c2 c3 : Nat) (w : World) (hB : B ≤ w.heap.size) (hA : A.size ≤ 1048576) (I : ArenaIs B w (.slice a0 A.slots.length c0) (.slice a1 A.guides.length c1) (.slice a2 A.nodes.length c2) (.slice a3 A.vers.length c3) A) :
    Calls Try.prog 21 #[.agg #[.int .i64 x, .int .i64 y, .int .i64 z, .int .i64 u], .agg #[.int .i64 A.camera, .slice a0 A.slots.length c0, .slice a1 A.guides.length c1, .slice a2 A.nodes.length c2, .slice a3 A.vers.length c3], .int .i64 n] w fun e w' => e = .returned (.int .i64 (depthOf x y z u A n)) ∧ Below w.heap.size w w' := by
  have hA' := hA
  unfold Ar.size at hA
  have P0 := (planAt_alloc w x y z u 31).below ((Below.refl _ _).alloc (Nat.le_refl _) (.cells #[.int .i64 A.camera, .slice a0 A.slots.length c0, .slice a1 A.guides.length c1, .slice a2 A.nodes.length c2, .slice a3 A.vers.length c3] 36)) (by simp)
  have X0 : World.rangeAt ((w.alloc (.cells #[.int .i64 x, .int .i64 y, .int .i64 z, .int .i64 u] 31)).alloc (.cells #[.int .i64 A.camera, .slice a0 A.slots.length c0, .slice a1 A.guides.length c1, .slice a2 A.nodes.length c2, .slice a3 A.vers.length c3] 36)) (w.heap.size + 1) 0 [.int .i64 A.camera, .slice a0 A.slots.length c0, .slice a1 A.guides.length c1, .slice a2 A.nodes.length c2, .slice a3 A.vers.length c3] := by
    have h := rangeAt_new (w.alloc (.cells #[.int .i64 x, .int .i64 y, .int .i64 z, .int .i64 u] 31)) [.int .i64 A.camera, .slice a0 A.slots.length c0, .slice a1 A.guides.length c1, .slice a2 A.nodes.length c2, .slice a3 A.vers.length c3] 36
    simp only [World.size_alloc] at h
    exact h
  have K0 := ((Below.refl w.heap.size w).alloc (Nat.le_refl _) (.cells #[.int .i64 x, .int .i64 y, .int .i64 z, .int .i64 u] 31)).alloc (by simp) (.cells #[.int .i64 A.camera, .slice a0 A.slots.length c0, .slice a1 A.guides.length c1, .slice a2 A.nodes.length c2, .slice a3 A.vers.length c3] 36)
  have hz0 : w.heap.size + 1 < ((w.alloc (.cells #[.int .i64 x, .int .i64 y, .int .i64 z, .int .i64 u] 31)).alloc (.cells #[.int .i64 A.camera, .slice a0 A.slots.length c0, .slice a1 A.guides.length c1, .slice a2 A.nodes.length c2, .slice a3 A.vers.length c3] 36)).heap.size := by simp
  have I0 := I.below (K0.mono hB)
  have P0' := P0
  obtain ⟨p0, p1, p2, p3⟩ := P0'
  obtain ⟨x0, x1, x2, x3, x4⟩ := row5 X0
  go_enter Try.func21, Try.ntmps21
  go_wp2_with fail
  refine (l3Has_any B A x y z u n _ _ _ _ _ _ _ _ _ (by omega) hA' I0).mono ?_
  rintro e w1 ⟨rfl, b1⟩
  have P1 := P0.below b1 (by omega)
  have X1 := rangeAt_below X0 b1 hz0
  have K1 := K0.trans (b1.mono (by omega))
  have I1 := I.below (K1.mono hB)
  have hz1 := Nat.lt_of_lt_of_le hz0 b1.size
  clear P0 X0 K0 I I0 b1 hz0 p0 p1 p2 p3 x0 x1 x2 x3 x4
  have P1' := P1
  obtain ⟨p0, p1, p2, p3⟩ := P1'
  obtain ⟨x0, x1, x2, x3, x4⟩ := row5 X1
  cases hq : hasB x y z u A n
  · have hv : depthOf x y z u A n = -1 := by simp [depthOf, hq]
    go_wp2
    go_ret
    exact ⟨by rw [hv]; rfl, K1⟩
  have hlen := versOf_length (x := x) (y := y) (z := z) (u := u) (A := A) (n := n)
  have hv : depthOf x y z u A n = ((versOf x y z u A n).length : Int) := by simp [depthOf, versOf, hq]
  go_wp2_with fail
  refine (specVersionsOf_any B A x y z u n _ _ _ _ _ _ _ _ _ (by omega) hA' I1).mono ?_
  rintro e w2 ⟨v, b, rfl, N, b2⟩
  have K2 := K1.trans (b2.mono (by omega))
  obtain ⟨va, vc, rfl⟩ : ∃ va vc, v = .slice va (versOf x y z u A n).length vc := by obtain ⟨a, cap, o, h, -⟩ := N; exact ⟨a, cap, h⟩
  clear p0 p1 p2 p3 x0 x1 x2 x3 x4 N
  go_wp2
  go_ret
  exact ⟨by rw [hv]; rfl, K2⟩

end Go.Proofs.Ytoajbfijffondaa
