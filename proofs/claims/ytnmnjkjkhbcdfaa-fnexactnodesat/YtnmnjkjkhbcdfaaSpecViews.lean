/-
  What the model says of views (chapter 4), as contracts, told by plain functions. For every plan and every arena of at most 1048576 elements.
-/
import Derived.Test.YtnmnjkjkhbcdfaaSpecVersions
import Derived.Test.YtnmnjkjkhbcdfaaSame
import Derived.Deep.AppendLies
namespace Go.Proofs.Ytnmnjkjkhbcdfaa
open Go.ChangeShapes Go.WideShapes Go.ChangeAt Go.RowKit
set_option linter.unusedVariables false
attribute [local go_sem ↓] Go.wp_at_zero Go.wp_at_succ

theorem chainF_mem {A : Ar} (F : Falls A) : ∀ (f : Nat) (v k : Int), v < (A.vers.length : Int) → k ∈ chainF A f v → 0 ≤ k ∧ k < (A.vers.length : Int)
  | 0, _, _, _, h => by simp [chainF] at h
  | f + 1, v, k, hv, h => by
    simp only [chainF] at h
    split at h
    · cases h
    · rename_i hn
      rcases List.mem_cons.1 h with h | h
      · omega
      · obtain ⟨n, rfl⟩ : ∃ n : Nat, v = n := ⟨v.toNat, by omega⟩
        have hlt : n < A.vers.length := by omega
        rw [vrOf_nat A n hlt] at h
        have := F n hlt
        exact chainF_mem F f _ k (by omega) h
theorem seek_in {A : Ar} (F : Falls A) (st v : Int) (hv : v < (A.vers.length : Int)) : -1 ≤ seek A st v ∧ seek A st v < (A.vers.length : Int) ∨ seek A st v = -1 := by
  unfold seek
  cases h : (chain A v).find? fun k => !(decide ((vrOf A k).stamp < 0) || decide (st < (vrOf A k).stamp)) with
  | none => right; rfl
  | some k =>
    left
    have := chainF_mem F _ v k hv (List.mem_of_find?_eq_some h)
    simp only [Option.getD_some]
    omega

/-- The version of a node's link, now or at a stamp. -/
def linkOf (A : Ar) (now : Bool) (st n : Int) : Int := if now then (ndOf A n).head else seek A st (ndOf A n).head
/-- The nodes from a version on, at most so many. -/
def nodesF (A : Ar) (now : Bool) (st : Int) : Nat → Int → List Int
  | 0, _ => []
  | f + 1, v => if v < 0 ∨ (vrOf A v).next < 0 then [] else (vrOf A v).next :: nodesF A now st f (linkOf A now st (vrOf A v).next)
def nodesL (x y z u : Int) (A : Ar) (now : Bool) (st : Int) : List Int := if arenaB x y z u A then nodesF A now st A.nodes.length (linkOf A now st 0) else []
theorem nodesF_length (A : Ar) (now : Bool) (st : Int) : ∀ (f : Nat) (v : Int), (nodesF A now st f v).length ≤ f
  | 0, _ => Nat.le_refl _
  | f + 1, v => by
    simp only [nodesF]
    split
    · exact Nat.zero_le _
    · have := nodesF_length A now st f (linkOf A now st (vrOf A v).next)
      simp only [List.length_cons]
      omega
theorem nodesL_length (x y z u : Int) (A : Ar) (now : Bool) (st : Int) : (nodesL x y z u A now st).length ≤ A.nodes.length := by
  unfold nodesL
  split
  · exact nodesF_length A now st _ _
  · exact Nat.zero_le _
theorem linkOf_in {x y z u : Int} {A : Ar} (h : arenaB x y z u A = true) (now : Bool) (st : Int) (n : Nat) (hn : n < A.nodes.length) : -1 ≤ linkOf A now st n ∧ linkOf A now st n < (A.vers.length : Int) := by
  have hd := arenaB_head h n hn
  have F := arenaB_falls h
  unfold linkOf
  rw [ndOf_nat A n hn]
  split
  · omega
  · rcases seek_in F st A.nodes[n].head hd.2 with h | h
    · exact h
    · rw [h]; omega
theorem arenaB_next {x y z u : Int} {A : Ar} (h : arenaB x y z u A = true) (m : Nat) (hm : m < A.vers.length) (hx : 0 ≤ A.vers[m].next) : ∃ k : Nat, A.vers[m].next = k ∧ k < A.nodes.length := by
  have := (allIdx_iff _ _).1 (arenaB_parts h).2.2.2.2 m hm
  simp only [verB, Bool.and_eq_true, Bool.or_eq_true, inB_iff, beq_iff_eq] at this
  exact ⟨A.vers[m].next.toNat, by omega, by omega⟩
theorem arenaB_some {x y z u : Int} {A : Ar} (h : arenaB x y z u A = true) : 0 < A.nodes.length ∧ A.nodes.length ≤ 60 ∧ A.vers.length ≤ 400 := by
  have h1 := (arenaB_parts h).1
  simp only [headB, Bool.and_eq_true, inB_iff, planB_iff] at h1
  omega

set_option maxRecDepth 100000 in
set_option maxHeartbeats 1000000 in
theorem l4Ver_any (B : Nat) (A : Ar) (now : Bool) (st : Int) (n : Nat) (a0 a1 a2 a3 : Option Addr) (c0 c1 c2 c3 : Nat) (w : World) (hB : B ≤ w.heap.size) (F : Falls A) (hn : n < A.nodes.length) (hd0 : 0 ≤ A.nodes[n].head) (hd1 : A.nodes[n].head < (A.vers.length : Int)) (hA : A.size ≤ 1048576) (I : ArenaIs B w (.slice a0 A.slots.length c0) (.slice a1 A.guides.length c1) (.slice a2 A.nodes.length c2) (.slice a3 A.vers.length c3) A) :
    Calls Try.prog 52 #[.agg #[.int .i64 A.camera, .slice a0 A.slots.length c0, .slice a1 A.guides.length c1, .slice a2 A.nodes.length c2, .slice a3 A.vers.length c3], .int .i64 n, .bool now, .int .i64 st] w fun e w' => e = .returned (.int .i64 (linkOf A now st n)) ∧ Below w.heap.size w w' := by
  have hA' := hA
  unfold Ar.size at hA
  have X0 := rangeAt_new w [.int .i64 A.camera, .slice a0 A.slots.length c0, .slice a1 A.guides.length c1, .slice a2 A.nodes.length c2, .slice a3 A.vers.length c3] 36
  have K0 := (Below.refl w.heap.size w).alloc (Nat.le_refl _) (.cells #[.int .i64 A.camera, .slice a0 A.slots.length c0, .slice a1 A.guides.length c1, .slice a2 A.nodes.length c2, .slice a3 A.vers.length c3] 36)
  have hz0 : w.heap.size < (w.alloc (.cells #[.int .i64 A.camera, .slice a0 A.slots.length c0, .slice a1 A.guides.length c1, .slice a2 A.nodes.length c2, .slice a3 A.vers.length c3] 36)).heap.size := by simp
  have I0 := I.below (K0.mono hB)
  obtain ⟨x0, x1, x2, x3, x4⟩ := row5 X0
  have hn' : (n : Int) < (A.nodes.length : Int) := by omega
  have hn0 : (0 : Int) ≤ (n : Int) := by omega
  have hzB : B < (w.alloc (.cells #[.int .i64 A.camera, .slice a0 A.slots.length c0, .slice a1 A.guides.length c1, .slice a2 A.nodes.length c2, .slice a3 A.vers.length c3] 36)).heap.size := by simp; omega
  obtain ⟨bb, off, rfl, hbb, R⟩ := SliceAt.at I0.n (by omega)
  have hc : (w.alloc (.cells #[.int .i64 A.camera, .slice a0 A.slots.length c0, .slice a1 A.guides.length c1, .slice (some ⟨bb, off, none⟩) A.nodes.length c2, .slice a3 A.vers.length c3] 36)).cell? ⟨bb, off + n * 3 + 2, none⟩ = some (.int .i64 A.nodes[n].head) := (rangeAt_elem (sz := 3) (fun _ => rfl) R n hn) 2 _ rfl
  clear R
  cases now
  · have hv : linkOf A false st n = seek A st A.nodes[n].head := by simp [linkOf, ndOf_nat A n hn]
    go_enter Try.func52, Try.ntmps52
    go_wp2
    have BB : Below (w.alloc (.cells #[.int .i64 A.camera, .slice a0 A.slots.length c0, .slice a1 A.guides.length c1, .slice (some ⟨bb, off, none⟩) A.nodes.length c2, .slice a3 A.vers.length c3] 36)).heap.size (w.alloc (.cells #[.int .i64 A.camera, .slice a0 A.slots.length c0, .slice a1 A.guides.length c1, .slice (some ⟨bb, off, none⟩) A.nodes.length c2, .slice a3 A.vers.length c3] 36)) (w.alloc (.cells #[.int .i64 A.camera, .slice a0 A.slots.length c0, .slice a1 A.guides.length c1, .slice (some ⟨bb, off, none⟩) A.nodes.length c2, .slice a3 A.vers.length c3] 36)) := Below.refl _ _
    generalize hw0 : w.alloc (.cells #[.int .i64 A.camera, .slice a0 A.slots.length c0, .slice a1 A.guides.length c1, .slice (some ⟨bb, off, none⟩) A.nodes.length c2, .slice a3 A.vers.length c3] 36) = w0 at *
    clear hw0
    go_region_held3 (fun w' => w'.cell? ⟨w.heap.size, 0, none⟩ = some (.int .i64 A.camera) ∧ w'.cell? ⟨w.heap.size, 1, none⟩ = some (.slice a0 A.slots.length c0) ∧ w'.cell? ⟨w.heap.size, 2, none⟩ = some (.slice a1 A.guides.length c1) ∧ w'.cell? ⟨w.heap.size, 3, none⟩ = some (.slice (some ⟨bb, off, none⟩) A.nodes.length c2) ∧ w'.cell? ⟨w.heap.size, 4, none⟩ = some (.slice a3 A.vers.length c3) ∧ w'.cell? ⟨bb, off + n * 3 + 2, none⟩ = some (.int .i64 A.nodes[n].head)) (go_keep) ((go_at_call 68; refine (l3At_any B A _ st _ _ _ _ _ _ _ _ _ (by exact Nat.le_trans hB K0.size) F hd1 hA' ?_).mono ?_; (first | exact I0.below (BB.drew.mono (Nat.le_trans hB K0.size)) | exact I0); rintro e w2 ⟨rfl, b2⟩; have bel2 : Below w0.heap.size w0 w2 := (by first | exact BB.drew.trans (b2.mono (by exact BB.size)) | exact BB.trans (b2.mono (by exact BB.size))); obtain ⟨y0, y1, y2, y3, y4⟩ := row5 (rangeAt_below X0 bel2 hz0); have hc2 : w2.cell? ⟨bb, off + n * 3 + 2, none⟩ = some (.int .i64 A.nodes[n].head) := (bel2.cell (p := ⟨bb, off + n * 3 + 2, none⟩) (by show bb < w0.heap.size; omega)).trans hc; rw [if_neg (by omega)]))
    go_wp2
    go_ret
    exact ⟨by first | rfl | (rw [hv]; rfl), K0.trans (bel2.mono (by omega))⟩
  · have hv : linkOf A true st n = A.nodes[n].head := by simp [linkOf, ndOf_nat A n hn]
    go_enter Try.func52, Try.ntmps52
    go_wp2
    go_ret
    exact ⟨by first | rfl | (rw [hv]; rfl), K0⟩

def lenV : Value → Nat
  | .slice _ n _ => n
  | _ => 0
theorem nodesF_stop (A : Ar) (now : Bool) (st : Int) (f : Nat) {v : Int} (h : v < 0 ∨ (vrOf A v).next < 0) : nodesF A now st f v = [] := by
  cases f with
  | zero => rfl
  | succ f => simp only [nodesF, if_pos h]

set_option maxRecDepth 100000 in
set_option maxHeartbeats 2000000 in
theorem l4Nodes_any (B : Nat) (A : Ar) (x y z u : Int) (now : Bool) (st : Int) (a0 a1 a2 a3 : Option Addr) (c0 c1 c2 c3 : Nat) (w : World) (hB : B ≤ w.heap.size) (hA : A.size ≤ 1048576) (I : ArenaIs B w (.slice a0 A.slots.length c0) (.slice a1 A.guides.length c1) (.slice a2 A.nodes.length c2) (.slice a3 A.vers.length c3) A) :
    Calls Try.prog 34 #[.agg #[.int .i64 x, .int .i64 y, .int .i64 z, .int .i64 u], .agg #[.int .i64 A.camera, .slice a0 A.slots.length c0, .slice a1 A.guides.length c1, .slice a2 A.nodes.length c2, .slice a3 A.vers.length c3], .bool now, .int .i64 st] w fun e w' => ∃ v b, e = .returned v ∧ NewList w.heap.size w' v (nodesL x y z u A now st).length 1 (cellsOf intC (nodesL x y z u A now st)) b ∧ Below w.heap.size w w' := by
  have hA' := hA
  have P0 := (planAt_alloc w x y z u 31).below ((Below.refl _ _).alloc (Nat.le_refl _) (.cells #[.int .i64 A.camera, .slice a0 A.slots.length c0, .slice a1 A.guides.length c1, .slice a2 A.nodes.length c2, .slice a3 A.vers.length c3] 36)) (by simp)
  have X0 : World.rangeAt ((w.alloc (.cells #[.int .i64 x, .int .i64 y, .int .i64 z, .int .i64 u] 31)).alloc (.cells #[.int .i64 A.camera, .slice a0 A.slots.length c0, .slice a1 A.guides.length c1, .slice a2 A.nodes.length c2, .slice a3 A.vers.length c3] 36)) (w.heap.size + 1) 0 [.int .i64 A.camera, .slice a0 A.slots.length c0, .slice a1 A.guides.length c1, .slice a2 A.nodes.length c2, .slice a3 A.vers.length c3] := by
    have h := rangeAt_new (w.alloc (.cells #[.int .i64 x, .int .i64 y, .int .i64 z, .int .i64 u] 31)) [.int .i64 A.camera, .slice a0 A.slots.length c0, .slice a1 A.guides.length c1, .slice a2 A.nodes.length c2, .slice a3 A.vers.length c3] 36
    simp only [World.size_alloc] at h
    exact h
  have K0 := ((Below.refl w.heap.size w).alloc (Nat.le_refl _) (.cells #[.int .i64 x, .int .i64 y, .int .i64 z, .int .i64 u] 31)).alloc (by simp) (.cells #[.int .i64 A.camera, .slice a0 A.slots.length c0, .slice a1 A.guides.length c1, .slice a2 A.nodes.length c2, .slice a3 A.vers.length c3] 36)
  have hz0 : w.heap.size + 1 < ((w.alloc (.cells #[.int .i64 x, .int .i64 y, .int .i64 z, .int .i64 u] 31)).alloc (.cells #[.int .i64 A.camera, .slice a0 A.slots.length c0, .slice a1 A.guides.length c1, .slice a2 A.nodes.length c2, .slice a3 A.vers.length c3] 36)).heap.size := by simp
  have I0 := I.below (K0.mono hB)
  have P0' := P0
  obtain ⟨p0, p1, p2, p3⟩ := P0'
  obtain ⟨x0, x1, x2, x3, x4⟩ := row5 X0
  have O0 := World.ownsRow_lit (base := w.heap.size + 2) (e := 2) (size := 1) ((w.alloc (.cells #[.int .i64 x, .int .i64 y, .int .i64 z, .int .i64 u] 31)).alloc (.cells #[.int .i64 A.camera, .slice a0 A.slots.length c0, .slice a1 A.guides.length c1, .slice a2 A.nodes.length c2, .slice a3 A.vers.length c3] 36)) #[] 0 (by simp) (by decide) (by simp)
  simp only [World.size_alloc] at O0
  have al := (Below.refl ((w.alloc (.cells #[.int .i64 x, .int .i64 y, .int .i64 z, .int .i64 u] 31)).alloc (.cells #[.int .i64 A.camera, .slice a0 A.slots.length c0, .slice a1 A.guides.length c1, .slice a2 A.nodes.length c2, .slice a3 A.vers.length c3] 36)).heap.size ((w.alloc (.cells #[.int .i64 x, .int .i64 y, .int .i64 z, .int .i64 u] 31)).alloc (.cells #[.int .i64 A.camera, .slice a0 A.slots.length c0, .slice a1 A.guides.length c1, .slice a2 A.nodes.length c2, .slice a3 A.vers.length c3] 36))).alloc (Nat.le_refl _) (.cells #[] 2)
  go_enter Try.func34, Try.ntmps34
  go_wp2_with fail
  have P0a := P0.below al (by omega)
  have X0a := rangeAt_below X0 al hz0
  have K0a := K0.trans (al.mono (by omega))
  have I0a := I.below (K0a.mono hB)
  have hz0a := Nat.lt_of_lt_of_le hz0 al.size
  have hz0b : w.heap.size + 2 < (((w.alloc (.cells #[.int .i64 x, .int .i64 y, .int .i64 z, .int .i64 u] 31)).alloc (.cells #[.int .i64 A.camera, .slice a0 A.slots.length c0, .slice a1 A.guides.length c1, .slice a2 A.nodes.length c2, .slice a3 A.vers.length c3] 36)).alloc (.cells #[] 2)).heap.size := by simp
  clear P0 X0 K0 I0 al hz0 p0 p1 p2 p3 x0 x1 x2 x3 x4
  generalize hw0 : ((w.alloc (.cells #[.int .i64 x, .int .i64 y, .int .i64 z, .int .i64 u] 31)).alloc (.cells #[.int .i64 A.camera, .slice a0 A.slots.length c0, .slice a1 A.guides.length c1, .slice a2 A.nodes.length c2, .slice a3 A.vers.length c3] 36)).alloc (.cells #[] 2) = w0 at *
  clear hw0
  refine (specArenaOk_any B A x y z u _ _ _ _ _ _ _ _ _ (Nat.le_trans hB K0a.size) hA I0a).mono ?_
  rintro e w1 ⟨rfl, b1⟩
  have X1 := rangeAt_below X0a b1 hz0a
  have K1 := K0a.trans (b1.mono (by omega))
  have I1 := I.below (K1.mono hB)
  have O1 := own_below O0 b1 (fun j e => by simp [Value.ownBlock] at e; omega)
  have hz1 := Nat.lt_of_lt_of_le hz0a b1.size
  have hz1b := Nat.lt_of_lt_of_le hz0b b1.size
  clear P0a X0a K0a I I0a b1 hz0a hz0b O0
  obtain ⟨x0, x1, x2, x3, x4⟩ := row5 X1
  unfold Ar.size at hA
  cases hq : arenaB x y z u A
  · have hv : nodesL x y z u A now st = [] := by simp [nodesL, hq]
    obtain ⟨b, N⟩ := own_new O1
    clear O1
    go_wp2
    go_ret
    exact ⟨_, b, rfl, by rw [hv]; exact N.lo (by omega), K1⟩
  have hsome := arenaB_some hq
  have F := arenaB_falls hq
  have hd := arenaB_head hq 0 hsome.1
  have hL : Hid (nodesL x y z u A now st = nodesF A now st A.nodes.length (linkOf A now st 0)) := by show _ = _; simp only [nodesL, hq, if_true]
  have hl0 := linkOf_in hq now st 0 hsome.1
  go_wp2_with fail
  refine (l4Ver_any B A now st 0 _ _ _ _ _ _ _ _ _ (Nat.le_trans hB K1.size) F hsome.1 hd.1 hd.2 hA' I1).mono ?_
  rintro e w2 ⟨rfl, b2⟩
  have X2 := rangeAt_below X1 b2 hz1
  have K2 := K1.trans (b2.mono (by omega))
  have I2 := I1.below (b2.mono (by omega))
  have O2 := own_below O1 b2 (fun j e => by simp [Value.ownBlock] at e; omega)
  have hz2 := Nat.lt_of_lt_of_le hz1 b2.size
  have hz2b := Nat.lt_of_lt_of_le hz1b b2.size
  clear X1 K1 I1 O1 b2 hz1 hz1b x0 x1 x2 x3 x4 hd
  obtain ⟨i0, hi, hzr, hsz, hby⟩ := info_parts infoInt
  go_wp2
  go_loopw [9, 10] (fun o v wr => ∃ (ds : List Int) (c : Int), wr.ownsRow (w.heap.size + 2) 2 1 o ds.length (cellsOf intC ds) ∧ v = .int .i64 c ∧ -1 ≤ c ∧ c < (A.vers.length : Int) ∧ ds.length ≤ A.nodes.length ∧ Hid (ds ++ nodesF A now st (A.nodes.length - ds.length) c = nodesF A now st A.nodes.length (linkOf A now st 0)) ∧ Below (w.heap.size + 2) w2 wr) (fun o _ _ => A.nodes.length - lenV o)
  case atStart => exact ⟨[], _, O2, rfl, hl0.1, hl0.2, Nat.zero_le _, rfl, Below.refl _ _⟩
  case round =>
    obtain ⟨ds, c, own, rfl, hc0, hc1, hdl, hs, bel⟩ := hrel
    obtain ⟨x0, x1, x2, x3, x4⟩ := row5 (rangeAt_below X2 bel (by omega))
    have hz := bel.size
    obtain ⟨oa, oc, rfl⟩ := own_is own
    have hfin : ∀ (v : Int), (v < 0 ∨ (vrOf A v).next < 0 ∨ A.nodes.length ≤ ds.length) → c = v → Hid (nodesL x y z u A now st = ds) := by
      rintro v hv rfl
      show _ = _
      rw [hL.out, ← hs.out]
      rcases hv with hv | hv | hv
      · rw [nodesF_stop A now st _ (Or.inl hv), List.append_nil]
      · rw [nodesF_stop A now st _ (Or.inr hv), List.append_nil]
      · rw [show A.nodes.length - ds.length = 0 by omega]; simp [nodesF]
    by_cases hneg : c < 0
    · have hv := hfin _ (Or.inl hneg) rfl
      obtain ⟨b, N⟩ := own_new own
      clear own hs hfin
      go_wp2
      go_ret
      have NN : NewList w.heap.size wr (.slice oa ds.length oc) (nodesL x y z u A now st).length 1 (cellsOf intC (nodesL x y z u A now st)) b := by rw [hv.out]; exact N.lo (by omega)
      first | exact ⟨_, b, rfl, NN, K2.trans (bel.mono (by omega))⟩ | exact ⟨_, rfl, ⟨b, NN⟩, K2.trans (bel.mono (by omega))⟩
    obtain ⟨m, rfl⟩ : ∃ m : Nat, c = m := ⟨c.toNat, by omega⟩
    have hm : m < A.vers.length := by omega
    have hm' : (m : Int) < (A.vers.length : Int) := by omega
    have hm0 : (0 : Int) ≤ (m : Int) := by omega
    have hfin' := hfin (m : Int)
    rw [vrOf_nat A m hm] at hfin'
    clear hfin
    obtain ⟨bb2, off2, rfl, hbb2, R2⟩ := SliceAt.at I2.r (by omega)
    have R3 := rangeAt_elem (sz := 5) (fun _ => rfl) (rangeAt_below R2 (bel.mono (by omega)) hbb2) m hm
    have e0 : wr.cell? ⟨bb2, off2 + m * 5, none⟩ = some (.int .i64 A.vers[m].next) := R3 0 _ rfl
    clear R2 R3
    by_cases hnx : A.vers[m].next < 0
    · have hv := hfin' (Or.inr (Or.inl hnx)) rfl
      obtain ⟨b, N⟩ := own_new own
      clear own hs hfin'
      go_wp2
      go_ret
      have NN : NewList w.heap.size wr (.slice oa ds.length oc) (nodesL x y z u A now st).length 1 (cellsOf intC (nodesL x y z u A now st)) b := by rw [hv.out]; exact N.lo (by omega)
      first | exact ⟨_, b, rfl, NN, K2.trans (bel.mono (by omega))⟩ | exact ⟨_, rfl, ⟨b, NN⟩, K2.trans (bel.mono (by omega))⟩
    by_cases hfull : A.nodes.length ≤ ds.length
    · have hv := hfin' (Or.inr (Or.inr hfull)) rfl
      obtain ⟨b, N⟩ := own_new own
      clear own hs hfin'
      go_wp2
      go_ret
      have NN : NewList w.heap.size wr (.slice oa ds.length oc) (nodesL x y z u A now st).length 1 (cellsOf intC (nodesL x y z u A now st)) b := by rw [hv.out]; exact N.lo (by omega)
      first | exact ⟨_, b, rfl, NN, K2.trans (bel.mono (by omega))⟩ | exact ⟨_, rfl, ⟨b, NN⟩, K2.trans (bel.mono (by omega))⟩
    clear hfin'
    obtain ⟨k, hk, hkn⟩ := arenaB_next hq m hm (by omega)
    have hdk := arenaB_head hq k hkn
    have hlk := linkOf_in hq now st k hkn
    rw [hk] at e0 hnx
    have hs2 : Hid ((ds ++ [(k : Int)]) ++ nodesF A now st (A.nodes.length - (ds ++ [(k : Int)]).length) (linkOf A now st k) = nodesF A now st A.nodes.length (linkOf A now st 0)) := by
      have h1 := hs.out
      rw [show A.nodes.length - ds.length = (A.nodes.length - (ds ++ [(k : Int)]).length) + 1 by simp; omega, nodesF, vrOf_nat A m hm, hk, if_neg (by omega)] at h1
      rw [List.append_assoc]
      exact h1
    clear hs
    have own2 := own
    go_wp2_with (at_builtin; refine wpList_append_own _ rfl _ _ 24 rfl (w.heap.size + 2) 2 i0 (.int .i64 0) 1 8 Try.underlying24 hi hzr hsz hby rfl (by decide) _ _ _ rfl (own2.alloc _) ⟨wr.heap.size, 0, none⟩ 1 1 [.int .i64 (k : Int)] rfl rfl ?c1 ?c2 ?c3 ?c4 ?c5 ?_)
    try (case c1 => intro j u hj; rcases j with _ | j; (simp at hj; subst hj; simp [Addr.add]); simp at hj)
    try (case c2 => first | rfl | (intro u hu; simp at hu; subst hu; rfl))
    try (case c3 => unfold maxLen; omega)
    try (case c4 => omega)
    try (case c5 => first | omega | (simp; omega))
    intro v' w3 hown' hgrow _
    have b3 : Below (w.heap.size + 2) wr w3 := ((Below.refl _ wr).alloc (by omega) _).grown hgrow (by simp; omega) (fun j e => own_ge own e)
    replace hown' : w3.ownsRow (w.heap.size + 2) 2 1 v' (ds.length + 1) (cellsOf intC (ds ++ [(k : Int)])) := by rw [cellsOf_snoc]; exact hown'
    obtain ⟨va, vc, rfl⟩ := own_is hown'
    have bel3 := bel.trans b3
    obtain ⟨x0, x1, x2, x3, x4⟩ := row5 (rangeAt_below X2 bel3 (by omega))
    have hz3 := bel3.size
    clear own own2 hgrow
    go_wp2_with fail
    refine (l4Ver_any B A now st k _ _ _ _ _ _ _ _ _ (by omega) F hkn hdk.1 hdk.2 hA' (I2.below (bel3.mono (by omega)))).mono ?_
    rintro e w4 ⟨rfl, b4⟩
    have bel4 := bel3.trans (b4.mono (by omega))
    have O4 := own_below hown' b4 (fun j e => own_lt hown' e)
    clear hown' x0 x1 x2 x3 x4
    go_wp2
    go_roundw
    case rel => exact ⟨ds ++ [(k : Int)], _, by simpa using O4, rfl, hlk.1, hlk.2, by simp; omega, hs2, bel4⟩
    case measure => simp [lenV]; omega

def ordB : List Pr → Bool
  | a :: b :: l => decide (a.key < b.key) && ordB (b :: l)
  | _ => true
theorem ordB_iff : ∀ (l : List Pr), ordB l = true ↔ ∀ i (h : i + 1 < l.length), l[i].key < l[i + 1].key
  | [] => by simp [ordB]
  | [a] => by simp [ordB]
  | a :: b :: l => by
    have ih := ordB_iff (b :: l)
    simp only [ordB, Bool.and_eq_true, decide_eq_true_eq, ih]
    constructor
    · rintro ⟨h1, h2⟩ i hi
      cases i with
      | zero => exact h1
      | succ i => exact h2 i (by simpa using hi)
    · intro h
      exact ⟨h 0 (by simp), fun i hi => h (i + 1) (by simpa using hi)⟩
theorem ordB_no {l : List Pr} {i : Nat} (h : i + 1 < l.length) (hn : ¬ l[i].key < l[i + 1].key) : ordB l = false := by
  cases e : ordB l
  · rfl
  · exact absurd ((ordB_iff l).1 e i h) hn

set_option maxHeartbeats 1000000 in
theorem specInOrder_any (B : Nat) (v : Value) (l : List Pr) (w : World) (hB : B ≤ w.heap.size) (hl : l.length ≤ 1048576) (S : SliceAt B w v l.length (cellsOf prC l)) :
    Calls Try.prog 28 #[v] w fun e w' => e = .returned (.bool (ordB l)) ∧ Below w.heap.size w w' := by
  obtain ⟨a, cap, rfl, hS⟩ := S
  go_enter Try.func28, Try.ntmps28
  go_wp2
  go_loopw [3] (fun i wr => ∃ k : Nat, 1 ≤ k ∧ (k ≤ l.length ∨ k = 1) ∧ i = .int .i64 k ∧ Hid (∀ j (h : j + 1 < l.length), j + 1 < k → l[j].key < l[j + 1].key) ∧ Below w.heap.size w wr) (fun i _ => l.length - (intOf i).toNat)
  case atStart => exact ⟨1, Nat.le_refl _, Or.inr rfl, rfl, fun _ _ h => absurd h (by omega), Below.refl _ _⟩
  case round =>
    obtain ⟨k, hk1, hk, rfl, hall, bel⟩ := hrel
    by_cases hlt : k < l.length
    · rcases hS with h0 | ⟨bb, off, rfl, hbb, R0⟩
      · omega
      · obtain ⟨m, rfl⟩ : ∃ m, k = m + 1 := ⟨k - 1, by omega⟩
        have R := rangeAt_below R0 (bel.mono hB) hbb
        have f1 : wr.cell? ⟨bb, off + (m + 1) * 2, none⟩ = some (.int .i64 l[m + 1].key) := (rangeAt_elem (sz := 2) (fun _ => rfl) R (m + 1) hlt) 0 _ rfl
        have f0 : wr.cell? ⟨bb, off + m * 2, none⟩ = some (.int .i64 l[m].key) := (rangeAt_elem (sz := 2) (fun _ => rfl) R m (by omega)) 0 _ rfl
        clear R R0
        have hm : ((m + 1 : Nat) : Int) < (l.length : Int) := by omega
        have hm0 : (0 : Int) ≤ ((m + 1 : Nat) : Int) := by omega
        have hm1 : ((m + 1 : Nat) : Int) - 1 = (m : Int) := by omega
        have hm2 : (m : Int) < (l.length : Int) := by omega
        by_cases hq : l[m + 1].key ≤ l[m].key
        · have hv : ordB l = false := ordB_no hlt (by omega)
          go_wp2
          go_quiet (fail)
          go_wp2
          go_ret
          exact ⟨by rw [hv]; rfl, below_drewN bel _⟩
        · have hall' : Hid (∀ j (h : j + 1 < l.length), j + 1 < m + 1 + 1 → l[j].key < l[j + 1].key) := fun j h hj => by
            rcases Nat.lt_or_ge j m with h1 | h1
            · exact hall.out j h (by omega)
            · obtain rfl : j = m := by omega
              omega
          go_wp2
          go_quiet (fail)
          go_wp2
          go_roundw
          case rel => exact ⟨m + 1 + 1, by omega, Or.inl (by omega), by go_num, hall', below_drewN bel _⟩
          case measure => simp [intOf]; omega
    · have hv : ordB l = true := (ordB_iff l).2 (fun i h => hall.out i h (by omega))
      go_wp2
      go_ret
      exact ⟨by rw [hv]; rfl, bel⟩

set_option maxRecDepth 100000 in
set_option maxHeartbeats 1000000 in
theorem specNodesAt_any (B : Nat) (A : Ar) (x y z u : Int) (st : Int) (a0 a1 a2 a3 : Option Addr) (c0 c1 c2 c3 : Nat) (w : World) (hB : B ≤ w.heap.size) (hA : A.size ≤ 1048576) (I : ArenaIs B w (.slice a0 A.slots.length c0) (.slice a1 A.guides.length c1) (.slice a2 A.nodes.length c2) (.slice a3 A.vers.length c3) A) :
    Calls Try.prog 9 #[.agg #[.int .i64 x, .int .i64 y, .int .i64 z, .int .i64 u], .agg #[.int .i64 A.camera, .slice a0 A.slots.length c0, .slice a1 A.guides.length c1, .slice a2 A.nodes.length c2, .slice a3 A.vers.length c3], .int .i64 st] w fun e w' => ∃ v b, e = .returned v ∧ NewList w.heap.size w' v (nodesL x y z u A false st).length 1 (cellsOf intC (nodesL x y z u A false st)) b ∧ Below w.heap.size w w' := by
  have hA' := hA
  unfold Ar.size at hA
  have P0 := (planAt_alloc w x y z u 31).below ((Below.refl _ _).alloc (Nat.le_refl _) (.cells #[.int .i64 A.camera, .slice a0 A.slots.length c0, .slice a1 A.guides.length c1, .slice a2 A.nodes.length c2, .slice a3 A.vers.length c3] 36)) (by simp)
  have X0 : World.rangeAt ((w.alloc (.cells #[.int .i64 x, .int .i64 y, .int .i64 z, .int .i64 u] 31)).alloc (.cells #[.int .i64 A.camera, .slice a0 A.slots.length c0, .slice a1 A.guides.length c1, .slice a2 A.nodes.length c2, .slice a3 A.vers.length c3] 36)) (w.heap.size + 1) 0 [.int .i64 A.camera, .slice a0 A.slots.length c0, .slice a1 A.guides.length c1, .slice a2 A.nodes.length c2, .slice a3 A.vers.length c3] := by
    have h := rangeAt_new (w.alloc (.cells #[.int .i64 x, .int .i64 y, .int .i64 z, .int .i64 u] 31)) [.int .i64 A.camera, .slice a0 A.slots.length c0, .slice a1 A.guides.length c1, .slice a2 A.nodes.length c2, .slice a3 A.vers.length c3] 36
    simp only [World.size_alloc] at h
    exact h
  have K0 := ((Below.refl w.heap.size w).alloc (Nat.le_refl _) (.cells #[.int .i64 x, .int .i64 y, .int .i64 z, .int .i64 u] 31)).alloc (by simp) (.cells #[.int .i64 A.camera, .slice a0 A.slots.length c0, .slice a1 A.guides.length c1, .slice a2 A.nodes.length c2, .slice a3 A.vers.length c3] 36)
  have hz0 : w.heap.size + 1 < ((w.alloc (.cells #[.int .i64 x, .int .i64 y, .int .i64 z, .int .i64 u] 31)).alloc (.cells #[.int .i64 A.camera, .slice a0 A.slots.length c0, .slice a1 A.guides.length c1, .slice a2 A.nodes.length c2, .slice a3 A.vers.length c3] 36)).heap.size := by simp
  have I0 := I.below (K0.mono hB)
  have P0' := P0
  obtain ⟨p0, p1, p2, p3⟩ := P0'
  obtain ⟨x0, x1, x2, x3, x4⟩ := row5 X0
  go_enter Try.func9, Try.ntmps9
  go_wp2_with fail
  refine (l4Nodes_any B A x y z u false st _ _ _ _ _ _ _ _ _ (by omega) hA' I0).mono ?_
  rintro e w1 ⟨v, b, rfl, N, b1⟩
  have K1 := K0.trans (b1.mono (by omega))
  obtain ⟨va, vc, rfl⟩ : ∃ va vc, v = .slice va (nodesL x y z u A false st).length vc := by obtain ⟨a, cap, o, h, -⟩ := N; exact ⟨a, cap, h⟩
  have NN := N.lo (lo' := w.heap.size) (by omega)
  clear p0 p1 p2 p3 x0 x1 x2 x3 x4 N
  go_wp2
  go_ret
  first | exact ⟨_, b, rfl, NN, K1⟩ | exact ⟨_, rfl, ⟨b, NN⟩, K1⟩

set_option maxRecDepth 100000 in
set_option maxHeartbeats 1000000 in
theorem specNodesNow_any (B : Nat) (A : Ar) (x y z u : Int) (a0 a1 a2 a3 : Option Addr) (c0 c1 c2 c3 : Nat) (w : World) (hB : B ≤ w.heap.size) (hA : A.size ≤ 1048576) (I : ArenaIs B w (.slice a0 A.slots.length c0) (.slice a1 A.guides.length c1) (.slice a2 A.nodes.length c2) (.slice a3 A.vers.length c3) A) :
    Calls Try.prog 18 #[.agg #[.int .i64 x, .int .i64 y, .int .i64 z, .int .i64 u], .agg #[.int .i64 A.camera, .slice a0 A.slots.length c0, .slice a1 A.guides.length c1, .slice a2 A.nodes.length c2, .slice a3 A.vers.length c3]] w fun e w' => ∃ v b, e = .returned v ∧ NewList w.heap.size w' v (nodesL x y z u A true 0).length 1 (cellsOf intC (nodesL x y z u A true 0)) b ∧ Below w.heap.size w w' := by
  have hA' := hA
  unfold Ar.size at hA
  have P0 := (planAt_alloc w x y z u 31).below ((Below.refl _ _).alloc (Nat.le_refl _) (.cells #[.int .i64 A.camera, .slice a0 A.slots.length c0, .slice a1 A.guides.length c1, .slice a2 A.nodes.length c2, .slice a3 A.vers.length c3] 36)) (by simp)
  have X0 : World.rangeAt ((w.alloc (.cells #[.int .i64 x, .int .i64 y, .int .i64 z, .int .i64 u] 31)).alloc (.cells #[.int .i64 A.camera, .slice a0 A.slots.length c0, .slice a1 A.guides.length c1, .slice a2 A.nodes.length c2, .slice a3 A.vers.length c3] 36)) (w.heap.size + 1) 0 [.int .i64 A.camera, .slice a0 A.slots.length c0, .slice a1 A.guides.length c1, .slice a2 A.nodes.length c2, .slice a3 A.vers.length c3] := by
    have h := rangeAt_new (w.alloc (.cells #[.int .i64 x, .int .i64 y, .int .i64 z, .int .i64 u] 31)) [.int .i64 A.camera, .slice a0 A.slots.length c0, .slice a1 A.guides.length c1, .slice a2 A.nodes.length c2, .slice a3 A.vers.length c3] 36
    simp only [World.size_alloc] at h
    exact h
  have K0 := ((Below.refl w.heap.size w).alloc (Nat.le_refl _) (.cells #[.int .i64 x, .int .i64 y, .int .i64 z, .int .i64 u] 31)).alloc (by simp) (.cells #[.int .i64 A.camera, .slice a0 A.slots.length c0, .slice a1 A.guides.length c1, .slice a2 A.nodes.length c2, .slice a3 A.vers.length c3] 36)
  have hz0 : w.heap.size + 1 < ((w.alloc (.cells #[.int .i64 x, .int .i64 y, .int .i64 z, .int .i64 u] 31)).alloc (.cells #[.int .i64 A.camera, .slice a0 A.slots.length c0, .slice a1 A.guides.length c1, .slice a2 A.nodes.length c2, .slice a3 A.vers.length c3] 36)).heap.size := by simp
  have I0 := I.below (K0.mono hB)
  have P0' := P0
  obtain ⟨p0, p1, p2, p3⟩ := P0'
  obtain ⟨x0, x1, x2, x3, x4⟩ := row5 X0
  go_enter Try.func18, Try.ntmps18
  go_wp2_with fail
  refine (l4Nodes_any B A x y z u true 0 _ _ _ _ _ _ _ _ _ (by omega) hA' I0).mono ?_
  rintro e w1 ⟨v, b, rfl, N, b1⟩
  have K1 := K0.trans (b1.mono (by omega))
  obtain ⟨va, vc, rfl⟩ : ∃ va vc, v = .slice va (nodesL x y z u A true 0).length vc := by obtain ⟨a, cap, o, h, -⟩ := N; exact ⟨a, cap, h⟩
  have NN := N.lo (lo' := w.heap.size) (by omega)
  clear p0 p1 p2 p3 x0 x1 x2 x3 x4 N
  go_wp2
  go_ret
  first | exact ⟨_, b, rfl, NN, K1⟩ | exact ⟨_, rfl, ⟨b, NN⟩, K1⟩

/-- What a node shows in a view: its key and value, where it is not gone. -/
def pairOf (A : Ar) (now : Bool) (st n : Int) : Option Pr := if 0 ≤ linkOf A now st n ∧ (vrOf A (linkOf A now st n)).gone = false then some ⟨(ndOf A n).key, (ndOf A n).value⟩ else none
def pairsL (x y z u : Int) (A : Ar) (now : Bool) (st : Int) : List Pr := (nodesL x y z u A now st).filterMap (pairOf A now st)
theorem pairsL_length (x y z u : Int) (A : Ar) (now : Bool) (st : Int) : (pairsL x y z u A now st).length ≤ A.nodes.length :=
  Nat.le_trans (List.length_filterMap_le _ _) (nodesL_length x y z u A now st)
/-- What is no part of the list that has grown is as it was. -/
theorem grown_far {w2 w3 : World} {o : Obj} {row : Option Nat} (hg : (w2.alloc o).drew.grownBy w3 row) (q : Nat) (hq : q < w2.heap.size) (hne : some q ≠ row) : w3.heap[q]? = w2.heap[q]? :=
  (hg.block q (by show q < (w2.alloc o).heap.size; simp; omega) hne).trans (Below.heap_alloc _ _ _ hq)
/-- The two cells of a new element. -/
theorem new_elem2 (w : World) (u v : Value) (T : TypeId) : ∀ (j : Nat) (c : Value), [u, v][j]? = some c → (w.alloc (.cells #[u, v] T)).cell? (Addr.add ⟨w.heap.size, 0, none⟩ j) = some c := by
  intro j c hj
  match j, hj with
  | 0, hj => simp at hj; subst hj; simp [Addr.add]
  | 1, hj => simp at hj; subst hj; simp [Addr.add]
  | j + 2, hj => simp at hj
theorem nodesF_mem {x y z u : Int} {A : Ar} (h : arenaB x y z u A = true) (now : Bool) (st : Int) : ∀ (f : Nat) (v n : Int), v < (A.vers.length : Int) → n ∈ nodesF A now st f v → ∃ k : Nat, n = k ∧ k < A.nodes.length
  | 0, _, _, _, hm => by simp [nodesF] at hm
  | f + 1, v, n, hv, hm => by
    simp only [nodesF] at hm
    split at hm
    · cases hm
    · rename_i hc
      obtain ⟨m, rfl⟩ : ∃ m : Nat, v = m := ⟨v.toNat, by omega⟩
      have hlt : m < A.vers.length := by omega
      rw [vrOf_nat A m hlt] at hm hc
      obtain ⟨k, hk, hkn⟩ := arenaB_next h m hlt (by omega)
      rcases List.mem_cons.1 hm with e | e
      · exact ⟨k, by omega, hkn⟩
      · rw [hk] at e
        exact nodesF_mem h now st f _ n (linkOf_in h now st k hkn).2 e
theorem nodesL_mem {x y z u : Int} {A : Ar} {now : Bool} {st n : Int} (hm : n ∈ nodesL x y z u A now st) : arenaB x y z u A = true ∧ ∃ k : Nat, n = k ∧ k < A.nodes.length := by
  unfold nodesL at hm
  split at hm
  · rename_i h
    exact ⟨h, nodesF_mem h now st _ _ n (linkOf_in h now st 0 (arenaB_some h).1).2 hm⟩
  · cases hm

set_option maxRecDepth 100000 in
set_option maxHeartbeats 4000000 in
theorem l4Pairs_any (B : Nat) (A : Ar) (x y z u : Int) (now : Bool) (st : Int) (a0 a1 a2 a3 : Option Addr) (c0 c1 c2 c3 : Nat) (w : World) (hB : B ≤ w.heap.size) (hA : A.size ≤ 1048576) (I : ArenaIs B w (.slice a0 A.slots.length c0) (.slice a1 A.guides.length c1) (.slice a2 A.nodes.length c2) (.slice a3 A.vers.length c3) A) :
    Calls Try.prog 46 #[.agg #[.int .i64 x, .int .i64 y, .int .i64 z, .int .i64 u], .agg #[.int .i64 A.camera, .slice a0 A.slots.length c0, .slice a1 A.guides.length c1, .slice a2 A.nodes.length c2, .slice a3 A.vers.length c3], .bool now, .int .i64 st] w fun e w' => ∃ v b, e = .returned v ∧ NewList w.heap.size w' v (pairsL x y z u A now st).length 2 (cellsOf prC (pairsL x y z u A now st)) b ∧ Below w.heap.size w w' := by
  have hA' := hA
  have P0 := (planAt_alloc w x y z u 31).below ((Below.refl _ _).alloc (Nat.le_refl _) (.cells #[.int .i64 A.camera, .slice a0 A.slots.length c0, .slice a1 A.guides.length c1, .slice a2 A.nodes.length c2, .slice a3 A.vers.length c3] 36)) (by simp)
  have X0 : World.rangeAt ((w.alloc (.cells #[.int .i64 x, .int .i64 y, .int .i64 z, .int .i64 u] 31)).alloc (.cells #[.int .i64 A.camera, .slice a0 A.slots.length c0, .slice a1 A.guides.length c1, .slice a2 A.nodes.length c2, .slice a3 A.vers.length c3] 36)) (w.heap.size + 1) 0 [.int .i64 A.camera, .slice a0 A.slots.length c0, .slice a1 A.guides.length c1, .slice a2 A.nodes.length c2, .slice a3 A.vers.length c3] := by
    have h := rangeAt_new (w.alloc (.cells #[.int .i64 x, .int .i64 y, .int .i64 z, .int .i64 u] 31)) [.int .i64 A.camera, .slice a0 A.slots.length c0, .slice a1 A.guides.length c1, .slice a2 A.nodes.length c2, .slice a3 A.vers.length c3] 36
    simp only [World.size_alloc] at h
    exact h
  have K0 := ((Below.refl w.heap.size w).alloc (Nat.le_refl _) (.cells #[.int .i64 x, .int .i64 y, .int .i64 z, .int .i64 u] 31)).alloc (by simp) (.cells #[.int .i64 A.camera, .slice a0 A.slots.length c0, .slice a1 A.guides.length c1, .slice a2 A.nodes.length c2, .slice a3 A.vers.length c3] 36)
  have hz0 : w.heap.size + 1 < ((w.alloc (.cells #[.int .i64 x, .int .i64 y, .int .i64 z, .int .i64 u] 31)).alloc (.cells #[.int .i64 A.camera, .slice a0 A.slots.length c0, .slice a1 A.guides.length c1, .slice a2 A.nodes.length c2, .slice a3 A.vers.length c3] 36)).heap.size := by simp
  have I0 := I.below (K0.mono hB)
  have P0' := P0
  obtain ⟨p0, p1, p2, p3⟩ := P0'
  obtain ⟨x0, x1, x2, x3, x4⟩ := row5 X0
  have O0 := World.ownsRow_lit (base := w.heap.size + 2) (e := 74) (size := 2) ((w.alloc (.cells #[.int .i64 x, .int .i64 y, .int .i64 z, .int .i64 u] 31)).alloc (.cells #[.int .i64 A.camera, .slice a0 A.slots.length c0, .slice a1 A.guides.length c1, .slice a2 A.nodes.length c2, .slice a3 A.vers.length c3] 36)) #[] 0 (by simp) (by decide) (by simp)
  simp only [World.size_alloc] at O0
  have al := (Below.refl ((w.alloc (.cells #[.int .i64 x, .int .i64 y, .int .i64 z, .int .i64 u] 31)).alloc (.cells #[.int .i64 A.camera, .slice a0 A.slots.length c0, .slice a1 A.guides.length c1, .slice a2 A.nodes.length c2, .slice a3 A.vers.length c3] 36)).heap.size ((w.alloc (.cells #[.int .i64 x, .int .i64 y, .int .i64 z, .int .i64 u] 31)).alloc (.cells #[.int .i64 A.camera, .slice a0 A.slots.length c0, .slice a1 A.guides.length c1, .slice a2 A.nodes.length c2, .slice a3 A.vers.length c3] 36))).alloc (Nat.le_refl _) (.cells #[] 74)
  go_enter Try.func46, Try.ntmps46
  go_wp2_with fail
  have X0a := rangeAt_below X0 al hz0
  have K0a := K0.trans (al.mono (by omega))
  have I0a := I.below (K0a.mono hB)
  have hz0a := Nat.lt_of_lt_of_le hz0 al.size
  have hz0b : w.heap.size + 2 < (((w.alloc (.cells #[.int .i64 x, .int .i64 y, .int .i64 z, .int .i64 u] 31)).alloc (.cells #[.int .i64 A.camera, .slice a0 A.slots.length c0, .slice a1 A.guides.length c1, .slice a2 A.nodes.length c2, .slice a3 A.vers.length c3] 36)).alloc (.cells #[] 74)).heap.size := by simp
  clear P0 X0 K0 I0 al hz0 p0 p1 p2 p3 x0 x1 x2 x3 x4
  generalize hw0 : ((w.alloc (.cells #[.int .i64 x, .int .i64 y, .int .i64 z, .int .i64 u] 31)).alloc (.cells #[.int .i64 A.camera, .slice a0 A.slots.length c0, .slice a1 A.guides.length c1, .slice a2 A.nodes.length c2, .slice a3 A.vers.length c3] 36)).alloc (.cells #[] 74) = w0 at *
  clear hw0
  refine (l4Nodes_any B A x y z u now st _ _ _ _ _ _ _ _ _ (Nat.le_trans hB K0a.size) hA I0a).mono ?_
  rintro e w1 ⟨v, lb, rfl, N, b1⟩
  have X1 := rangeAt_below X0a b1 hz0a
  have K1 := K0a.trans (b1.mono (by omega))
  have I1 := I.below (K1.mono hB)
  have O1 := own_below O0 b1 (fun j e => by simp [Value.ownBlock] at e; omega)
  have hz1 := Nat.lt_of_lt_of_le hz0a b1.size
  have hz1b := Nat.lt_of_lt_of_le hz0b b1.size
  have hLn := nodesL_length x y z u A now st
  have hmem : ∀ n, n ∈ nodesL x y z u A now st → arenaB x y z u A = true ∧ ∃ k : Nat, n = k ∧ k < A.nodes.length := fun n h => nodesL_mem h
  have hP : Hid (pairsL x y z u A now st = (nodesL x y z u A now st).filterMap (pairOf A now st)) := rfl
  generalize nodesL x y z u A now st = L at *
  obtain ⟨la, lcap, loff, rfl, hN⟩ := N
  unfold Ar.size at hA
  clear X0a K0a I I0a b1 hz0a O0
  obtain ⟨i0, hi, hzr, hsz, hby⟩ := info_parts infoPair
  go_wp2
  go_loopw [9, 11] (fun o i wr => ∃ (k : Nat) (ds : List Pr), k ≤ L.length ∧ i = .int .i64 k ∧ wr.ownsRow (w.heap.size + 2) 74 2 o ds.length (cellsOf prC ds) ∧ Hid (ds = (L.take k).filterMap (pairOf A now st)) ∧ ds.length ≤ k ∧ (0 < L.length → ∀ j, o.ownBlock = some j → j ≠ lb) ∧ (L.length = 0 ∨ wr.rangeAt lb loff (cellsOf intC L)) ∧ Below (w.heap.size + 2) w1 wr) (fun _ i _ => L.length - (intOf i).toNat)
  case atStart => exact ⟨0, [], Nat.zero_le _, rfl, O1, rfl, Nat.le_refl _, fun hp j hj => by simp [Value.ownBlock] at hj; rcases hN with h | ⟨_, h, _⟩ <;> omega, by rcases hN with h | ⟨_, _, _, h, _⟩; exact Or.inl h; exact Or.inr h, Below.refl _ _⟩
  case round =>
    obtain ⟨k, ds, hk, rfl, own, hds, hdk, hob, hLr, bel⟩ := hrel
    obtain ⟨oa, oc, rfl⟩ := own_is own
    have hz := bel.size
    by_cases hlt : k < L.length
    · rcases hN with hN | ⟨rfl, hN1, hN2, -, -⟩
      · omega
      replace hLr : wr.rangeAt lb loff (cellsOf intC L) := by rcases hLr with h | h; omega; exact h
      replace hob : ∀ j, Value.ownBlock (.slice oa ds.length oc) = some j → j ≠ lb := hob (by omega)
      obtain ⟨hq, n, hn, hnn⟩ := hmem L[k] (List.getElem_mem hlt)
      have hc : wr.cell? ⟨lb, loff + k, none⟩ = some (.int .i64 n) := by
        have h := (rangeAt_elem (sz := 1) (f := intC) (fun _ => rfl) hLr k hlt) 0 _ rfl
        rw [Nat.mul_one, Nat.add_zero, hn] at h
        exact h
      have F := arenaB_falls hq
      have hd := arenaB_head hq n hnn
      have hl0 := linkOf_in hq now st n hnn
      have hsome := arenaB_some hq
      have hk0 : (0 : Int) ≤ (k : Int) := by omega
      have hk1 : (k : Int) < (L.length : Int) := by omega
      have hn0 : (0 : Int) ≤ (n : Int) := by omega
      have hn1 : (n : Int) < (A.nodes.length : Int) := by omega
      have htake : Hid ((L.take (k + 1)).filterMap (pairOf A now st) = ds ++ (pairOf A now st n).toList) := by
        show _ = _
        rw [List.take_succ_eq_append_getElem hlt, List.filterMap_append, ← hds.out, hn]
        cases h : pairOf A now st n <;> simp [h]
      clear hds hq hn hmem
      obtain ⟨x0, x1, x2, x3, x4⟩ := row5 (rangeAt_below X1 bel (by omega))
      have BB : Below wr.heap.size wr wr := Below.refl _ _
      go_wp2
      go_region_held3 (fun w' => w'.cell? ⟨w.heap.size + 1, 0, none⟩ = some (.int .i64 A.camera) ∧ w'.cell? ⟨w.heap.size + 1, 1, none⟩ = some (.slice a0 A.slots.length c0) ∧ w'.cell? ⟨w.heap.size + 1, 2, none⟩ = some (.slice a1 A.guides.length c1) ∧ w'.cell? ⟨w.heap.size + 1, 3, none⟩ = some (.slice a2 A.nodes.length c2) ∧ w'.cell? ⟨w.heap.size + 1, 4, none⟩ = some (.slice a3 A.vers.length c3) ∧ w'.cell? ⟨lb, loff + k, none⟩ = some (.int .i64 n)) (go_keep) ((go_at_call 52; refine (l4Ver_any B A now st n _ _ _ _ _ _ _ _ _ (by exact Nat.le_trans hB (Nat.le_trans K1.size bel.size)) F hnn hd.1 hd.2 hA' ?_).mono ?_; (first | exact I1.below ((bel.drew).mono (by omega)) | exact I1.below (bel.mono (by omega))); rintro e w2 ⟨rfl, b2⟩; have b2' : Below wr.heap.size wr w2 := (by exact ⟨b2.os, b2.tape, b2.output, b2.size, b2.block⟩); obtain ⟨y0, y1, y2, y3, y4⟩ := row5 (rangeAt_below X1 (bel.trans (b2'.mono (by omega))) (by omega)); have hc2 : w2.cell? ⟨lb, loff + k, none⟩ = some (.int .i64 n) := (b2'.cell (p := ⟨lb, loff + k, none⟩) (by show lb < wr.heap.size; omega)).trans hc))
      have bel2 : Below (w.heap.size + 2) w1 w2 := bel.trans (b2'.mono (by omega))
      have own2 := own_below own b2' (fun j e => own_lt own e)
      have hL2 := rangeAt_below hLr b2' (by omega)
      have hz2 := b2'.size
      have hpo : Hid (pairOf A now st n = if 0 ≤ linkOf A now st n ∧ (vrOf A (linkOf A now st n)).gone = false then some ⟨A.nodes[n].key, A.nodes[n].value⟩ else none) := by show _ = _; rw [pairOf, ndOf_nat A n hnn]
      clear own hLr b2 b2' bel x0 x1 x2 x3 x4 hc hz
      generalize linkOf A now st n = c at *
      by_cases hneg : c < 0
      · have hd2 : Hid (ds = (L.take (k + 1)).filterMap (pairOf A now st)) := by show _ = _; rw [htake.out, hpo.out, if_neg (by omega)]; simp
        clear htake hpo
        go_wp2
        go_roundw
        case rel => exact ⟨k + 1, ds, by omega, by go_num, own2, hd2, by omega, fun _ => hob, Or.inr hL2, bel2⟩
        case measure => simp [intOf]; omega
      obtain ⟨m, rfl⟩ : ∃ m : Nat, c = m := ⟨c.toNat, by omega⟩
      have hm : m < A.vers.length := by omega
      have hm' : (m : Int) < (A.vers.length : Int) := by omega
      have hm0 : (0 : Int) ≤ (m : Int) := by omega
      rw [vrOf_nat A m hm] at hpo
      obtain ⟨bb2, off2, rfl, hbb2, R2⟩ := SliceAt.at I1.r (by omega)
      have e1 : w2.cell? ⟨bb2, off2 + m * 5 + 1, none⟩ = some (.bool A.vers[m].gone) := (rangeAt_elem (sz := 5) (fun _ => rfl) (rangeAt_below R2 (bel2.mono (by omega)) hbb2) m hm) 1 _ rfl
      clear R2
      cases hg : A.vers[m].gone
      case true =>
        have hd2 : Hid (ds = (L.take (k + 1)).filterMap (pairOf A now st)) := by show _ = _; rw [htake.out, hpo.out, if_neg (by rw [hg]; simp)]; simp
        rw [hg] at e1
        clear htake hpo
        go_wp2
        go_roundw
        case rel => exact ⟨k + 1, ds, by omega, by go_num, own2, hd2, by omega, fun _ => hob, Or.inr hL2, bel2⟩
        case measure => simp [intOf]; omega
      have hd2 : Hid (ds ++ [⟨A.nodes[n].key, A.nodes[n].value⟩] = (L.take (k + 1)).filterMap (pairOf A now st)) := by show _ = _; rw [htake.out, hpo.out, if_pos ⟨by omega, hg⟩]; rfl
      rw [hg] at e1
      clear htake hpo hg
      obtain ⟨bb, off, rfl, hbb, R⟩ := SliceAt.at I1.n (by omega)
      have E := rangeAt_elem (sz := 3) (fun _ => rfl) (rangeAt_below R (bel2.mono (by omega)) hbb) n hnn
      have g0 : w2.cell? ⟨bb, off + n * 3, none⟩ = some (.int .i64 A.nodes[n].key) := E 0 _ rfl
      have g1 : w2.cell? ⟨bb, off + n * 3 + 1, none⟩ = some (.int .i64 A.nodes[n].value) := E 1 _ rfl
      clear R E
      have hx3 := y3
      have hz3 := bel2.size
      have h3z : w.heap.size + 1 < w2.heap.size := by omega
      have h3n : some (w.heap.size + 1) ≠ Value.ownBlock (.slice oa ds.length oc) := fun e => by have := own_ge own2 e.symm; omega
      have hlz : lb < w2.heap.size := by omega
      have hln : some lb ≠ Value.ownBlock (.slice oa ds.length oc) := fun e => hob lb e.symm rfl
      have hbz : bb < w2.heap.size := by have := K1.size; omega
      have hbn : some bb ≠ Value.ownBlock (.slice oa ds.length oc) := fun e => by have := own_ge own2 e.symm; omega
      go_wp2
      go_region_held3 (fun w' => w'.cell? ⟨w.heap.size + 1, 3, none⟩ = some (.slice (some ⟨bb, off, none⟩) A.nodes.length c2) ∧ w'.cell? ⟨lb, loff + k, none⟩ = some (.int .i64 n) ∧ w'.cell? ⟨bb, off + n * 3, none⟩ = some (.int .i64 A.nodes[n].key) ∧ w'.cell? ⟨bb, off + n * 3 + 1, none⟩ = some (.int .i64 A.nodes[n].value)) (go_keep) ((refine step_append_lies _ rfl (.tmp 44) (.tmp 64) 45 rfl (w.heap.size + 2) 74 i0 (.agg #[.int .i64 0, .int .i64 0]) 2 16 Try.underlying45 hi hzr hsz hby rfl (by decide) (.slice oa ds.length oc) ds.length (cellsOf prC ds) rfl (by exact own2.alloc _) ⟨w2.heap.size, 0, none⟩ 1 1 (prC ⟨A.nodes[n].key, A.nodes[n].value⟩) rfl rfl ?c1 ?c2 (by decide) ?c3 ?c4 ?c5 _ rfl ?_; (case c1 => exact new_elem2 w2 _ _ _); (case c2 => exact onePair _); (case c3 => unfold maxLen; omega); (case c4 => omega); (case c5 => show w.heap.size + 2 ≤ (w2.alloc _).heap.size; simp; omega); intro g cap w3 hown3 hgrow3 hat3 hlt3; have G3 : ∀ q, q < w2.heap.size → some q ≠ Value.ownBlock (.slice oa ds.length oc) → w3.heap[q]? = w2.heap[q]? := (by intro q h1 h2; exact grown_far hgrow3 q h1 h2); have z3 : w3.cell? ⟨w.heap.size + 1, 3, none⟩ = some (.slice (some ⟨bb, off, none⟩) A.nodes.length c2) := (World.cell?_of_block (w := w2) (G3 _ h3z h3n)).trans hx3; have zl : w3.cell? ⟨lb, loff + k, none⟩ = some (.int .i64 n) := (World.cell?_of_block (w := w2) (G3 _ hlz hln)).trans hc2; have z0 : w3.cell? ⟨bb, off + n * 3, none⟩ = some (.int .i64 A.nodes[n].key) := (World.cell?_of_block (w := w2) (G3 _ hbz hbn)).trans g0; have z1 : w3.cell? ⟨bb, off + n * 3 + 1, none⟩ = some (.int .i64 A.nodes[n].value) := (World.cell?_of_block (w := w2) (G3 _ hbz hbn)).trans g1))
      have b3 : Below (w.heap.size + 2) w2 w3 := ⟨hgrow3.os, hgrow3.tape, hgrow3.output, Nat.le_trans (by show w2.heap.size ≤ (w2.alloc _).heap.size; simp) hgrow3.size, fun q h1 => G3 q (by omega) (fun e => by have := own_ge own2 e.symm; omega)⟩
      have L3 : w3.rangeAt lb loff (cellsOf intC L) := fun j u hj => (World.cell?_of_block (w := w2) (a := ⟨lb, loff + j, none⟩) (G3 lb hlz hln)).trans (hL2 j u hj)
      have hob3 : ∀ j, Value.ownBlock (.slice (some ⟨g, 0, none⟩) (ds.length + 1) cap) = some j → j ≠ lb := by
        intro j hj
        simp only [Value.ownBlock] at hj
        cases hj
        rcases hat3 with h | h
        · exact hob g h
        · have : (w2.alloc (.cells #[.int .i64 A.nodes[n].key, .int .i64 A.nodes[n].value] 74)).heap.size = w2.heap.size + 1 := by simp
          have h' : g = w2.heap.size + 1 := h.trans this
          omega
      replace hown3 : w3.ownsRow (w.heap.size + 2) 74 2 (.slice (some ⟨g, 0, none⟩) (ds.length + 1) cap) (ds ++ [(⟨A.nodes[n].key, A.nodes[n].value⟩ : Pr)]).length (cellsOf prC (ds ++ [⟨A.nodes[n].key, A.nodes[n].value⟩])) := by rw [cellsOf_snoc, List.length_append]; exact hown3
      clear own2 hgrow3 hat3 G3
      go_wp2
      go_roundw
      case rel => exact ⟨k + 1, _, by omega, by go_num, hown3, hd2, by simp; omega, fun _ => hob3, Or.inr L3, bel2.trans b3⟩
      case measure => simp [intOf]; omega
    · obtain rfl : k = L.length := by omega
      have hv : Hid (pairsL x y z u A now st = ds) := by show _ = _; rw [hP.out, hds.out, List.take_length]
      obtain ⟨b, N⟩ := own_new own
      clear own hds hP
      go_wp2
      go_ret
      have NN : NewList w.heap.size wr (.slice oa ds.length oc) (pairsL x y z u A now st).length 2 (cellsOf prC (pairsL x y z u A now st)) b := by rw [hv.out]; exact N.lo (by omega)
      first | exact ⟨_, b, rfl, NN, K1.trans (bel.mono (by omega))⟩ | exact ⟨_, rfl, ⟨b, NN⟩, K1.trans (bel.mono (by omega))⟩

set_option maxRecDepth 100000 in
set_option maxHeartbeats 1000000 in
theorem specPairsAt_any (B : Nat) (A : Ar) (x y z u : Int) (st : Int) (a0 a1 a2 a3 : Option Addr) (c0 c1 c2 c3 : Nat) (w : World) (hB : B ≤ w.heap.size) (hA : A.size ≤ 1048576) (I : ArenaIs B w (.slice a0 A.slots.length c0) (.slice a1 A.guides.length c1) (.slice a2 A.nodes.length c2) (.slice a3 A.vers.length c3) A) :
    Calls Try.prog 20 #[.agg #[.int .i64 x, .int .i64 y, .int .i64 z, .int .i64 u], .agg #[.int .i64 A.camera, .slice a0 A.slots.length c0, .slice a1 A.guides.length c1, .slice a2 A.nodes.length c2, .slice a3 A.vers.length c3], .int .i64 st] w fun e w' => ∃ v b, e = .returned v ∧ NewList w.heap.size w' v (pairsL x y z u A false st).length 2 (cellsOf prC (pairsL x y z u A false st)) b ∧ Below w.heap.size w w' := by
  have hA' := hA
  unfold Ar.size at hA
  have P0 := (planAt_alloc w x y z u 31).below ((Below.refl _ _).alloc (Nat.le_refl _) (.cells #[.int .i64 A.camera, .slice a0 A.slots.length c0, .slice a1 A.guides.length c1, .slice a2 A.nodes.length c2, .slice a3 A.vers.length c3] 36)) (by simp)
  have X0 : World.rangeAt ((w.alloc (.cells #[.int .i64 x, .int .i64 y, .int .i64 z, .int .i64 u] 31)).alloc (.cells #[.int .i64 A.camera, .slice a0 A.slots.length c0, .slice a1 A.guides.length c1, .slice a2 A.nodes.length c2, .slice a3 A.vers.length c3] 36)) (w.heap.size + 1) 0 [.int .i64 A.camera, .slice a0 A.slots.length c0, .slice a1 A.guides.length c1, .slice a2 A.nodes.length c2, .slice a3 A.vers.length c3] := by
    have h := rangeAt_new (w.alloc (.cells #[.int .i64 x, .int .i64 y, .int .i64 z, .int .i64 u] 31)) [.int .i64 A.camera, .slice a0 A.slots.length c0, .slice a1 A.guides.length c1, .slice a2 A.nodes.length c2, .slice a3 A.vers.length c3] 36
    simp only [World.size_alloc] at h
    exact h
  have K0 := ((Below.refl w.heap.size w).alloc (Nat.le_refl _) (.cells #[.int .i64 x, .int .i64 y, .int .i64 z, .int .i64 u] 31)).alloc (by simp) (.cells #[.int .i64 A.camera, .slice a0 A.slots.length c0, .slice a1 A.guides.length c1, .slice a2 A.nodes.length c2, .slice a3 A.vers.length c3] 36)
  have hz0 : w.heap.size + 1 < ((w.alloc (.cells #[.int .i64 x, .int .i64 y, .int .i64 z, .int .i64 u] 31)).alloc (.cells #[.int .i64 A.camera, .slice a0 A.slots.length c0, .slice a1 A.guides.length c1, .slice a2 A.nodes.length c2, .slice a3 A.vers.length c3] 36)).heap.size := by simp
  have I0 := I.below (K0.mono hB)
  have P0' := P0
  obtain ⟨p0, p1, p2, p3⟩ := P0'
  obtain ⟨x0, x1, x2, x3, x4⟩ := row5 X0
  go_enter Try.func20, Try.ntmps20
  go_wp2_with fail
  refine (l4Pairs_any B A x y z u false st _ _ _ _ _ _ _ _ _ (by omega) hA' I0).mono ?_
  rintro e w1 ⟨v, b, rfl, N, b1⟩
  have K1 := K0.trans (b1.mono (by omega))
  obtain ⟨va, vc, rfl⟩ : ∃ va vc, v = .slice va (pairsL x y z u A false st).length vc := by obtain ⟨a, cap, o, h, -⟩ := N; exact ⟨a, cap, h⟩
  have NN := N.lo (lo' := w.heap.size) (by omega)
  clear p0 p1 p2 p3 x0 x1 x2 x3 x4 N
  go_wp2
  go_ret
  first | exact ⟨_, b, rfl, NN, K1⟩ | exact ⟨_, rfl, ⟨b, NN⟩, K1⟩

set_option maxRecDepth 100000 in
set_option maxHeartbeats 1000000 in
theorem specPairsNow_any (B : Nat) (A : Ar) (x y z u : Int) (a0 a1 a2 a3 : Option Addr) (c0 c1 c2 c3 : Nat) (w : World) (hB : B ≤ w.heap.size) (hA : A.size ≤ 1048576) (I : ArenaIs B w (.slice a0 A.slots.length c0) (.slice a1 A.guides.length c1) (.slice a2 A.nodes.length c2) (.slice a3 A.vers.length c3) A) :
    Calls Try.prog 25 #[.agg #[.int .i64 x, .int .i64 y, .int .i64 z, .int .i64 u], .agg #[.int .i64 A.camera, .slice a0 A.slots.length c0, .slice a1 A.guides.length c1, .slice a2 A.nodes.length c2, .slice a3 A.vers.length c3]] w fun e w' => ∃ v b, e = .returned v ∧ NewList w.heap.size w' v (pairsL x y z u A true 0).length 2 (cellsOf prC (pairsL x y z u A true 0)) b ∧ Below w.heap.size w w' := by
  have hA' := hA
  unfold Ar.size at hA
  have P0 := (planAt_alloc w x y z u 31).below ((Below.refl _ _).alloc (Nat.le_refl _) (.cells #[.int .i64 A.camera, .slice a0 A.slots.length c0, .slice a1 A.guides.length c1, .slice a2 A.nodes.length c2, .slice a3 A.vers.length c3] 36)) (by simp)
  have X0 : World.rangeAt ((w.alloc (.cells #[.int .i64 x, .int .i64 y, .int .i64 z, .int .i64 u] 31)).alloc (.cells #[.int .i64 A.camera, .slice a0 A.slots.length c0, .slice a1 A.guides.length c1, .slice a2 A.nodes.length c2, .slice a3 A.vers.length c3] 36)) (w.heap.size + 1) 0 [.int .i64 A.camera, .slice a0 A.slots.length c0, .slice a1 A.guides.length c1, .slice a2 A.nodes.length c2, .slice a3 A.vers.length c3] := by
    have h := rangeAt_new (w.alloc (.cells #[.int .i64 x, .int .i64 y, .int .i64 z, .int .i64 u] 31)) [.int .i64 A.camera, .slice a0 A.slots.length c0, .slice a1 A.guides.length c1, .slice a2 A.nodes.length c2, .slice a3 A.vers.length c3] 36
    simp only [World.size_alloc] at h
    exact h
  have K0 := ((Below.refl w.heap.size w).alloc (Nat.le_refl _) (.cells #[.int .i64 x, .int .i64 y, .int .i64 z, .int .i64 u] 31)).alloc (by simp) (.cells #[.int .i64 A.camera, .slice a0 A.slots.length c0, .slice a1 A.guides.length c1, .slice a2 A.nodes.length c2, .slice a3 A.vers.length c3] 36)
  have hz0 : w.heap.size + 1 < ((w.alloc (.cells #[.int .i64 x, .int .i64 y, .int .i64 z, .int .i64 u] 31)).alloc (.cells #[.int .i64 A.camera, .slice a0 A.slots.length c0, .slice a1 A.guides.length c1, .slice a2 A.nodes.length c2, .slice a3 A.vers.length c3] 36)).heap.size := by simp
  have I0 := I.below (K0.mono hB)
  have P0' := P0
  obtain ⟨p0, p1, p2, p3⟩ := P0'
  obtain ⟨x0, x1, x2, x3, x4⟩ := row5 X0
  go_enter Try.func25, Try.ntmps25
  go_wp2_with fail
  refine (l4Pairs_any B A x y z u true 0 _ _ _ _ _ _ _ _ _ (by omega) hA' I0).mono ?_
  rintro e w1 ⟨v, b, rfl, N, b1⟩
  have K1 := K0.trans (b1.mono (by omega))
  obtain ⟨va, vc, rfl⟩ : ∃ va vc, v = .slice va (pairsL x y z u A true 0).length vc := by obtain ⟨a, cap, o, h, -⟩ := N; exact ⟨a, cap, h⟩
  have NN := N.lo (lo' := w.heap.size) (by omega)
  clear p0 p1 p2 p3 x0 x1 x2 x3 x4 N
  go_wp2
  go_ret
  first | exact ⟨_, b, rfl, NN, K1⟩ | exact ⟨_, rfl, ⟨b, NN⟩, K1⟩

end Go.Proofs.Ytnmnjkjkhbcdfaa
