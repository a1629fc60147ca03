/-
  What the law's proof goes by, part 5.
-/
import Derived.Deep.Cut
import Derived.Test.YtlfjhcdjgoeafaaDoorRows
import Derived.WalkKit
import Derived.ProofKit
import Derived.Below
import Derived.Deep.MidRow
import Derived.LaidEql
import Derived.Stop.Asserts
import Derived.RowKitTokens
import Derived.LaidLaws
import Derived.LaidHandle
import Derived.Deep.OwnRows
import Derived.Laws.CopyOwn
import Derived.Laws.IdiomCopy
import Derived.Laws.MakeOwn
import Derived.Test.YtlfjhcdjgoeafaaDoorStartFor00
import Derived.Test.YtlfjhcdjgoeafaaDoorStartFor01
import Derived.Test.YtlfjhcdjgoeafaaDoorStartFor03
namespace Go.Proofs.YtlfjhcdjgoeafaaDoor
open Go.ChangeShapes Go.WideShapes Go.ChangeAt Go.RowKit
set_option linter.unusedVariables false
set_option linter.unusedSimpArgs false
set_option linter.unnecessarySimpa false
set_option linter.unusedSectionVars false
section
attribute [local go_sem ↓] Go.wp_at_zero Go.wp_at_succ
theorem arenaB_guides {x y z u : Int} {A : Ar} (h : arenaB x y z u A = true) : (A.guides.length : Int) = u ∧ ∀ g (hg : g < A.guides.length), 0 ≤ A.guides[g] ∧ A.guides[g] < (A.nodes.length : Int) := by
 have h1 := (arenaB_parts h).1
 have h2 := (arenaB_parts h).2.2.1
 simp only [headB, Bool.and_eq_true, beq_iff_eq] at h1
 refine ⟨h1.1.1.2, fun g hg => ?_⟩
 have := (allIdx_iff _ _).1 h2 g hg
 simp only [inB_iff] at this
 omega
def startI (x y z u : Int) (A : Ar) (key : Int) : Int :=
 if 0 ≤ guideI x y z u key ∧ (ndOf A (A.guides.getD (guideI x y z u key).toNat 0)).key < key then A.guides.getD (guideI x y z u key).toNat 0 else 0
theorem guideI_lt (x y z u k : Int) (h : 0 ≤ guideI x y z u k) : guideI x y z u k < u := by
 unfold guideI at h ⊢
 split at h
 ·rename_i hh
  rw [if_pos hh]
  simp only [Bool.and_eq_true] at hh
  have hp := (planB_iff x y z u).1 hh.1
  have hk := (inB_iff _ _ _).1 hh.2
  have : k * u / 64 ≤ u := by
   apply Int.ediv_le_of_le_mul (by omega)
   have : k * u ≤ 64 * u := Int.mul_le_mul_of_nonneg_right (by omega) (by omega)
   omega
  omega
 ·omega
set_option maxRecDepth 100000 in
set_option maxHeartbeats 4000000 in
theorem l9Start_any (B : Nat) (A : Ar) (x y z u key : Int) (a0 a1 a2 a3 : Option Addr) (c0 c1 c2 c3 : Nat) (w : World) (hB : B ≤ w.heap.size) (hA : A.size ≤ 1048576) (I : ArenaIs B w (.slice a0 A.slots.length c0) (.slice a1 A.guides.length c1) (.slice a2 A.nodes.length c2) (.slice a3 A.vers.length c3) A) (hOk : arenaB x y z u A = true) :
  Calls Tryd.prog 40 #[.agg #[.int .i64 x, .int .i64 y, .int .i64 z, .int .i64 u], .agg #[.int .i64 A.camera, .slice a0 A.slots.length c0, .slice a1 A.guides.length c1, .slice a2 A.nodes.length c2, .slice a3 A.vers.length c3], .int .i64 key] w fun e w' => e = .returned (.int .i64 (startI x y z u A key)) ∧ Below w.heap.size w w' := by
 unfold Ar.size at hA
 have P0 := (planAt_alloc w x y z u 36).below ((Below.refl _ _).alloc (Nat.le_refl _) (.cells #[.int .i64 A.camera, .slice a0 A.slots.length c0, .slice a1 A.guides.length c1, .slice a2 A.nodes.length c2, .slice a3 A.vers.length c3] 33)) (by simp)
 have X0 : World.rangeAt ((w.alloc (.cells #[.int .i64 x, .int .i64 y, .int .i64 z, .int .i64 u] 36)).alloc (.cells #[.int .i64 A.camera, .slice a0 A.slots.length c0, .slice a1 A.guides.length c1, .slice a2 A.nodes.length c2, .slice a3 A.vers.length c3] 33)) (w.heap.size + 1) 0 [.int .i64 A.camera, .slice a0 A.slots.length c0, .slice a1 A.guides.length c1, .slice a2 A.nodes.length c2, .slice a3 A.vers.length c3] := by
  have h := rangeAt_new (w.alloc (.cells #[.int .i64 x, .int .i64 y, .int .i64 z, .int .i64 u] 36)) [.int .i64 A.camera, .slice a0 A.slots.length c0, .slice a1 A.guides.length c1, .slice a2 A.nodes.length c2, .slice a3 A.vers.length c3] 33
  simp only [World.size_alloc] at h
  exact h
 have K0 := ((Below.refl w.heap.size w).alloc (Nat.le_refl _) (.cells #[.int .i64 x, .int .i64 y, .int .i64 z, .int .i64 u] 36)).alloc (by simp) (.cells #[.int .i64 A.camera, .slice a0 A.slots.length c0, .slice a1 A.guides.length c1, .slice a2 A.nodes.length c2, .slice a3 A.vers.length c3] 33)
 have hz0 : w.heap.size + 1 < ((w.alloc (.cells #[.int .i64 x, .int .i64 y, .int .i64 z, .int .i64 u] 36)).alloc (.cells #[.int .i64 A.camera, .slice a0 A.slots.length c0, .slice a1 A.guides.length c1, .slice a2 A.nodes.length c2, .slice a3 A.vers.length c3] 33)).heap.size := by simp
 obtain ⟨p0, p1, p2, p3⟩ := P0
 go_enter Tryd.func40, Tryd.ntmps40
 go_wp2_with fail
 refine (specGuideOf_any x y z u key _).mono ?_
 rintro e w1 ⟨rfl, b1⟩
 have X1 := rangeAt_below X0 b1 hz0
 have K1 := K0.trans (b1.mono (by omega))
 have I1 := I.below (K1.mono hB)
 clear p0 p1 p2 p3 X0 K0 b1 I
 obtain ⟨x0, x1, x2, x3, x4⟩ := row5 X1
 by_cases hg0 : 0 ≤ guideI x y z u key
 case neg =>
  have hv : Hid (startI x y z u A key = 0) := by show _ = _; simp [startI, hg0]
  go_wp2_with fail
  have hg2 : ¬ (0 ≤ guideI x y z u key) := by omega
  go_quiet (fail)
  go_wp2
  go_ret
  exact ⟨by rw [hv.out]; rfl, ⟨K1.os, K1.tape, K1.output, K1.size, K1.block⟩⟩
 have hgu := guideI_lt x y z u key hg0
 obtain ⟨hgl, hgs⟩ := arenaB_guides hOk
 obtain ⟨g, hg⟩ : ∃ g : Nat, guideI x y z u key = g := ⟨(guideI x y z u key).toNat, by omega⟩
 have hgn : g < A.guides.length := by omega
 have hgn' : (g : Int) < (A.guides.length : Int) := by omega
 have hgn0 : (0 : Int) ≤ (g : Int) := by omega
 obtain ⟨m0, m1⟩ := hgs g hgn
 obtain ⟨m, hm⟩ : ∃ m : Nat, A.guides[g] = m := ⟨A.guides[g].toNat, by omega⟩
 have hml : m < A.nodes.length := by omega
 have hml' : (m : Int) < (A.nodes.length : Int) := by omega
 have hml0 : (0 : Int) ≤ (m : Int) := by omega
 have hgd : A.guides.getD (guideI x y z u key).toNat 0 = (m : Int) := by rw [hg, Int.toNat_natCast, List.getD_eq_getElem?_getD, List.getElem?_eq_getElem hgn, Option.getD_some, hm]
 obtain ⟨bg, og, rfl, hbg, RG⟩ := SliceAt.at I1.g (by omega)
 obtain ⟨bn, on, rfl, hbn, RN⟩ := SliceAt.at I1.n (by omega)
 have n0 : w1.cell? ⟨bn, on + m * 3, none⟩ = some (.int .i64 A.nodes[m].key) := by simpa using (rangeAt_elem (sz := 3) (fun _ => rfl) RN m hml) 0 _ rfl
 have g0 : w1.cell? ⟨bg, og + g, none⟩ = some (.int .i64 m) := by have := (rangeAt_elem (sz := 1) (fun _ => rfl) RG g hgn) 0 (.int .i64 A.guides[g]) rfl; rw [hm] at this; simpa using this
 have hnd : ndOf A (m : Int) = A.nodes[m] := ndOf_nat A m hml
 have hvv : Hid (startI x y z u A key = if A.nodes[m].key < key then (m : Int) else 0) := by
  show _ = _
  unfold startI
  rw [hgd, hnd]
  by_cases hc : A.nodes[m].key < key
  ·rw [if_pos ⟨hg0, hc⟩, if_pos hc]
  ·rw [if_neg (fun h => hc h.2), if_neg hc]
 rw [hg]
 clear RG RN hgd hg0 hgu hgl hgs hm hg
 by_cases hc : A.nodes[m].key < key
 ·have hv : Hid (startI x y z u A key = (m : Int)) := by show _ = _; rw [hvv.out, if_pos hc]
  go_wp2_with fail
  go_quiet (fail)
  go_wp2
  go_ret
  exact ⟨by rw [hv.out]; rfl, ⟨K1.os, K1.tape, K1.output, K1.size, K1.block⟩⟩
 ·have hv : Hid (startI x y z u A key = 0) := by show _ = _; rw [hvv.out, if_neg hc]
  go_wp2_with fail
  go_quiet (fail)
  go_wp2
  go_ret
  exact ⟨by rw [hv.out]; rfl, ⟨K1.os, K1.tape, K1.output, K1.size, K1.block⟩⟩
end
section
attribute [local go_sem ↓] Go.wp_at_zero Go.wp_at_succ
def startForI (x y z u : Int) (A : Ar) (key : Int) : Int := if arenaB x y z u A = true ∧ inB key 0 63 = true then startI x y z u A key else -1
set_option maxRecDepth 100000 in
set_option maxHeartbeats 4000000 in
theorem specStartFor_any (B : Nat) (A : Ar) (x y z u key : Int) (a0 a1 a2 a3 : Option Addr) (c0 c1 c2 c3 : Nat) (w : World) (hB : B ≤ w.heap.size) (hA : A.size ≤ 1048576) (I : ArenaIs B w (.slice a0 A.slots.length c0) (.slice a1 A.guides.length c1) (.slice a2 A.nodes.length c2) (.slice a3 A.vers.length c3) A) :
  Calls Tryd.prog 13 #[.agg #[.int .i64 x, .int .i64 y, .int .i64 z, .int .i64 u], .agg #[.int .i64 A.camera, .slice a0 A.slots.length c0, .slice a1 A.guides.length c1, .slice a2 A.nodes.length c2, .slice a3 A.vers.length c3], .int .i64 key] w fun e w' => e = .returned (.int .i64 (startForI x y z u A key)) ∧ Below w.heap.size w w' := by
 have hA' := hA
 unfold Ar.size at hA
 have P0 := World.rangeAt_alloc (rangeAt_new w [.int .i64 x, .int .i64 y, .int .i64 z, .int .i64 u] 36) (.cells #[.int .i64 A.camera, .slice a0 A.slots.length c0, .slice a1 A.guides.length c1, .slice a2 A.nodes.length c2, .slice a3 A.vers.length c3] 33)
 have X0 := rangeAt_new (w.alloc (.cells #[.int .i64 x, .int .i64 y, .int .i64 z, .int .i64 u] 36)) [.int .i64 A.camera, .slice a0 A.slots.length c0, .slice a1 A.guides.length c1, .slice a2 A.nodes.length c2, .slice a3 A.vers.length c3] 33
 have K0 := ((Below.refl w.heap.size w).alloc (Nat.le_refl _) (.cells #[.int .i64 x, .int .i64 y, .int .i64 z, .int .i64 u] 36)).alloc (by simp) (.cells #[.int .i64 A.camera, .slice a0 A.slots.length c0, .slice a1 A.guides.length c1, .slice a2 A.nodes.length c2, .slice a3 A.vers.length c3] 33)
 have hz0 : w.heap.size + 1 < ((w.alloc (.cells #[.int .i64 x, .int .i64 y, .int .i64 z, .int .i64 u] 36)).alloc (.cells #[.int .i64 A.camera, .slice a0 A.slots.length c0, .slice a1 A.guides.length c1, .slice a2 A.nodes.length c2, .slice a3 A.vers.length c3] 33)).heap.size := by simp
 simp only [World.size_alloc] at X0
 have I0 := I.below (K0.mono hB)
 go_enter Tryd.func13, Tryd.ntmps13
 go_upto_region 1 with fail
 generalize hw0 : (w.alloc (.cells #[.int .i64 x, .int .i64 y, .int .i64 z, .int .i64 u] 36)).alloc (.cells #[.int .i64 A.camera, .slice a0 A.slots.length c0, .slice a1 A.guides.length c1, .slice a2 A.nodes.length c2, .slice a3 A.vers.length c3] 33) = w0 at *
 clear hw0 I
 have hB0 : B ≤ w0.heap.size := Nat.le_trans hB K0.size
 obtain ⟨x0, x1, x2, x3, x4⟩ := row5 X0
 obtain ⟨y0, y1, y2, y3⟩ : w0.cell? ⟨w.heap.size, 0, none⟩ = some (.int .i64 x) ∧ w0.cell? ⟨w.heap.size, 1, none⟩ = some (.int .i64 y) ∧ w0.cell? ⟨w.heap.size, 2, none⟩ = some (.int .i64 z) ∧ w0.cell? ⟨w.heap.size, 3, none⟩ = some (.int .i64 u) := ⟨by simpa using P0 0 _ rfl, by simpa using P0 1 _ rfl, by simpa using P0 2 _ rfl, by simpa using P0 3 _ rfl⟩
 go_wp2_with fail
 refine (specArenaOk_any B A x y z u a0 a1 a2 a3 c0 c1 c2 c3 w0 hB0 hA' I0).mono ?_
 rintro e w1 ⟨rfl, b0⟩
 have P1 := rangeAt_below P0 b0 (by omega)
 have X1 := rangeAt_below X0 b0 (by omega)
 have K1 := K0.trans (b0.mono (by omega))
 have I1 := I0.below (b0.mono hB0)
 have hz1 := Nat.lt_of_lt_of_le hz0 b0.size
 have hB1 := Nat.le_trans hB0 b0.size
 clear P0 X0 K0 I0 hz0 hB0 b0 x0 x1 x2 x3 x4 y0 y1 y2 y3
 cases ef : arenaB x y z u A
 case false =>
  have hb : Hid (startForI x y z u A key = -1) := by show _ = _; simp [startForI, ef]
  go_wp2_with fail
  go_ret
  exact ⟨by rw [hb.out]; rfl, K1⟩
 have hOk : Hid (arenaB x y z u A = true) := ef
 clear ef
 cases ek : inB key 0 63
 case false =>
  have hb : Hid (startForI x y z u A key = -1) := by show _ = _; simp [startForI, ek]
  go_wp2_with (go_at_call 39; refine (specKeyOk_any _ _).mono ?_; rintro e w' ⟨rfl, hw⟩; obtain rfl := hw.symm; rw [ek])
  go_ret
  exact ⟨by rw [hb.out]; rfl, K1⟩
 have hb : Hid (startForI x y z u A key = startI x y z u A key) := by show _ = _; simp [startForI, ek, hOk.out]
 obtain ⟨x0, x1, x2, x3, x4⟩ := row5 X1
 obtain ⟨y0, y1, y2, y3⟩ : w1.cell? ⟨w.heap.size, 0, none⟩ = some (.int .i64 x) ∧ w1.cell? ⟨w.heap.size, 1, none⟩ = some (.int .i64 y) ∧ w1.cell? ⟨w.heap.size, 2, none⟩ = some (.int .i64 z) ∧ w1.cell? ⟨w.heap.size, 3, none⟩ = some (.int .i64 u) := ⟨by simpa using P1 0 _ rfl, by simpa using P1 1 _ rfl, by simpa using P1 2 _ rfl, by simpa using P1 3 _ rfl⟩
 go_wp2_with (first | (go_at_call 39; refine (specKeyOk_any _ _).mono ?_; rintro e w' ⟨rfl, hw⟩; obtain rfl := hw.symm; rw [ek]) | (go_at_call 40; refine (l9Start_any B A x y z u key a0 a1 a2 a3 c0 c1 c2 c3 w1 hB1 hA' I1 hOk.out).mono ?_; rintro e w2 ⟨rfl, b2⟩))
 go_ret
 exact ⟨by rw [hb.out]; rfl, K1.trans (b2.mono (by omega))⟩
end
section
open Go.RowKit
structure Only (b : Nat) (w w' : World) : Prop where
 os : w'.os = w.os
 tape : w'.tape = w.tape
 output : w'.output = w.output
 size : w.heap.size ≤ w'.heap.size
 block : ∀ k, k < w.heap.size → k ≠ b → w'.heap[k]? = w.heap[k]?
theorem Only.refl (b : Nat) (w : World) : Only b w w := ⟨rfl, rfl, rfl, Nat.le_refl _, fun _ _ _ => rfl⟩
theorem Only.setCell {b : Nat} {x w : World} (h : Only b x w) {p : Addr} (hp : p.block = b ∨ x.heap.size ≤ p.block) (u : Value) : Only b x (w.setCell p u) :=
 ⟨h.os, h.tape, h.output, by simpa [World.setCell] using h.size, fun k hk hb => (Below.heap_setCell _ _ _ _ (by omega)).trans (h.block k hk hb)⟩
theorem Only.below {b B : Nat} {w w' : World} (h : Only b w w') (hb : B ≤ b) (hB : B ≤ w.heap.size) : Below B w w' := ⟨h.os, h.tape, h.output, h.size, fun k hk => h.block k (by omega) (by omega)⟩
structure But (S : Nat → Prop) (w w' : World) : Prop where
 os : w'.os = w.os
 tape : w'.tape = w.tape
 output : w'.output = w.output
 size : w.heap.size ≤ w'.heap.size
 block : ∀ k, k < w.heap.size → ¬ S k → w'.heap[k]? = w.heap[k]?
theorem But.of_only {S : Nat → Prop} {b : Nat} {w w' : World} (h : Only b w w') (hb : S b) : But S w w' := ⟨h.os, h.tape, h.output, h.size, fun k hk hn => h.block k hk (fun e => hn (e ▸ hb))⟩
theorem But.of_below {S : Nat → Prop} {w w' : World} (h : Below w.heap.size w w') : But S w w' := ⟨h.os, h.tape, h.output, h.size, fun k hk _ => h.block k hk⟩
theorem But.cell {S : Nat → Prop} {w w' : World} (h : But S w w') {p : Addr} (h1 : p.block < w.heap.size) (h2 : ¬ S p.block) : w'.cell? p = w.cell? p := World.cell?_of_block (w := w) (h.block p.block h1 h2)
theorem But.range {S : Nat → Prop} {w w' : World} (h : But S w w') {b o : Nat} {cs : List Value} (R : w.rangeAt b o cs) (h1 : b < w.heap.size) (h2 : ¬ S b) : w'.rangeAt b o cs := fun j v hv => (h.cell (p := ⟨b, o + j, none⟩) h1 h2).trans (R j v hv)
end
section
def ifaceVarsB (P : Program) (ns : List String) : Bool := ns.all fun n => match P.globalNamed n with
 | some g => match (P.globals[g]?).map (·.type) with
  | some t => match P.underlying t with
   | some (.interface _) => true
   | _ => false
  | none => false
 | none => false
theorem vars_length {H : Type} {enc : TypeId × Value → H} {P : Program} {W : World} {sp : Nat → Bool} : ∀ (ns : List String) (gs : List (DataW H)) (q : List MemPlace), DataW.TrodVars enc P W sp ns gs q → gs.length = ns.length
 | [], [], _, _ => rfl
 | [], _ :: _, _, h => h.elim
 | _ :: _, [], _, h => h.elim
 | n :: ns, d :: gs, q, h => by
  obtain ⟨_, _, _, _, _, q', _, _, _, _, hr, _⟩ := h
  simp [vars_length ns gs q' hr]
theorem vars_three {H : Type} {enc : TypeId × Value → H} {P : Program} {W : World} {sp : Nat → Bool} {n0 n1 n2 : String} {gs : List (DataW H)} {q : List MemPlace} (h : DataW.TrodVars enc P W sp [n0, n1, n2] gs q) : ∃ g0 g1 g2, gs = [g0, g1, g2] := by
 have hl := vars_length _ _ _ h
 match gs, hl with
 | [g0, g1, g2], _ => exact ⟨_, _, _, rfl⟩
theorem vars_kept {H : Type} {enc : TypeId × Value → H} {P : Program} {W W' : World} {B : Nat} (hb : Below B W W') : ∀ (ns : List String) (gs : List (DataW H)) (q : List MemPlace), (∀ x ∈ q, x.block < B) →
  ifaceVarsB P ns = true → ∀ sp sp', DataW.TrodVars enc P W sp ns gs q → DataW.TrodVars enc P W' sp' ns gs q
 | [], [], _, _, _, _, _, h => h
 | [], _ :: _, _, _, _, _, _, h => h
 | _ :: _, [], _, _, _, _, _, h => h
 | n :: ns, d :: gs, q, hq, hi, sp, sp', h => by
  obtain ⟨g, t, cs, fuel, p, q', hg, ht, hv, hd, hr, rfl⟩ := h
  simp only [ifaceVarsB, List.all_cons, Bool.and_eq_true] at hi
  obtain ⟨hi1, hi2⟩ := hi
  rw [hg] at hi1
  simp only [ht] at hi1
  split at hi1
  ·rename_i ms hu
   obtain ⟨v, hcs, hif, hy⟩ := held_of_trod_list hu hd
   have hcs1 : cs = #[v] := by
    obtain ⟨l⟩ := cs
    simp only at hcs
    rw [hcs]
   subst hcs1
   refine ⟨g, t, #[v], 1, p, q', hg, ht, ?_, ?_, vars_kept hb ns gs q' (fun x hx => hq x (by simp [hx])) hi2 sp sp' hr, rfl⟩
   ·have hlt : g < B := hq (.cell g 0) (by simp [MemPlace.row])
    unfold World.var? at hv ⊢
    rw [hg] at hv ⊢
    simp only [Option.bind_some] at hv ⊢
    rw [hb.block g hlt]
    exact hv
   ·rw [hy]
    exact trod_held hu hif 0
  ·cases hi1
end
section
attribute [local go_sem ↓] Go.wp_at_zero Go.wp_at_succ
def ptrC (p : Addr) : List Value := [.pointer (some p)]
end
section
theorem own_is {w : World} {base : Nat} {e : TypeId} {sz : Nat} {v : Value} {n : Nat} {xs : List Value} (h : w.ownsRow base e sz v n xs) : ∃ a cap, v = .slice a n cap := by
 rcases h.2 with ⟨rfl, rfl⟩ | ⟨g, cap, cur, rfl, _⟩
 ·exact ⟨_, _, rfl⟩
 ·exact ⟨_, _, rfl⟩
end
section
def Blk (w : World) (b : Nat) (t : TypeId) (n : Nat) : Prop := ∃ cur, w.heap[b]? = some (.cells cur t (0, 0)) ∧ cur.size = n
theorem Blk.lt {w : World} {b : Nat} {t : TypeId} {n : Nat} (h : Blk w b t n) : b < w.heap.size := by
 obtain ⟨cur, h, -⟩ := h
 rcases Nat.lt_or_ge b w.heap.size with hl | hl
 ·exact hl
 ·rw [Array.getElem?_eq_none hl] at h; cases h
theorem Blk.below {w w' : World} {B b : Nat} {t : TypeId} {n : Nat} (h : Blk w b t n) (hb : Below B w w') (hB : b < B) : Blk w' b t n := by
 obtain ⟨cur, h, hs⟩ := h
 exact ⟨cur, (hb.block b hB).trans h, hs⟩
theorem Blk.grown {w w' : World} {b : Nat} {t : TypeId} {n : Nat} (h : Blk w b t n) (hb : Below w.heap.size w w') : Blk w' b t n := h.below hb h.lt
theorem Blk.but {S : Nat → Prop} {w w' : World} {b : Nat} {t : TypeId} {n : Nat} (h : Blk w b t n) (O : But S w w') (hS : ¬ S b) : Blk w' b t n := by
 have hl := h.lt
 obtain ⟨cur, h, hs⟩ := h
 exact ⟨cur, (O.block b hl hS).trans h, hs⟩
theorem Blk.new (w : World) (cs : Array Value) (t : TypeId) : Blk (w.alloc (.cells cs t)) w.heap.size t cs.size := ⟨cs, by show (w.heap.push _)[w.heap.size]? = some _; simp, rfl⟩
theorem Blk.setCell {w : World} {b : Nat} {t : TypeId} {n : Nat} (h : Blk w b t n) (a : Addr) (v : Value) : Blk (w.setCell a v) b t n := by
 obtain ⟨cur, h, hs⟩ := h
 by_cases e : a.block = b
 ·refine ⟨if a.spot.isSome then cur else cur.setIfInBounds a.off v, ?_, ?_⟩
  ·simp only [World.setCell, Array.getElem?_modify, e, if_true, h, Option.map_some]
  ·split
   ·exact hs
   ·simpa using hs
 ·exact ⟨cur, (Below.heap_setCell _ _ _ _ (fun h' => e h'.symm)).trans h, hs⟩
theorem Blk.setCells {t : TypeId} {b n c : Nat} : ∀ (vs : List Value) (o : Nat) (w : World), Blk w b t n → Blk (w.setCells c o vs) b t n
 | [], _, _, h => h
 | v :: vs, o, w, h => Blk.setCells vs (o + 1) (w.setCell ⟨c, o, none⟩ v) (h.setCell _ v)
theorem Blk.there {w : World} {b : Nat} {t : TypeId} {n : Nat} (h : Blk w b t n) (o k : Nat) (hk : o + k ≤ n) : w.there b o k := by
 obtain ⟨cur, h, hs⟩ := h
 intro j hj
 refine ⟨?_, by simp [World.frozen?, h]⟩
 rw [show w.cell? ⟨b, o + j, none⟩ = cur[o + j]? by simp [World.cell?, h]]
 rw [Array.getElem?_eq_getElem (by omega)]
 rfl
theorem Blk.own {w : World} {base b : Nat} {t : TypeId} {n : Nat} {cs : List Value} (h : Blk w b t n) (R : w.rangeAt b 0 cs) (hl : cs.length = n) (hb : base ≤ b) (hm : n ≤ maxLen) : w.ownsRow base t 1 (.slice (some ⟨b, 0, none⟩) n n) n cs := by
 obtain ⟨cur, h, hs⟩ := h
 refine ⟨by omega, Or.inr ⟨b, n, cur, rfl, hb, h, Nat.le_refl _, hm, by omega, ?_⟩⟩
 apply List.ext_getElem?
 intro j
 rcases Nat.lt_or_ge j n with hj | hj
 ·have := R j cs[j] (by rw [List.getElem?_eq_getElem])
  rw [Nat.zero_add, show w.cell? ⟨b, j, none⟩ = cur[j]? by simp [World.cell?, h]] at this
  rw [List.getElem?_take, if_pos (by omega), Array.getElem?_toList, this, List.getElem?_eq_getElem]
 ·rw [List.getElem?_eq_none (by simp; omega), List.getElem?_eq_none (by omega)]
theorem row_blk {w : World} {base : Nat} {e : TypeId} {size n : Nat} {a : Option Addr} {cap : Nat} {xs : List Value} (h : w.ownsRow base e size (.slice a n cap) n xs) (hp : 0 < n) : ∃ g, a = some ⟨g, 0, none⟩ ∧ base ≤ g ∧ Blk w g e (cap * size) ∧ n ≤ cap ∧ w.rangeAt g 0 xs := by
 rcases h.2 with ⟨h1, h2⟩ | ⟨g, c, cur, h1, hg, hh, hnc, _, hs, ht⟩
 ·omega
 ·injection h1 with h1 h2 h3
  subst h1 h3
  refine ⟨g, rfl, hg, ⟨cur, hh, hs⟩, hnc, ?_⟩
  intro j v hj
  rw [Nat.zero_add, show w.cell? ⟨g, j, none⟩ = cur[j]? by simp [World.cell?, hh]]
  rw [← ht, List.getElem?_take] at hj
  split at hj
  ·rwa [Array.getElem?_toList] at hj
  ·cases hj
structure OwnPtrs {α : Type} (base : Nat) (t : TypeId) (sz : Nat) (w : World) (f : α → List Value) (ps : List Addr) (l : List α) : Prop where
 len : ps.length = l.length
 at' : ∀ i (h : i < l.length), ∃ b o n, ps[i]? = some ⟨b, o, none⟩ ∧ base ≤ b ∧ Blk w b t n ∧ o + sz ≤ n ∧ w.rangeAt b o (f l[i])
 apart : ∀ (i j b o b' o' : Nat), i ≠ j → ps[i]? = some ⟨b, o, none⟩ → ps[j]? = some ⟨b', o', none⟩ → b ≠ b' ∨ o + sz ≤ o' ∨ o' + sz ≤ o
theorem OwnPtrs.grown {α : Type} {base : Nat} {t : TypeId} {sz : Nat} {w w' : World} {f : α → List Value} {ps : List Addr} {l : List α} (h : OwnPtrs base t sz w f ps l) (hb : Below w.heap.size w w') : OwnPtrs base t sz w' f ps l :=
 ⟨h.len, fun i hi => by obtain ⟨b, o, n, h1, h2, h3, h4, h5⟩ := h.at' i hi; exact ⟨b, o, n, h1, h2, h3.grown hb, h4, rangeAt_below h5 hb h3.lt⟩, h.apart⟩
theorem OwnPtrs.but {α : Type} {base : Nat} {t : TypeId} {sz : Nat} {S : Nat → Prop} {w w' : World} {f : α → List Value} {ps : List Addr} {l : List α} (h : OwnPtrs base t sz w f ps l) (O : But S w w') (hS : ∀ b n, base ≤ b → Blk w b t n → ¬ S b) : OwnPtrs base t sz w' f ps l :=
 ⟨h.len, fun i hi => by obtain ⟨b, o, n, h1, h2, h3, h4, h5⟩ := h.at' i hi; exact ⟨b, o, n, h1, h2, h3.but O (hS b n h2 h3), h4, O.range h5 h3.lt (hS b n h2 h3)⟩, h.apart⟩
theorem OwnPtrs.lo {α : Type} {base lo : Nat} {t : TypeId} {sz : Nat} {w : World} {f : α → List Value} {ps : List Addr} {l : List α} (h : OwnPtrs base t sz w f ps l) (hl : lo ≤ base) : OwnPtrs lo t sz w f ps l :=
 ⟨h.len, fun i hi => by obtain ⟨b, o, n, h1, h2, h3⟩ := h.at' i hi; exact ⟨b, o, n, h1, Nat.le_trans hl h2, h3⟩, h.apart⟩
def rowPtrs (b sz n : Nat) : List Addr := (List.range n).map fun i => ⟨b, i * sz, none⟩
theorem rowPtrs_length (b sz n : Nat) : (rowPtrs b sz n).length = n := by simp [rowPtrs]
theorem rowPtrs_at (b sz n i : Nat) (hi : i < n) : (rowPtrs b sz n)[i]? = some ⟨b, i * sz, none⟩ := by simp [rowPtrs, hi]
theorem rowPtrs_succ (b sz n : Nat) : rowPtrs b sz (n + 1) = rowPtrs b sz n ++ [⟨b, n * sz, none⟩] := by simp [rowPtrs, List.range_succ]
theorem ownPtrs_row {α : Type} {base : Nat} {t : TypeId} {sz : Nat} {w : World} {f : α → List Value} {b : Nat} {l : List α} (hf : ∀ x, (f x).length = sz) (hb : base ≤ b) (hB : Blk w b t (l.length * sz)) (R : w.rangeAt b 0 (cellsOf f l)) : OwnPtrs base t sz w f (rowPtrs b sz l.length) l := by
 refine ⟨rowPtrs_length _ _ _, fun i hi => ⟨b, i * sz, l.length * sz, rowPtrs_at b sz l.length i hi, hb, hB, ?_, ?_⟩, ?_⟩
 ·rw [← Nat.succ_mul]; exact Nat.mul_le_mul_right _ hi
 ·simpa using rangeAt_elem hf R i hi
 ·intro i j b1 o1 b2 o2 hij h1 h2
  have k1 : i < l.length := by
   rcases Nat.lt_or_ge i l.length with hl | hl
   ·exact hl
   ·rw [List.getElem?_eq_none (by rw [rowPtrs_length]; exact hl)] at h1; cases h1
  have k2 : j < l.length := by
   rcases Nat.lt_or_ge j l.length with hl | hl
   ·exact hl
   ·rw [List.getElem?_eq_none (by rw [rowPtrs_length]; exact hl)] at h2; cases h2
  rw [rowPtrs_at b sz l.length i k1] at h1
  rw [rowPtrs_at b sz l.length j k2] at h2
  injection h1 with h1
  injection h1 with h3 h4
  injection h2 with h2
  injection h2 with h5 h6
  subst h4 h6
  refine Or.inr ?_
  rcases Nat.lt_or_ge i j with h | h
  ·exact Or.inl (by rw [← Nat.succ_mul]; exact Nat.mul_le_mul_right _ h)
  ·exact Or.inr (by rw [← Nat.succ_mul]; exact Nat.mul_le_mul_right _ (by omega))
theorem run_copy_whole {P : Program} (w : World) (dT sT ty elem : TypeId) (b n dCap sCap sz : Nat) (a : Option Addr) (cs : List Value)
  (hu : P.underlying dT = some (.slice elem)) (hs : (P.info? elem).map (·.size) = some sz) (hn : cs.length = n * sz)
  (hsrc : 0 < n → ∃ ad, a = some ad ∧ ∀ j v, cs[j]? = some v → w.cell? (ad.add j) = some v) (hc : w.there b 0 (n * sz)) (h1 : ∀ v ∈ cs, v.oneCell' = true) :
  (Builtin.copy_ #[dT, sT] ty #[.slice (some ⟨b, 0, none⟩) n dCap, .slice a n sCap]).run P w = .ok (goInt n) (w.setCells b 0 cs) := by
 cases hq : P.info? elem with
 | none => simp [hq] at hs
 | some i =>
  have hi : i.size = sz := by simpa [hq] using hs
  rcases Nat.eq_zero_or_pos n with h0 | h0
  ·subst h0
   have e0 : cs = [] := List.eq_nil_of_length_eq_zero (by simpa using hn)
   subst e0
   have hl : ∀ (x : Addr), (loadCells x 0).run P w = .ok #[] w := fun x => by simpa using run_loadCells_list (P := P) w x [] (by simp)
   cases a <;> simp [Builtin.copy_, run_underlying hu, Builtin.lenOf, Builtin.firstCells, sizeOf, typeInfo, hq, storeCells, hl, World.setCells]
  ·obtain ⟨ad, rfl, hsr⟩ := hsrc h0
   have hl := run_loadCells_list (P := P) w ad cs hsr
   have hst := run_storeCells_cells (P := P) b 0 cs 0 w (fun j hj => by have := (hc j (by omega)).1; simpa using this) (fun j hj => by have := (hc j (by omega)).2; simpa using this) h1
   rw [hn] at hl
   simp [Builtin.copy_, run_underlying hu, Builtin.lenOf, Builtin.firstCells, sizeOf, typeInfo, hq, hi, hl, hst]
theorem wpList_copy_whole {P : Program} {w : World} {ops : Array Oper} {rest : List Oper} {o : Oper} {a : Act} {Q : Exit → Act → World → Prop} (hgd : o.guard = none) (d s : Operand) (dT sT : TypeId)
  (ho : o.op = .call { callee := .builtin .copy, args := #[d, s], argTypes := #[dT, sT] }) (elem : TypeId) (hu : P.underlying dT = some (.slice elem)) (sz : Nat) (hsz : (P.info? elem).map (·.size) = some sz)
  (sp : Option Addr) (b n dCap sCap : Nat) (hd : a.eval d = .slice (some ⟨b, 0, none⟩) n dCap) (hs : a.eval s = .slice sp n sCap)
  (cs : List Value) (hn : cs.length = n * sz) (hsrc : 0 < n → ∃ ad, sp = some ad ∧ ∀ j v, cs[j]? = some v → w.cell? (ad.add j) = some v) (hc : w.there b 0 (n * sz)) (h1 : ∀ v ∈ cs, v.oneCell' = true)
  (h : wpList P ops Q rest (a.put o.dst (goInt n)) (w.setCells b 0 cs)) : wpList P ops Q (o :: rest) a w := by
 refine wpList_plain hgd fun K hK => ?_
 have hrun := run_copy_whole (P := P) w dT sT o.type elem b n dCap sCap sz sp cs hu hsz hn hsrc hc h1
 unfold Oper.wp
 simp [execOp, ho, resolve, invoke, builtin, hd, hs, hrun, Result.andThen]
 exact hK _ _ h
end
end Go.Proofs.YtlfjhcdjgoeafaaDoor
