/-
  What the law's proof goes by, part 22.
-/
import Derived.Deep.Cut
import Derived.ScopeJumps
import Derived.WalkMore
import Derived.Test.YtlfjhcdjgoeafaaGreatDoorFindStep00
import Derived.Test.YtlfjhcdjgoeafaaGreatDoorFindStep06
import Derived.Test.YtlfjhcdjgoeafaaGreatDoorFindStep13
import Derived.Test.YtlfjhcdjgoeafaaGreatDoorFindStep18
import Derived.Test.YtlfjhcdjgoeafaaGreatDoorFindStep20
namespace Go.Proofs.YtlfjhcdjgoeafaaGreatDoor
open Go.ChangeShapes Go.WideShapes Go.ChangeAt Go.RowKit
set_option linter.unusedVariables false
set_option linter.unusedSimpArgs false
set_option linter.unnecessarySimpa false
set_option linter.unusedSectionVars false
section
attribute [local go_sem ↓] Go.wp_at_zero Go.wp_at_succ
theorem guideI_ge (x y z u k : Int) : -1 ≤ guideI x y z u k := by
 unfold guideI
 split
 ·rename_i hh
  simp only [Bool.and_eq_true] at hh
  have hp := (planB_iff x y z u).1 hh.1
  have hk := (inB_iff _ _ _).1 hh.2
  have : 0 ≤ k * u / 64 := Int.ediv_nonneg (Int.mul_nonneg (by omega) (by omega)) (by omega)
  omega
 ·omega
theorem startI_guide (x y z u : Int) (A : Ar) (key : Int) (h : 0 ≤ guideI x y z u key) : startI x y z u A key = startG A (guideI x y z u key) key := by
 unfold startI startG
 by_cases h2 : (ndOf A (A.guides.getD (guideI x y z u key).toNat 0)).key < key
 ·rw [if_pos ⟨h, h2⟩, if_pos h2]
 ·rw [if_neg (fun c => h2 c.2), if_neg h2]
theorem startI_none (x y z u : Int) (A : Ar) (key : Int) (h : guideI x y z u key = -1) : startI x y z u A key = 0 := by
 unfold startI
 rw [if_neg (by omega)]
theorem past_right {x y z u : Int} {A : Ar} {h : Hd} (hOk : arenaB x y z u A = true) (hp0 : 0 ≤ h.pred) (hp1 : h.pred < (A.nodes.length : Int)) (hc0 : 0 ≤ h.currVer) (hc1 : h.currVer < (A.vers.length : Int)) : swapC z A h.pred (pastV A h) ≠ 2 := by
 obtain ⟨ck, hck⟩ : ∃ k : Nat, h.currVer = k := ⟨h.currVer.toNat, by omega⟩
 obtain ⟨pk, hpk⟩ : ∃ k : Nat, h.pred = k := ⟨h.pred.toNat, by omega⟩
 have hcl : ck < A.vers.length := by omega
 have hpl : pk < A.nodes.length := by omega
 have hv := arenaB_ver hOk ck hcl
 have hcam := (arenaB_parts hOk).1
 simp only [headB, Bool.and_eq_true, inB_iff] at hcam
 have hnd := (allIdx_iff _ _).1 (arenaB_parts hOk).2.2.2.1 pk hpl
 unfold nodeB at hnd
 have hhd : 0 ≤ A.nodes[pk].head ∧ A.nodes[pk].head ≤ (A.vers.length : Int) - 1 := by
  split at hnd <;> (simp only [Bool.and_eq_true, inB_iff, beq_iff_eq] at hnd; omega)
 unfold swapC
 rw [hpk, ndOf_nat A pk hpl]
 split
 ·decide
 split
 ·decide
 rename_i h1 h2
 have hpv : h.predVer = A.nodes[pk].head := by
  have : A.nodes[pk].head = (pastV A h).prev := by simpa using h2
  rw [this]; rfl
 have hr : verR A.nodes.length A.camera (A.vers.length : Int) (pastV A h) = true := by
  unfold verR pastV
  rw [hck, vrOf_nat A ck hcl, hpv]
  simp only [Bool.and_eq_true, inB_iff, bne_iff_ne, ne_eq]
  omega
 rw [if_neg (by rw [hr]; decide)]
 decide
theorem findOf_unlink {x y z u : Int} {A : Ar} {h : Hd} (ha : h.at_ = 6) (h2 : swapC z A h.pred (pastV A h) ≠ 2) : findOf x y z u A h = (swapA A h.pred (pastV A h) (swapC z A h.pred (pastV A h)), swappedH h (swapN A (swapC z A h.pred (pastV A h))) (swapC z A h.pred (pastV A h)) 3) := by
 rw [findOf, if_neg (by omega)]
 unfold swapC at h2 ⊢
 unfold swapOf
 by_cases e1 : z ≤ (A.vers.length : Int)
 ·simp [e1, swapA, swappedH]
 ·rw [if_neg e1, if_neg e1]
  rw [if_neg e1] at h2
  by_cases e2 : (ndOf A h.pred).head = h.predVer
  ·have e2' : ¬ (ndOf A h.pred).head ≠ (pastV A h).prev := fun hn => hn e2
   rw [if_neg e2', if_neg (fun hn => hn e2)]
   rw [if_neg e2'] at h2
   have e3 : ¬ verR A.nodes.length A.camera (A.vers.length : Int) (pastV A h) = false := fun hf => by rw [if_pos hf] at h2; exact h2 rfl
   rw [if_neg e3]
   have l0 : ((A.vers.length : Int) = -2) = False := by simp
   have l1 : ((A.vers.length : Int) = -1) = False := by simp
   simp [swapA, swappedH, swapN, pastV, l0, l1]
  ·have e2' : (ndOf A h.pred).head ≠ (pastV A h).prev := e2
   rw [if_pos e2', if_pos e2]
   simp [swapA, swappedH, turnH]
def beginG (b0 b1 : Nat) (x y z u : Int) (h : Hd) : Nat → Value → World → Prop
 | 0, v, _ => v = .agg (hdC h).toArray
 | 1, v, _ => v = .agg (hdC (begunH h)).toArray
 | 2, v, _ => v = .agg #[.int .i64 x, .int .i64 y, .int .i64 z, .int .i64 u]
 | 3, v, _ => v = .pointer (some ⟨b1, 3, none⟩)
 | 4, v, _ => v = .int .i64 h.key
 | 5, v, _ => v = .int .i64 (guideI x y z u h.key)
 | _, _, _ => True
theorem beginG_kept {b0 b1 : Nat} {x y z u : Int} {h : Hd} (i : Nat) (v : Value) (w w' : World) (hq : beginG b0 b1 x y z u h i v w) (hb : Below w.heap.size w w') : beginG b0 b1 x y z u h i v w' := by
 match i, hq with
 | 0, h | 1, h | 2, h | 3, h | 4, h | 5, h => exact h
 | n + 6, h => exact trivial
set_option maxRecDepth 100000 in
set_option maxHeartbeats 4000000 in
theorem find_begin (base : Nat) (cb : Nat) (s g n r : Value) (ps qs : List Addr) (A : Ar) (h : Hd) (x y z u : Int) (eN eF eU : Addr) (w : World) (hbase : base ≤ w.heap.size) (hA : A.size ≤ 1048576) (C : OwnCells base w cb s g n r ps qs A) (ha : h.at_ = 1) (hr0 : 0 ≤ h.round) (hr1 : h.round ≤ 20000) (hOk : arenaB x y z u A = true) :
  Calls Tryz.prog 27 #[.pointer (some ⟨cb, 0, none⟩), .agg #[.int .i64 x, .int .i64 y, .int .i64 z, .int .i64 u], .agg (hdC h).toArray] w fun e w' => e = .returned (.agg (hdC (findOf x y z u A h).2).toArray) ∧ Below w.heap.size w w' := by
 have hfo : Hid ((findOf x y z u A h).2 = { begunH h with x_ := startI x y z u A h.key }) := by show _ = _; rw [findOf, if_pos ha]; rfl
 have P0 := World.rangeAt_alloc (World.rangeAt_alloc (rangeAt_new w [.int .i64 x, .int .i64 y, .int .i64 z, .int .i64 u] 43) (.cells (hdC h).toArray 36)) (.cells #[.int .i64 0, .int .i64 0, .int .i64 0, .int .i64 0, .int .i64 0, .int .i64 0, .int .i64 0, .int .i64 0, .int .i64 0, .int .i64 0, .int .i64 0, .int .i64 0, .int .i64 0, .int .i64 0, .int .i64 0, .int .i64 0, .int .i64 0, .int .i64 0, .int .i64 0, .int .i64 0, .int .i64 0, .int .i64 0] 36)
 have H0 := World.rangeAt_alloc (rangeAt_new (w.alloc (.cells #[.int .i64 x, .int .i64 y, .int .i64 z, .int .i64 u] 43)) (hdC h) 36) (.cells #[.int .i64 0, .int .i64 0, .int .i64 0, .int .i64 0, .int .i64 0, .int .i64 0, .int .i64 0, .int .i64 0, .int .i64 0, .int .i64 0, .int .i64 0, .int .i64 0, .int .i64 0, .int .i64 0, .int .i64 0, .int .i64 0, .int .i64 0, .int .i64 0, .int .i64 0, .int .i64 0, .int .i64 0, .int .i64 0] 36)
 have G0 := World.there_alloc (there_new (w.alloc (.cells #[.int .i64 x, .int .i64 y, .int .i64 z, .int .i64 u] 43)) (hdC h).toArray 36 22 (by simp [hdC])) (.cells #[.int .i64 0, .int .i64 0, .int .i64 0, .int .i64 0, .int .i64 0, .int .i64 0, .int .i64 0, .int .i64 0, .int .i64 0, .int .i64 0, .int .i64 0, .int .i64 0, .int .i64 0, .int .i64 0, .int .i64 0, .int .i64 0, .int .i64 0, .int .i64 0, .int .i64 0, .int .i64 0, .int .i64 0, .int .i64 0] 36)
 have F0 := there_new ((w.alloc (.cells #[.int .i64 x, .int .i64 y, .int .i64 z, .int .i64 u] 43)).alloc (.cells (hdC h).toArray 36)) #[.int .i64 0, .int .i64 0, .int .i64 0, .int .i64 0, .int .i64 0, .int .i64 0, .int .i64 0, .int .i64 0, .int .i64 0, .int .i64 0, .int .i64 0, .int .i64 0, .int .i64 0, .int .i64 0, .int .i64 0, .int .i64 0, .int .i64 0, .int .i64 0, .int .i64 0, .int .i64 0, .int .i64 0, .int .i64 0] 36 22 (by decide)
 have K0 := (((Below.refl w.heap.size w).alloc (Nat.le_refl _) (.cells #[.int .i64 x, .int .i64 y, .int .i64 z, .int .i64 u] 43)).alloc (by simp) (.cells (hdC h).toArray 36)).alloc (by simp; omega) (.cells #[.int .i64 0, .int .i64 0, .int .i64 0, .int .i64 0, .int .i64 0, .int .i64 0, .int .i64 0, .int .i64 0, .int .i64 0, .int .i64 0, .int .i64 0, .int .i64 0, .int .i64 0, .int .i64 0, .int .i64 0, .int .i64 0, .int .i64 0, .int .i64 0, .int .i64 0, .int .i64 0, .int .i64 0, .int .i64 0] 36)
 have hz0 : w.heap.size + 1 + 1 < (((w.alloc (.cells #[.int .i64 x, .int .i64 y, .int .i64 z, .int .i64 u] 43)).alloc (.cells (hdC h).toArray 36)).alloc (.cells #[.int .i64 0, .int .i64 0, .int .i64 0, .int .i64 0, .int .i64 0, .int .i64 0, .int .i64 0, .int .i64 0, .int .i64 0, .int .i64 0, .int .i64 0, .int .i64 0, .int .i64 0, .int .i64 0, .int .i64 0, .int .i64 0, .int .i64 0, .int .i64 0, .int .i64 0, .int .i64 0, .int .i64 0, .int .i64 0] 36)).heap.size := by simp
 simp only [World.size_alloc] at H0 G0 F0
 have C0 := C.grown K0
 go_enter Tryz.func27, Tryz.ntmps27
 go_upto_region 1 with fail
 generalize hw0 : ((w.alloc (.cells #[.int .i64 x, .int .i64 y, .int .i64 z, .int .i64 u] 43)).alloc (.cells (hdC h).toArray 36)).alloc (.cells #[.int .i64 0, .int .i64 0, .int .i64 0, .int .i64 0, .int .i64 0, .int .i64 0, .int .i64 0, .int .i64 0, .int .i64 0, .int .i64 0, .int .i64 0, .int .i64 0, .int .i64 0, .int .i64 0, .int .i64 0, .int .i64 0, .int .i64 0, .int .i64 0, .int .i64 0, .int .i64 0, .int .i64 0, .int .i64 0] 36) = w0 at *
 clear hw0
 have q0 : w0.cell? ⟨w.heap.size + 1, 0, none⟩ = some (.int .i64 1) := by rw [← ha]; simpa using H0 0 (.int .i64 h.at_) rfl
 obtain ⟨y0, y1, y2, y3⟩ : w0.cell? ⟨w.heap.size, 0, none⟩ = some (.int .i64 x) ∧ w0.cell? ⟨w.heap.size, 1, none⟩ = some (.int .i64 y) ∧ w0.cell? ⟨w.heap.size, 2, none⟩ = some (.int .i64 z) ∧ w0.cell? ⟨w.heap.size, 3, none⟩ = some (.int .i64 u) := ⟨by simpa using P0 0 _ rfl, by simpa using P0 1 _ rfl, by simpa using P0 2 _ rfl, by simpa using P0 3 _ rfl⟩
 go_wp2_with fail
 refine wp_scope_jumps 0 (fun a' w' => w'.rangeAt (w.heap.size + 1) 0 (hdC (begunH h)) ∧ w'.there (w.heap.size + 1) 0 22 ∧ w'.there (w.heap.size + 1 + 1) 0 22 ∧ OwnCells base w' cb s g n r ps qs A ∧ Below w.heap.size w w' ∧ w.heap.size + 1 + 1 < w'.heap.size ∧ ∃ (u8 u9 u10 u11 u12 u13 u14 u15 u16 u17 u18 u19 u20 u21 u22 u23 u24 u25 u26 u27 u28 u29 u30 u31 u32 u33 u34 u35 : Value), a' = { tmps := #[.pointer (some ⟨cb, 0, none⟩), .agg #[.int .i64 x, .int .i64 y, .int .i64 z, .int .i64 u], .agg (hdC h).toArray, undef, .pointer (some ⟨w.heap.size, 0, none⟩), .pointer (some ⟨w.heap.size + 1, 0, none⟩), .pointer (some ⟨w.heap.size + 1 + 1, 0, none⟩), .int .i64 (guideI x y z u h.key), u8, u9, u10, u11, u12, u13, u14, u15, u16, u17, u18, u19, u20, u21, u22, u23, u24, u25, u26, u27, u28, u29, u30, u31, u32, u33, u34, u35], defers := [] }) (fun _ _ => 0) rfl ?first ?pass
 case first =>
  go_wp2_with fail
  go_step3
  go_wp2_with fail
  refine any_order_tail 6 (by kernel_rfl) (beginG w.heap.size (w.heap.size + 1) x y z u h) (fun _ => false) (by kernel_rfl) (by kernel_rfl) (by kernel_rfl) (by kernel_rfl) (by rfl) (fun i v w w' _ h hb => beginG_kept i v w w' h hb) (fun i v w q hf h hq => by cases hf) ?step ?final
  case step =>
   intro i o hik ho a V hb hnn hd K hK
   have HV := rangeAt_below H0 hb (by omega)
   have PV := rangeAt_below P0 hb (by omega)
   have q3 : V.cell? ⟨w.heap.size + 1, 3, none⟩ = some (.int .i64 h.key) := by simpa using HV 3 (.int .i64 h.key) rfl
   have hp0 : V.cell? ⟨w.heap.size, 0, none⟩ = some (.int .i64 x) := by simpa using PV 0 _ rfl
   have hp1 : V.cell? ⟨w.heap.size, 1, none⟩ = some (.int .i64 y) := by simpa using PV 1 _ rfl
   have hp2 : V.cell? ⟨w.heap.size, 2, none⟩ = some (.int .i64 z) := by simpa using PV 2 _ rfl
   have hp3 : V.cell? ⟨w.heap.size, 3, none⟩ = some (.int .i64 u) := by simpa using PV 3 _ rfl
   clear q0 y0 y1 y2 y3 P0 H0 G0 F0 C0 K0 C
   match i, ho with
   | 0, ho =>
    obtain rfl := Option.some.inj ho
    exact step_load 36 (.tmp 5) rfl (w.heap.size + 1) 0 (hnn 5 rfl) (hdC h) _ HV Tryz.underlying36 rfl (sizeHandL h) (hK _ _ rfl (Below.refl _ _) (fun h => by cases h))
   | 1, ho =>
    obtain rfl := Option.some.inj ho
    have e1 : a.eval (.tmp 20) = .agg (hdC h).toArray := hd ⟨0, .data⟩ (by simp) rfl 20 rfl
    have ef : a.eval (.func 60) = .func (.func 60) #[] #[] := rfl
    refine step_call (f := 60) (args := #[.agg (hdC h).toArray]) (R := fun v w' => v = .agg (hdC (begunH h)).toArray ∧ Below V.heap.size V w') ?_ ((begun_any h V hr0 hr1).mono (fun e w' h => ⟨_, h.1, rfl, h.2⟩)) (fun v w' h => hK v w' h.1 h.2 (fun h => by cases h))
    clear HV PV q3 hp0 hp1 hp2 hp3
    generalize a.eval = ev at *
    go_simp
   | 2, ho =>
    obtain rfl := Option.some.inj ho
    have e1 : a.eval (.tmp 4) = .pointer (some ⟨w.heap.size, 0, none⟩) := hnn 4 rfl
    refine step_value (v := .agg #[.int .i64 x, .int .i64 y, .int .i64 z, .int .i64 u]) (w' := V) ?_ (hK _ _ rfl (Below.refl _ _) (fun h => by cases h))
    clear HV PV q3
    generalize a.eval = ev at *
    go_simp
   | 3, ho =>
    obtain rfl := Option.some.inj ho
    have e1 : a.eval (.tmp 5) = .pointer (some ⟨w.heap.size + 1, 0, none⟩) := hnn 5 rfl
    refine step_value (v := .pointer (some ⟨w.heap.size + 1, 3, none⟩)) (w' := V) ?_ (hK _ _ rfl (Below.refl _ _) (fun h => by cases h))
    clear HV PV q3 hp0 hp1 hp2 hp3
    generalize a.eval = ev at *
    go_simp
   | 4, ho =>
    obtain rfl := Option.some.inj ho
    have e1 : a.eval (.tmp 23) = .pointer (some ⟨w.heap.size + 1, 3, none⟩) := hd ⟨3, .data⟩ (by simp) rfl 23 rfl
    refine step_value (v := .int .i64 h.key) (w' := V) ?_ (hK _ _ rfl (Below.refl _ _) (fun h => by cases h))
    clear HV PV hp0 hp1 hp2 hp3
    generalize a.eval = ev at *
    go_simp
   | 5, ho =>
    obtain rfl := Option.some.inj ho
    have e1 : a.eval (.tmp 22) = .agg #[.int .i64 x, .int .i64 y, .int .i64 z, .int .i64 u] := hd ⟨2, .data⟩ (by simp) rfl 22 rfl
    have e2 : a.eval (.tmp 24) = .int .i64 h.key := hd ⟨4, .data⟩ (by simp) rfl 24 rfl
    have ef : a.eval (.func 61) = .func (.func 61) #[] #[] := rfl
    refine step_call (f := 61) (args := #[.agg #[.int .i64 x, .int .i64 y, .int .i64 z, .int .i64 u], .int .i64 h.key]) (R := fun v w' => v = .int .i64 (guideI x y z u h.key) ∧ Below V.heap.size V w') ?_ ((guideOf_any x y z u h.key V).mono (fun e w' h => ⟨_, h.1, rfl, h.2⟩)) (fun v w' h => hK v w' h.1 h.2 (fun h => by cases h))
    clear HV PV q3 hp0 hp1 hp2 hp3
    generalize a.eval = ev at *
    go_simp
   | n + 6, ho => omega
  case final =>
   intro vs V hb hG _
   have g1 : vs 1 = .agg (hdC (begunH h)).toArray := hG 1 (by decide)
   have g5 : vs 5 = .int .i64 (guideI x y z u h.key) := hG 5 (by decide)
   have G1 := there_below G0 hb (by omega)
   have F1 := there_below F0 hb (by omega)
   have C1 := C0.grown hb
   have K1 := K0.trans (hb.mono (by omega))
   have hs1 := hb.size
   generalize hl : laid _ vs _ _ _ = A'
   have hA'' : A' = { tmps := #[.pointer (some ⟨cb, 0, none⟩), .agg #[.int .i64 x, .int .i64 y, .int .i64 z, .int .i64 u], .agg (hdC h).toArray, undef, .pointer (some ⟨w.heap.size, 0, none⟩), .pointer (some ⟨w.heap.size + 1, 0, none⟩), .pointer (some ⟨w.heap.size + 1 + 1, 0, none⟩), .int .i64 (-1), .bool false, .pointer (some ⟨w.heap.size + 1, 0, none⟩), .int .i64 1, .bool false, undef, undef, undef, undef, .bool true, .pointer (some ⟨w.heap.size + 1, 0, none⟩), .int .i64 1, .bool true, vs 0, vs 1, vs 2, vs 3, vs 4, vs 5, undef, undef, undef, undef, undef, undef, undef, undef, undef, undef], defers := [] } := by
    rw [← hl]
    kernel_rfl
   subst hA''
   rw [g1, g5]
   clear hl hG g1 g5 hb
   simp only [List.drop_succ_cons, List.drop_zero]
   refine wpList_store_mid rfl 36 (.tmp 5) (.tmp 21) rfl (w.heap.size + 1) 0 (hdC (begunH h)).toArray rfl rfl G1 (sizeHand _) (oneHand _) ?_
   show wpList _ _ _ _ _ (V.setCells (w.heap.size + 1) 0 (hdC (begunH h)))
   have R2 : (V.setCells (w.heap.size + 1) 0 (hdC (begunH h))).rangeAt (w.heap.size + 1) 0 (hdC (begunH h)) := World.rangeAt_setCells_same _ _ _ _ G1
   have G2 : (V.setCells (w.heap.size + 1) 0 (hdC (begunH h))).there (w.heap.size + 1) 0 22 := World.there_setCells G1 _ _ _
   have F2 : (V.setCells (w.heap.size + 1) 0 (hdC (begunH h))).there (w.heap.size + 1 + 1) 0 22 := World.there_setCells F1 _ _ _
   have K2 : Below w.heap.size w (V.setCells (w.heap.size + 1) 0 (hdC (begunH h))) := Below.setCells (by omega) _ _ _ K1
   have C2 : OwnCells base (V.setCells (w.heap.size + 1) 0 (hdC (begunH h))) cb s g n r ps qs A := C.grown K2
   have hz2 : w.heap.size + 1 + 1 < (V.setCells (w.heap.size + 1) 0 (hdC (begunH h))).heap.size := by rw [setCells_size]; omega
   clear G1 F1 C1 K1 H0 P0 G0 F0 K0 C0 q0 y0 y1 y2 y3
   go_wp2_with fail
   go_step3
   exact ⟨rfl, R2, G2, F2, C2, K2, hz2, _, _, _, _, _, _, _, _, _, _, _, _, _, _, _, _, _, _, _, _, _, _, _, _, _, _, _, _, rfl⟩
 case pass =>
  rintro a' w' ⟨R2, G2, F2, C2, K2, hz2, u8, u9, u10, u11, u12, u13, u14, u15, u16, u17, u18, u19, u20, u21, u22, u23, u24, u25, u26, u27, u28, u29, u30, u31, u32, u33, u34, u35, rfl⟩
  have q0 : w'.cell? ⟨w.heap.size + 1, 0, none⟩ = some (.int .i64 2) := by simpa using R2 0 (.int .i64 2) rfl
  have q3 : w'.cell? ⟨w.heap.size + 1, 3, none⟩ = some (.int .i64 h.key) := by simpa using R2 3 (.int .i64 h.key) rfl
  have q10 : w'.cell? ⟨w.heap.size + 1, 10, none⟩ = some (.int .i64 0) := by simpa using R2 10 (.int .i64 0) rfl
  have f10 : w'.frozen? ⟨w.heap.size + 1, 10, none⟩ = false := by simpa using (G2 10 (by omega)).2
  clear H0 P0 G0 F0 K0 C0 y0 y1 y2 y3
  have hge := guideI_ge x y z u h.key
  by_cases hg : 0 ≤ guideI x y z u h.key
  case neg =>
   have hgm : guideI x y z u h.key = -1 := by omega
   have hv : Hid ((findOf x y z u A h).2 = begunH h) := by show _ = _; rw [hfo.out, startI_none x y z u A h.key hgm]; rfl
   rw [hgm]
   clear hg hge hgm
   go_wp2_with (first | (refine wpList_load_mid rfl 36 (.tmp 5) rfl (w.heap.size + 1) 0 ?lx8 (hdC (begunH h)) _ ?lc8 Tryz.underlying36 rfl (sizeHandL _) ?_) | (refine wpList_store_mid rfl 36 (.tmp 6) _ rfl (w.heap.size + 1 + 1) 0 (hdC ((begunH h))).toArray ?hx8 ?hy8 ?ht8 (sizeHand _) (oneHand _) ?_))
   try (case lx8 => rfl)
   try (case lc8 => exact R2)
   try (case hx8 => rfl)
   try (case hy8 => rfl)
   try (case ht8 => exact F2)
   simp only [Exit.jump]
   refine bodyPost_ret (v := .agg (hdC (begunH h)).toArray) ?_ rfl ⟨by rw [hv.out], Below.setCells (by omega) _ _ _ K2⟩
   exact results_row Tryz.results27 _ _ (w.heap.size + 1 + 1) 0 rfl (hdC (begunH h)) _ (World.rangeAt_setCells_same _ _ _ _ F2) Tryz.underlying36 rfl (sizeHandL _)
  obtain ⟨hgl, hgs⟩ := arenaB_guides hOk
  have hgu := guideI_lt x y z u h.key hg
  have hv : Hid ((findOf x y z u A h).2 = { begunH h with x_ := startG A (guideI x y z u h.key) h.key }) := by show _ = _; rw [hfo.out, startI_guide x y z u A h.key hg]
  generalize guideI x y z u h.key = gi at *
  have bg : (gi != -1) = true := by simp; omega
  have hg1 : gi < (A.guides.length : Int) := by omega
  obtain ⟨W3, hW3⟩ : ∃ W3 : World, Hid (W3 = w'.setCell ⟨w.heap.size + 1, 10, none⟩ (.int .i64 (startG A gi h.key))) := ⟨_, rfl⟩
  have R3 : W3.rangeAt (w.heap.size + 1) 0 (hdC { begunH h with x_ := startG A gi h.key }) := by rw [hW3.out]; exact rangeAt_set R2 10 (by show _ < 22; omega) (.int .i64 (startG A gi h.key))
  have F3 : W3.there (w.heap.size + 1 + 1) 0 22 := by rw [hW3.out]; exact there_setCell F2 _ _
  have K3 : Below w.heap.size w W3 := by rw [hW3.out]; exact Below.setCell K2 (p := ⟨w.heap.size + 1, 10, none⟩) (by show w.heap.size ≤ w.heap.size + 1; omega) _
  have hgH : Hid (0 ≤ gi) := hg
  clear hg hge hgl hgu
  go_upto_region 8 with (go_at_call 62; refine (startBy_any base cb s g n r ps qs A gi h.key w' C2 hA hgH.out hg1 hgs).mono ?_; rintro e w'' ⟨rfl, hw⟩; obtain rfl := hw.symm)
  rw [← hW3.out]
  clear hW3 q0 q3 q10 f10 R2 G2 F2 C2 K2
  go_wp2_with (first | (refine wpList_load_mid rfl 36 (.tmp 5) rfl (w.heap.size + 1) 0 ?lx9 (hdC { begunH h with x_ := startG A gi h.key }) _ ?lc9 Tryz.underlying36 rfl (sizeHandL _) ?_) | (refine wpList_store_mid rfl 36 (.tmp 6) _ rfl (w.heap.size + 1 + 1) 0 (hdC ({ begunH h with x_ := startG A gi h.key })).toArray ?hx9 ?hy9 ?ht9 (sizeHand _) (oneHand _) ?_))
  try (case lx9 => rfl)
  try (case lc9 => exact R3)
  try (case hx9 => rfl)
  try (case hy9 => rfl)
  try (case ht9 => exact F3)
  simp only [Exit.jump]
  refine bodyPost_ret (v := .agg (hdC { begunH h with x_ := startG A gi h.key }).toArray) ?_ rfl ⟨by rw [hv.out], Below.setCells (by omega) _ _ _ K3⟩
  exact results_row Tryz.results27 _ _ (w.heap.size + 1 + 1) 0 rfl (hdC { begunH h with x_ := startG A gi h.key }) _ (World.rangeAt_setCells_same _ _ _ _ F3) Tryz.underlying36 rfl (sizeHandL _)
set_option maxRecDepth 100000 in
set_option maxHeartbeats 4000000 in
theorem find_unlink (base : Nat) (cb : Nat) (s g n r : Value) (ps qs : List Addr) (A : Ar) (h : Hd) (x y z u : Int) (eN eF eU : Addr) (w : World) (hbase : base ≤ w.heap.size) (hA : A.size ≤ 1048576) (C : OwnCells base w cb s g n r ps qs A) (ha : h.at_ = 6) (hp0 : 0 ≤ h.pred) (hp1 : h.pred < (A.nodes.length : Int)) (hc0 : 0 ≤ h.currVer) (hc1 : h.currVer < (A.vers.length : Int)) (hOk : arenaB x y z u A = true) (E : Errs base w eN eF eU) :
  Calls Tryz.prog 27 #[.pointer (some ⟨cb, 0, none⟩), .agg #[.int .i64 x, .int .i64 y, .int .i64 z, .int .i64 u], .agg (hdC h).toArray] w fun e w' => ∃ r' qs', e = .returned (.agg (hdC (findOf x y z u A h).2).toArray) ∧ OwnCells base w' cb s g n r' ps qs' (findOf x y z u A h).1 ∧ Below base w w' := by
 have hfo : Hid (findOf x y z u A h = (swapA A h.pred (pastV A h) (swapC z A h.pred (pastV A h)), swappedH h (swapN A (swapC z A h.pred (pastV A h))) (swapC z A h.pred (pastV A h)) 3)) := findOf_unlink ha (past_right hOk hp0 hp1 hc0 hc1)
 have P0 := World.rangeAt_alloc (World.rangeAt_alloc (rangeAt_new w [.int .i64 x, .int .i64 y, .int .i64 z, .int .i64 u] 43) (.cells (hdC h).toArray 36)) (.cells #[.int .i64 0, .int .i64 0, .int .i64 0, .int .i64 0, .int .i64 0, .int .i64 0, .int .i64 0, .int .i64 0, .int .i64 0, .int .i64 0, .int .i64 0, .int .i64 0, .int .i64 0, .int .i64 0, .int .i64 0, .int .i64 0, .int .i64 0, .int .i64 0, .int .i64 0, .int .i64 0, .int .i64 0, .int .i64 0] 36)
 have H0 := World.rangeAt_alloc (rangeAt_new (w.alloc (.cells #[.int .i64 x, .int .i64 y, .int .i64 z, .int .i64 u] 43)) (hdC h) 36) (.cells #[.int .i64 0, .int .i64 0, .int .i64 0, .int .i64 0, .int .i64 0, .int .i64 0, .int .i64 0, .int .i64 0, .int .i64 0, .int .i64 0, .int .i64 0, .int .i64 0, .int .i64 0, .int .i64 0, .int .i64 0, .int .i64 0, .int .i64 0, .int .i64 0, .int .i64 0, .int .i64 0, .int .i64 0, .int .i64 0] 36)
 have F0 := there_new ((w.alloc (.cells #[.int .i64 x, .int .i64 y, .int .i64 z, .int .i64 u] 43)).alloc (.cells (hdC h).toArray 36)) #[.int .i64 0, .int .i64 0, .int .i64 0, .int .i64 0, .int .i64 0, .int .i64 0, .int .i64 0, .int .i64 0, .int .i64 0, .int .i64 0, .int .i64 0, .int .i64 0, .int .i64 0, .int .i64 0, .int .i64 0, .int .i64 0, .int .i64 0, .int .i64 0, .int .i64 0, .int .i64 0, .int .i64 0, .int .i64 0] 36 22 (by decide)
 have K0 := (((Below.refl w.heap.size w).alloc (Nat.le_refl _) (.cells #[.int .i64 x, .int .i64 y, .int .i64 z, .int .i64 u] 43)).alloc (by simp) (.cells (hdC h).toArray 36)).alloc (by simp; omega) (.cells #[.int .i64 0, .int .i64 0, .int .i64 0, .int .i64 0, .int .i64 0, .int .i64 0, .int .i64 0, .int .i64 0, .int .i64 0, .int .i64 0, .int .i64 0, .int .i64 0, .int .i64 0, .int .i64 0, .int .i64 0, .int .i64 0, .int .i64 0, .int .i64 0, .int .i64 0, .int .i64 0, .int .i64 0, .int .i64 0] 36)
 have hz0 : w.heap.size + 1 + 1 < (((w.alloc (.cells #[.int .i64 x, .int .i64 y, .int .i64 z, .int .i64 u] 43)).alloc (.cells (hdC h).toArray 36)).alloc (.cells #[.int .i64 0, .int .i64 0, .int .i64 0, .int .i64 0, .int .i64 0, .int .i64 0, .int .i64 0, .int .i64 0, .int .i64 0, .int .i64 0, .int .i64 0, .int .i64 0, .int .i64 0, .int .i64 0, .int .i64 0, .int .i64 0, .int .i64 0, .int .i64 0, .int .i64 0, .int .i64 0, .int .i64 0, .int .i64 0] 36)).heap.size := by simp
 have QF0 := Blk.new ((w.alloc (.cells #[.int .i64 x, .int .i64 y, .int .i64 z, .int .i64 u] 43)).alloc (.cells (hdC h).toArray 36)) #[.int .i64 0, .int .i64 0, .int .i64 0, .int .i64 0, .int .i64 0, .int .i64 0, .int .i64 0, .int .i64 0, .int .i64 0, .int .i64 0, .int .i64 0, .int .i64 0, .int .i64 0, .int .i64 0, .int .i64 0, .int .i64 0, .int .i64 0, .int .i64 0, .int .i64 0, .int .i64 0, .int .i64 0, .int .i64 0] 36
 simp only [World.size_alloc] at H0 F0 QF0
 replace QF0 : Blk (((w.alloc (.cells #[.int .i64 x, .int .i64 y, .int .i64 z, .int .i64 u] 43)).alloc (.cells (hdC h).toArray 36)).alloc (.cells #[.int .i64 0, .int .i64 0, .int .i64 0, .int .i64 0, .int .i64 0, .int .i64 0, .int .i64 0, .int .i64 0, .int .i64 0, .int .i64 0, .int .i64 0, .int .i64 0, .int .i64 0, .int .i64 0, .int .i64 0, .int .i64 0, .int .i64 0, .int .i64 0, .int .i64 0, .int .i64 0, .int .i64 0, .int .i64 0] 36)) (w.heap.size + 1 + 1) 36 22 := QF0
 have C0 := C.grown K0
 have E0 := E.below (K0.mono hbase)
 go_enter Tryz.func27, Tryz.ntmps27
 go_upto_region 1 with fail
 generalize hw0 : ((w.alloc (.cells #[.int .i64 x, .int .i64 y, .int .i64 z, .int .i64 u] 43)).alloc (.cells (hdC h).toArray 36)).alloc (.cells #[.int .i64 0, .int .i64 0, .int .i64 0, .int .i64 0, .int .i64 0, .int .i64 0, .int .i64 0, .int .i64 0, .int .i64 0, .int .i64 0, .int .i64 0, .int .i64 0, .int .i64 0, .int .i64 0, .int .i64 0, .int .i64 0, .int .i64 0, .int .i64 0, .int .i64 0, .int .i64 0, .int .i64 0, .int .i64 0] 36) = w0 at *
 clear hw0
 have q0 : w0.cell? ⟨w.heap.size + 1, 0, none⟩ = some (.int .i64 6) := by rw [← ha]; simpa using H0 0 (.int .i64 h.at_) rfl
 obtain ⟨y0, y1, y2, y3⟩ : w0.cell? ⟨w.heap.size, 0, none⟩ = some (.int .i64 x) ∧ w0.cell? ⟨w.heap.size, 1, none⟩ = some (.int .i64 y) ∧ w0.cell? ⟨w.heap.size, 2, none⟩ = some (.int .i64 z) ∧ w0.cell? ⟨w.heap.size, 3, none⟩ = some (.int .i64 u) := ⟨by simpa using P0 0 _ rfl, by simpa using P0 1 _ rfl, by simpa using P0 2 _ rfl, by simpa using P0 3 _ rfl⟩
 go_wp2_with fail
 go_step3
 go_wp2_with fail
 go_step3
 go_wp2_with (refine wpList_load_mid rfl 36 (.tmp 5) rfl (w.heap.size + 1) 0 ?lx7 (hdC h) _ ?lc7 Tryz.underlying36 rfl (sizeHandL _) ?_)
 try (case lx7 => rfl)
 try (case lc7 => exact H0)
 refine (unlinkedBy_any base cb s g n r ps qs A h x y z u eN eF eU w0 (Nat.le_trans hbase K0.size) hA C0 hp0 hp1 hc0 hc1 E0).mono ?_
 rintro e w3 ⟨r3, qs3, rfl, C3, b3, O3⟩
 have hcb : cb < w.heap.size := C.blk.lt
 have nF : ¬ swapS w0 cb (w.heap.size + 1 + 1) := fun h5 => by
  rcases h5 with h5 | ⟨m, h5⟩ | ⟨m, h5⟩
  ·omega
  ·exact QF0.ne h5 (by decide) rfl
  ·exact QF0.ne h5 (by decide) rfl
 have F3 := O3.there F0 (by omega) nF
 have QF3 := QF0.but O3 nF
 have KB3 : Below base w w3 := (K0.mono hbase).trans b3
 have hz3 := Nat.lt_of_lt_of_le hz0 O3.size
 clear y0 y1 y2 y3 q0 P0 H0 F0 K0 C0 E0 O3 b3
 obtain ⟨R, hR⟩ : ∃ R, Hid (findOf x y z u A h = R) := ⟨_, rfl⟩
 have h1 : swapA A h.pred (pastV A h) (swapC z A h.pred (pastV A h)) = R.1 := by rw [← hR.out, hfo.out]
 have h2 : swappedH h (swapN A (swapC z A h.pred (pastV A h))) (swapC z A h.pred (pastV A h)) 3 = R.2 := by rw [← hR.out, hfo.out]
 rw [h1] at C3
 rw [h2]
 clear h1 h2 hfo
 obtain ⟨A9, h9⟩ := R
 simp only at C3 ⊢
 have C5 := C3.aside QF3 (by decide) (by decide) (by decide) (by decide) (by decide) (by decide) (only_setCells (w.heap.size + 1 + 1) (hdC h9) 0 w3)
 have KB5 : Below base w (w3.setCells (w.heap.size + 1 + 1) 0 (hdC h9)) := Below.setCells (by omega) _ _ _ KB3
 go_wp2_with (refine wpList_store_mid rfl 36 (.tmp 6) _ rfl (w.heap.size + 1 + 1) 0 (hdC (h9)).toArray ?hx9 ?hy9 ?ht9 (sizeHand _) (oneHand _) ?_)
 try (case hx9 => rfl)
 try (case hy9 => rfl)
 try (case ht9 => exact F3)
 rw [Exit.noGoto_ret]
 refine bodyPost_ret (v := .agg (hdC h9).toArray) ?_ rfl ⟨_, _, by rw [hR.out], by rw [hR.out]; exact C5, KB5⟩
 exact results_row Tryz.results27 _ _ (w.heap.size + 1 + 1) 0 rfl (hdC h9) _ (World.rangeAt_setCells_same _ _ _ _ F3) Tryz.underlying36 rfl (sizeHandL _)
end
end Go.Proofs.YtlfjhcdjgoeafaaGreatDoor
