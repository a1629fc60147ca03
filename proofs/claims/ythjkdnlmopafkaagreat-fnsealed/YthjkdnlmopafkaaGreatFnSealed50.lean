/-
  What the law's proof goes by, part 51.
-/
import Derived.Laws.EntriesVeiled
import Derived.BigQuiet
import Derived.Test.YthjkdnlmopafkaaGreatFnSealed00
import Derived.Test.YthjkdnlmopafkaaGreatFnSealed03
import Derived.Test.YthjkdnlmopafkaaGreatFnSealed16
import Derived.Test.YthjkdnlmopafkaaGreatFnSealed18
import Derived.Test.YthjkdnlmopafkaaGreatFnSealed25
import Derived.Test.YthjkdnlmopafkaaGreatFnSealed49
namespace Go.Proofs.YthjkdnlmopafkaaGreat
open Go.ChangeShapes Go.WideShapes Go.ChangeAt Go.RowKit
set_option maxRecDepth 100000
set_option maxHeartbeats 16000000
set_option linter.unusedVariables false
set_option linter.unusedSimpArgs false
set_option linter.unnecessarySimpa false
set_option linter.unusedSectionVars false
section
attribute [local go_sem ↓] Go.wp_at_zero Go.wp_at_succ
theorem qzew (n : Int) (w : World) : Calls Tryz.prog 132 #[.int .i64 n] w fun e w' => e = .returned (.func (.func 150) #[] #[.pointer (some ⟨Q7b, 0, none⟩)]) /\ w' = w.alloc (.cells #[.int .i64 n] 2) := by
 go_enter Tryz.func132, Tryz.ntmps132
 go_wp2
 go_ret
 exact ⟨rfl, rfl⟩
def qzgd (b : Nat) : Value := .agg Q0r
def wayV (b : Nat) (k : Int) : Value :=
 if k = 0 then .func (.func 150) #[] Q50 else if k = 1 then .func (.func 133) #[] #[] else if k = 2 then .func (.func 134) #[] #[] else if k = 3 then .func (.func 135) #[] #[] else if k = 4 then .func (.func 150) #[] Q73 else if k = 5 then .func (.func 150) #[] Q72 else if k = 6 then .func (.func 136) #[] #[] else .func (.func 137) #[] #[]
structure qz94 (lo : Nat) (w : World) (b : Nat) : Prop where
 lo : lo <= b
 hi : b + 2 < Q7b
 c0 : w.cell? ⟨b, 0, none⟩ = some (.int .i64 0)
 c1 : w.cell? ⟨b + 1, 0, none⟩ = some (.int .i64 10)
 c2 : w.cell? ⟨b + 2, 0, none⟩ = some (.int .i64 12)
theorem qz94.below {lo : Nat} {w w' : World} {b : Nat} (h : qz94 lo w b) (hb : Below Q7b w w') : qz94 lo w' b :=
 ⟨h.lo, Q7o h.hi hb.size, (hb.cell (p := ⟨b, 0, none⟩) (by show b < Q7b; have := h.hi; omega)).trans h.c0, (hb.cell (p := ⟨b + 1, 0, none⟩) (by show b + 1 < Q7b; have := h.hi; omega)).trans h.c1, (hb.cell (p := ⟨b + 2, 0, none⟩) (by show b + 2 < Q7b; have := h.hi; omega)).trans h.c2⟩
theorem qzcx (w : World) : Calls Tryz.prog 96 #[] w fun e w' => ∃ b, e = .returned (qzgd b) /\ qz94 Q7b w' b /\ Below Q7b w w' := by
 go_enter Tryz.func96, Tryz.ntmps96
 go_wp2_with (go_at_call 132; refine (qzew _ _).mono ?_; rintro e w' ⟨rfl, hw⟩; obtain rfl := hw.symm)
 have C0 := fun O => Q7n (Q7n (qz6 (w.alloc O) [.int .i64 0] 2) (.cells #[.int .i64 10] 2)) (.cells #[.int .i64 12] 2)
 have C1 := fun O => Q7n (qz6 ((w.alloc O).alloc (.cells #[.int .i64 0] 2)) [.int .i64 10] 2) (.cells #[.int .i64 12] 2)
 have C2 := fun O => qz6 (((w.alloc O).alloc (.cells #[.int .i64 0] 2)).alloc (.cells #[.int .i64 10] 2)) [.int .i64 12] 2
 simp only [World.size_alloc] at C0 C1 C2
 refine bodyPost_ret (v := qzgd (Q7b + 1)) ?_ rfl ⟨Q7b + 1, rfl, ⟨by omega, by simp, by simpa using C0 _ 0 _ rfl, by simpa using C1 _ 0 _ rfl, by simpa using C2 _ 0 _ rfl⟩, (((Q7g _ _).alloc (Q7l _) _).alloc (by simp) _ |>.alloc (by simp; omega) _).alloc (by simp; omega) _⟩
 exact qz3 Tryz.results96 _ _ Q7b 0 rfl Q34 _ (Q7n (Q7n (Q7n (qz6 w Q34 154) _) _) _) Tryz.underlying154 rfl (by show _ = some 8; kernel_rfl)
theorem qzh6 (b : Nat) (w : World) : (Instr.index 154 (.agg Q0r) (.int .i64 0)).run Tryz.prog w = .ok (.func (.func 150) #[] Q50) w := by kernel_rfl
theorem qzhf (b : Nat) (w : World) : (Instr.index 154 (.agg Q0r) (.int .i64 1)).run Tryz.prog w = .ok (.func (.func 133) #[] #[]) w := by kernel_rfl
theorem qzhl (b : Nat) (w : World) : (Instr.index 154 (.agg Q0r) (.int .i64 2)).run Tryz.prog w = .ok (.func (.func 134) #[] #[]) w := by kernel_rfl
theorem qzhi (b : Nat) (w : World) : (Instr.index 154 (.agg Q0r) (.int .i64 3)).run Tryz.prog w = .ok (.func (.func 135) #[] #[]) w := by kernel_rfl
theorem qzh7 (b : Nat) (w : World) : (Instr.index 154 (.agg Q0r) (.int .i64 4)).run Tryz.prog w = .ok (.func (.func 150) #[] Q73) w := by kernel_rfl
theorem qzhd (b : Nat) (w : World) : (Instr.index 154 (.agg Q0r) (.int .i64 5)).run Tryz.prog w = .ok (.func (.func 150) #[] Q72) w := by kernel_rfl
theorem qzhj (b : Nat) (w : World) : (Instr.index 154 (.agg Q0r) (.int .i64 6)).run Tryz.prog w = .ok (.func (.func 136) #[] #[]) w := by kernel_rfl
theorem qzhb (b : Nat) (w : World) : (Instr.index 154 (.agg Q0r) (.int .i64 7)).run Tryz.prog w = .ok (.func (.func 137) #[] #[]) w := by kernel_rfl
def qzhg (lo b0 : Nat) (A : Ar) (a0 a1 a2 : Option Addr) (c0 c1 c2 c3 : Nat) (bb off v : Nat) (h : Hd) (m : Vr) : Nat -> Value -> World -> Prop
 | 0, x, w => ∃ b, x = qzgd b /\ qz94 lo w b
 | 1, x, _ => x = .pointer (some ⟨b0 + 1, 1, none⟩)
 | 2, x, _ => x = .int .i64 h.then_
 | 3, x, w => ∃ b, x = wayV b h.then_ /\ qz94 lo w b
 | 4, x, _ => x = .agg Q1t
 | 5, x, _ => x = .agg (hdC h).toArray
 | 6, x, _ => x = .pointer (some ⟨b0, 4, none⟩)
 | 7, x, _ => x = .slice (some ⟨bb, off, none⟩) Q7h c3
 | 8, x, _ => x = .pointer (some ⟨b0 + 1, 11, none⟩)
 | 9, x, _ => x = .int .i64 (v : Int)
 | 10, x, _ => x = .pointer (some ⟨bb, off + v * 5, none⟩)
 | 11, x, _ => x = .agg #[.int .i64 m.next, .bool m.gone, .int .i64 m.stamp, .int .i64 m.prev, .int .i64 m.kind]
 | _, _, _ => True
theorem qze1 {lo b0 : Nat} {A : Ar} {a0 a1 a2 : Option Addr} {c0 c1 c2 c3 : Nat} {bb off v : Nat} {h : Hd} {m : Vr} (i : Nat) (x : Value) (w w' : World) (hq : qzhg lo b0 A a0 a1 a2 c0 c1 c2 c3 bb off v h m i x w) (hb : Below Q7b w w') : qzhg lo b0 A a0 a1 a2 c0 c1 c2 c3 bb off v h m i x w' := by
 match i, hq with
 | 0, hq => obtain ⟨b, e, W⟩ := hq; exact ⟨b, e, W.below hb⟩
 | 1, h | 2, h | 4, h | 5, h | 6, h | 7, h | 8, h | 9, h | 10, h | 11, h => exact h
 | 3, hq => obtain ⟨b, e, W⟩ := hq; exact ⟨b, e, W.below hb⟩
 | n + 12, h => exact trivial
theorem qz9h (B : Nat) (A : Ar) (h : Hd) (a0 a1 a2 a3 : Option Addr) (c0 c1 c2 c3 : Nat) (w : World) (hB : B <= Q7b) (hA : A.size <= 1048576) (I : qzv B w Q0u Q0s Q0v Q14 A) (x y z u : Int) (hOk : qz1a x y z u A = true) (hv0 : 0 <= h.ver) (hv1 : h.ver < (Q7h : Int)) (hx0 : 0 <= h.x_) (hx1 : h.x_ < (Q7f : Int)) (hc0 : -1 <= h.curr) (hcu : h.curr < (Q7f : Int)) (hn0 : -1 <= h.new_) (ho0 : 0 <= h.out) (ho1 : h.out <= 1000000) (hs0 : 0 <= h.sum) (hs1 : h.sum <= 1000000) (ht0 : 0 <= h.then_) (ht1 : h.then_ <= 7) :
  Calls Tryz.prog 50 Q4r w fun e w' => e = .returned (.agg (hdC (onH A h)).toArray) /\ Below Q7b w w' := by
 have hA' := hA
 unfold Ar.size at hA
 have X0 := Q7n (Q7n (qz6 w Q0j 33) Q0d) (.cells Q00 53)
 have H0 := Q7n (qz6 Q26 (hdC h) 53) (.cells Q00 53)
 have G0 := Q80 (qza Q26 (hdC h).toArray 53 22 (by simp [hdC])) (.cells Q00 53)
 have F0 := qza ((Q26).alloc Q0d) Q00 53 22 (by decide)
 have K0 := ((((Q7g Q7b w).alloc (Q7l _) (.cells Q02 33)).alloc (by simp) Q0d).alloc (by simp <;> omega) (.cells Q00 53))
 have hz0 : Q7b + 1 + 1 < (((Q26).alloc Q0d).alloc (.cells Q00 53)).heap.size := by simp
 simp only [World.size_alloc] at H0 G0 F0
 have I0 := I.below (K0.mono hB)
 go_enter Tryz.func50, Tryz.ntmps50
 go_wp2_with fail
 generalize hw0 : ((Q26).alloc Q0d).alloc (.cells Q00 53) = w0 at *
 clear hw0 I
 obtain ⟨v, hv⟩ : ∃ v : Nat, h.ver = v := ⟨h.ver.toNat, by omega⟩
 have hvl : v < Q7h := by omega
 have hvl' : (v : Int) < (Q7h : Int) := by omega
 have hvl0 : (0 : Int) <= (v : Int) := by omega
 have hvr : vrOf A h.ver = A.vers[v] := by rw [hv, qz2q A v hvl]
 have hver := qz4f hOk v hvl
 have hval := fun n hn => qz78 hOk n hn
 have ht : h.then_ = 0 ∨ h.then_ = 1 ∨ h.then_ = 2 ∨ h.then_ = 3 ∨ h.then_ = 4 ∨ h.then_ = 5 ∨ h.then_ = 6 ∨ h.then_ = 7 := by omega
 obtain ⟨bb, off, rfl, hbb, R⟩ := qzq.at I0.r (by omega)
 clear R
 have hvH : Hid (h.ver = v) := hv
 refine qz1x 12 (by kernel_rfl) (qzhg Q7r Q7b A a0 a1 a2 c0 c1 c2 c3 bb off v h A.vers[v]) (fun _ => false) (by kernel_rfl) (by kernel_rfl) (by kernel_rfl) (by kernel_rfl) (by rfl) (fun i v w w' _ h hb => qze1 i v w w' h hb) (fun i v w q hf h hq => by cases hf) ?step ?final
 case step =>
  intro i o hik ho a W hb hnn hd K hK
  have XW := qz0 X0 hb (by omega)
  have HW := qz0 H0 hb (by omega)
  have IW := I0.below (hb.mono (Q7u hB K0.size))
  obtain ⟨x0, x1, x2, x3, x4⟩ := row5 XW
  obtain ⟨_, _, e0, hb9, R⟩ := qzq.at IW.r (by omega)
  cases e0
  have V5 := qze (sz := 5) (fun _ => rfl) R v hvl
  have v0 : W.cell? ⟨bb, off + v * 5, none⟩ = some (.int .i64 A.vers[v].next) := by simpa using V5 0 _ rfl
  have v1 : W.cell? ⟨bb, off + v * 5 + 1, none⟩ = some (.bool A.vers[v].gone) := V5 1 _ rfl
  have v2 : W.cell? ⟨bb, off + v * 5 + 2, none⟩ = some (.int .i64 A.vers[v].stamp) := V5 2 _ rfl
  have v3 : W.cell? ⟨bb, off + v * 5 + 3, none⟩ = some (.int .i64 A.vers[v].prev) := V5 3 _ rfl
  have v4 : W.cell? ⟨bb, off + v * 5 + 4, none⟩ = some (.int .i64 A.vers[v].kind) := V5 4 _ rfl
  have q1 : W.cell? ⟨Q7b + 1, 1, none⟩ = some (.int .i64 h.then_) := by simpa using HW 1 (.int .i64 h.then_) rfl
  have q11 : W.cell? ⟨Q7b + 1, 11, none⟩ = some (.int .i64 h.ver) := by simpa using HW 11 (.int .i64 h.ver) rfl
  rw [hv] at q11
  clear R V5 hv
  match i, ho with
  | 0, ho =>
   obtain rfl := Q7i ho
   have ef : a.eval (.func 96) = .func (.func 96) #[] #[] := rfl
   refine qz1u (f := 96) (args := #[]) (R := fun v w' => (∃ b, v = qzgd b /\ qz94 Q7r w' b) /\ Below W.heap.size W w') ?_ ((qzcx W).mono (fun e w' h => by obtain ⟨b, e1, WA, hb'⟩ := h; exact ⟨_, e1, ⟨b, rfl, Q7u hb.size WA.lo, WA.hi, WA.c0, WA.c1, WA.c2⟩, hb'⟩)) (fun v w' h => hK v w' h.1 h.2 (fun h => by cases h))
   generalize a.eval = ev at *
   go_simp
  | 1, ho =>
   obtain rfl := Q7i ho
   have e1 : a.eval (.tmp 3) = .pointer (some ⟨Q7b + 1, 0, none⟩) := hnn 3 rfl
   refine qz4 (v := .pointer (some ⟨Q7b + 1, 1, none⟩)) (w' := W) ?_ (hK _ _ rfl (Q7g _ _) (fun h => by cases h))
   generalize a.eval = ev at *
   go_simp
  | 2, ho =>
   obtain rfl := Q7i ho
   have e1 : a.eval (.tmp 6) = .pointer (some ⟨Q7b + 1, 1, none⟩) := hd ⟨1, .data⟩ (by simp) rfl 6 rfl
   refine qz4 (v := .int .i64 h.then_) (w' := W) ?_ (hK _ _ rfl (Q7g _ _) (fun h => by cases h))
   generalize a.eval = ev at *
   go_simp
  | 3, ho =>
   obtain rfl := Q7i ho
   obtain ⟨b, e1, WA⟩ := (show ∃ b, a.eval (.tmp 5) = qzgd b /\ qz94 Q7r W b from hd ⟨0, .data⟩ (by simp) rfl 5 rfl)
   have e2 : a.eval (.tmp 7) = .int .i64 h.then_ := hd ⟨2, .data⟩ (by simp) rfl 7 rfl
   unfold qzgd at e1
   rcases ht with ek | ek | ek | ek | ek | ek | ek | ek
   ·rw [ek] at e2
    refine qz4 (v := .func (.func 150) #[] Q50) (w' := W) ?_ (hK _ _ ⟨b, by rw [ek]; rfl, WA⟩ (Q7g _ _) (fun h => by cases h))
    clear ek
    have hix := qzh6 b
    generalize a.eval = ev at *
    go_simp
   ·rw [ek] at e2
    refine qz4 (v := .func (.func 133) #[] #[]) (w' := W) ?_ (hK _ _ ⟨b, by rw [ek]; rfl, WA⟩ (Q7g _ _) (fun h => by cases h))
    clear ek
    have hix := qzhf b
    generalize a.eval = ev at *
    go_simp
   ·rw [ek] at e2
    refine qz4 (v := .func (.func 134) #[] #[]) (w' := W) ?_ (hK _ _ ⟨b, by rw [ek]; rfl, WA⟩ (Q7g _ _) (fun h => by cases h))
    clear ek
    have hix := qzhl b
    generalize a.eval = ev at *
    go_simp
   ·rw [ek] at e2
    refine qz4 (v := .func (.func 135) #[] #[]) (w' := W) ?_ (hK _ _ ⟨b, by rw [ek]; rfl, WA⟩ (Q7g _ _) (fun h => by cases h))
    clear ek
    have hix := qzhi b
    generalize a.eval = ev at *
    go_simp
   ·rw [ek] at e2
    refine qz4 (v := .func (.func 150) #[] Q73) (w' := W) ?_ (hK _ _ ⟨b, by rw [ek]; rfl, WA⟩ (Q7g _ _) (fun h => by cases h))
    clear ek
    have hix := qzh7 b
    generalize a.eval = ev at *
    go_simp
   ·rw [ek] at e2
    refine qz4 (v := .func (.func 150) #[] Q72) (w' := W) ?_ (hK _ _ ⟨b, by rw [ek]; rfl, WA⟩ (Q7g _ _) (fun h => by cases h))
    clear ek
    have hix := qzhd b
    generalize a.eval = ev at *
    go_simp
   ·rw [ek] at e2
    refine qz4 (v := .func (.func 136) #[] #[]) (w' := W) ?_ (hK _ _ ⟨b, by rw [ek]; rfl, WA⟩ (Q7g _ _) (fun h => by cases h))
    clear ek
    have hix := qzhj b
    generalize a.eval = ev at *
    go_simp
   ·rw [ek] at e2
    refine qz4 (v := .func (.func 137) #[] #[]) (w' := W) ?_ (hK _ _ ⟨b, by rw [ek]; rfl, WA⟩ (Q7g _ _) (fun h => by cases h))
    clear ek
    have hix := qzhb b
    generalize a.eval = ev at *
    go_simp
  | 4, ho =>
   obtain rfl := Q7i ho
   have e1 : a.eval (.tmp 2) = .pointer (some ⟨Q7b, 0, none⟩) := hnn 2 rfl
   refine qz4 (v := .agg Q1t) (w' := W) ?_ (hK _ _ rfl (Q7g _ _) (fun h => by cases h))
   generalize a.eval = ev at *
   go_simp
  | 5, ho =>
   obtain rfl := Q7i ho
   exact qz2d 53 (.tmp 3) rfl (Q7b + 1) 0 (hnn 3 rfl) (hdC h) _ HW Q7d rfl (qz1 h) (hK _ _ rfl (Q7g _ _) (fun h => by cases h))
  | 6, ho =>
   obtain rfl := Q7i ho
   have e1 : a.eval (.tmp 2) = .pointer (some ⟨Q7b, 0, none⟩) := hnn 2 rfl
   refine qz4 (v := .pointer (some ⟨Q7b, 4, none⟩)) (w' := W) ?_ (hK _ _ rfl (Q7g _ _) (fun h => by cases h))
   generalize a.eval = ev at *
   go_simp
  | 7, ho =>
   obtain rfl := Q7i ho
   have e1 : a.eval (.tmp 11) = .pointer (some ⟨Q7b, 4, none⟩) := hd ⟨6, .data⟩ (by simp) rfl 11 rfl
   refine qz4 (v := .slice (some ⟨bb, off, none⟩) Q7h c3) (w' := W) ?_ (hK _ _ rfl (Q7g _ _) (fun h => by cases h))
   generalize a.eval = ev at *
   go_simp
  | 8, ho =>
   obtain rfl := Q7i ho
   have e1 : a.eval (.tmp 3) = .pointer (some ⟨Q7b + 1, 0, none⟩) := hnn 3 rfl
   refine qz4 (v := .pointer (some ⟨Q7b + 1, 11, none⟩)) (w' := W) ?_ (hK _ _ rfl (Q7g _ _) (fun h => by cases h))
   generalize a.eval = ev at *
   go_simp
  | 9, ho =>
   obtain rfl := Q7i ho
   have e1 : a.eval (.tmp 13) = .pointer (some ⟨Q7b + 1, 11, none⟩) := hd ⟨8, .data⟩ (by simp) rfl 13 rfl
   refine qz4 (v := .int .i64 (v : Int)) (w' := W) ?_ (hK _ _ rfl (Q7g _ _) (fun h => by cases h))
   generalize a.eval = ev at *
   go_simp
  | 10, ho =>
   obtain rfl := Q7i ho
   have e1 : a.eval (.tmp 12) = .slice (some ⟨bb, off, none⟩) Q7h c3 := hd ⟨7, .data⟩ (by simp) rfl 12 rfl
   have e2 : a.eval (.tmp 14) = .int .i64 (v : Int) := hd ⟨9, .data⟩ (by simp) rfl 14 rfl
   refine qz4 (v := .pointer (some ⟨bb, off + v * 5, none⟩)) (w' := W) ?_ (hK _ _ rfl (Q7g _ _) (fun h => by cases h))
   generalize a.eval = ev at *
   go_simp
  | 11, ho =>
   obtain rfl := Q7i ho
   have e1 : a.eval (.tmp 15) = .pointer (some ⟨bb, off + v * 5, none⟩) := hd ⟨10, .data⟩ (by simp) rfl 15 rfl
   refine qz4 (v := .agg Q17) (w' := W) ?_ (hK _ _ rfl (Q7g _ _) (fun h => by cases h))
   generalize a.eval = ev at *
   go_simp
  | n + 12, ho => omega
 case final =>
  intro vs W hb hG _
  obtain ⟨b, g3, WA⟩ := (show ∃ b, vs 3 = wayV b h.then_ /\ qz94 Q7r W b from hG 3 (by decide))
  have g4 : vs 4 = .agg Q1t := hG 4 (by decide)
  have g5 : vs 5 = .agg (hdC h).toArray := hG 5 (by decide)
  have g11 : vs 11 = .agg Q17 := hG 11 (by decide)
  have F1 := qz2 F0 hb (by omega)
  have K1 := K0.trans (hb.mono (by omega))
  have I1 := I0.below (hb.mono (Q7u hB K0.size))
  have hz1 := Q7o hz0 hb.size
  generalize hl : laid _ vs _ _ _ = A'
  have hA'' : A' = { tmps := #[.agg Q1t, .agg (hdC h).toArray, .pointer (some ⟨Q7b, 0, none⟩), .pointer (some ⟨Q7b + 1, 0, none⟩), .pointer (some ⟨Q7b + 1 + 1, 0, none⟩), vs 0, vs 1, vs 2, vs 3, vs 4, vs 5, vs 6, vs 7, vs 8, vs 9, vs 10, vs 11, undef], defers := [] } := by
   rw [<- hl]
   kernel_rfl
  subst hA''
  rw [g4, g5, g11]
  clear hl hG g4 g5 g11 hb X0 H0 G0 F0 K0 I0 hz0
  simp only [List.drop_succ_cons, List.drop_zero]
  have wlo := WA.lo
  have whi := WA.hi
  rcases ht with ek | ek | ek | ek | ek | ek | ek | ek
  ·have hvv : Hid (onH A h = qz1k h 0) := by show _ = _; simp [onH, ek, qz1k]
   have g3' : vs 3 = .func (.func 150) #[] Q50 := by rw [g3, ek]; rfl
   rw [g3']
   clear g3 g3' ek hv
   go_wp2_with fail
   refine (qz6d B A h A.vers[v] b 0 _ _ _ _ _ _ _ _ _ (by omega) hA' I1 (by omega) WA.c0).mono ?_
   rintro e w2 ⟨rfl, b2⟩
   have F2 := qz2 F1 b2 (by omega)
   have K2 := K1.trans (b2.mono (by omega))
   go_wp2_with (refine Q7e rfl 53 (.tmp 4) _ rfl (Q7b + 1 + 1) 0 (hdC (qz1k h 0)).toArray ?hxn91 ?hyn91 ?htn91 (qz7 _) (qzd _) ?_)
   try (case hxn91 => rfl)
   try (case hyn91 => rfl)
   case htn91 => exact F2
   refine bodyPost_ret (v := .agg (hdC (qz1k h 0)).toArray) ?_ rfl ⟨by rw [hvv.out], ?_⟩
   ·exact qz3 Tryz.results50 _ _ (Q7b + 1 + 1) 0 rfl (hdC (qz1k h 0)) _ (Q7c _ _ _ _ F2) Q7d rfl (qz1 _)
   ·exact Below.setCells (by omega) _ _ _ K2
  ·have hvv : Hid (onH A h = qz7v A h A.vers[v]) := by show _ = _; simp [onH, ek, hvr, qz7v]
   have g3' : vs 3 = .func (.func 133) #[] #[] := by rw [g3, ek]; rfl
   rw [g3']
   clear g3 g3' ek hv
   go_wp2_with fail
   refine (qzcd B A h A.vers[v] _ _ _ _ _ _ _ _ _ (by omega) hA' I1 hn0).mono ?_
   rintro e w2 ⟨rfl, b2⟩
   have F2 := qz2 F1 b2 (by omega)
   have K2 := K1.trans (b2.mono (by omega))
   go_wp2_with (refine Q7e rfl 53 (.tmp 4) _ rfl (Q7b + 1 + 1) 0 (hdC (qz7v A h A.vers[v])).toArray ?hxn92 ?hyn92 ?htn92 (qz7 _) (qzd _) ?_)
   try (case hxn92 => rfl)
   try (case hyn92 => rfl)
   case htn92 => exact F2
   refine bodyPost_ret (v := .agg (hdC (qz7v A h A.vers[v])).toArray) ?_ rfl ⟨by rw [hvv.out], ?_⟩
   ·exact qz3 Tryz.results50 _ _ (Q7b + 1 + 1) 0 rfl (hdC (qz7v A h A.vers[v])) _ (Q7c _ _ _ _ F2) Q7d rfl (qz1 _)
   ·exact Below.setCells (by omega) _ _ _ K2
  ·have hvv : Hid (onH A h = goH A h A.vers[v]) := by show _ = _; simp [onH, ek, hvr, goH]
   have g3' : vs 3 = .func (.func 134) #[] #[] := by rw [g3, ek]; rfl
   rw [g3']
   clear g3 g3' ek hv
   go_wp2_with fail
   refine (qzas B A h A.vers[v] _ _ _ _ _ _ _ _ _ (by omega) hA' I1 hc0 hcu hn0).mono ?_
   rintro e w2 ⟨rfl, b2⟩
   have F2 := qz2 F1 b2 (by omega)
   have K2 := K1.trans (b2.mono (by omega))
   go_wp2_with (refine Q7e rfl 53 (.tmp 4) _ rfl (Q7b + 1 + 1) 0 (hdC (goH A h A.vers[v])).toArray ?hxn93 ?hyn93 ?htn93 (qz7 _) (qzd _) ?_)
   try (case hxn93 => rfl)
   try (case hyn93 => rfl)
   case htn93 => exact F2
   refine bodyPost_ret (v := .agg (hdC (goH A h A.vers[v])).toArray) ?_ rfl ⟨by rw [hvv.out], ?_⟩
   ·exact qz3 Tryz.results50 _ _ (Q7b + 1 + 1) 0 rfl (hdC (goH A h A.vers[v])) _ (Q7c _ _ _ _ F2) Q7d rfl (qz1 _)
   ·exact Below.setCells (by omega) _ _ _ K2
  ·have hvv : Hid (onH A h = qz3q A { h with predVer := h.ver } A.vers[v].next) := by show _ = _; simp [onH, ek, hvr]
   have g3' : vs 3 = .func (.func 135) #[] #[] := by rw [g3, ek]; rfl
   rw [g3']
   clear g3 g3' ek hv
   go_wp2_with fail
   refine (qzb7 B A h A.vers[v] _ _ _ _ _ _ _ _ _ (by omega) hA' I1 hn0).mono ?_
   rintro e w2 ⟨rfl, b2⟩
   have F2 := qz2 F1 b2 (by omega)
   have K2 := K1.trans (b2.mono (by omega))
   go_wp2_with (refine Q7e rfl 53 (.tmp 4) _ rfl (Q7b + 1 + 1) 0 (hdC (qz3q A { h with predVer := h.ver } A.vers[v].next)).toArray ?hxn94 ?hyn94 ?htn94 (qz7 _) (qzd _) ?_)
   try (case hxn94 => rfl)
   try (case hyn94 => rfl)
   case htn94 => exact F2
   refine bodyPost_ret (v := .agg (hdC (qz3q A { h with predVer := h.ver } A.vers[v].next)).toArray) ?_ rfl ⟨by rw [hvv.out], ?_⟩
   ·exact qz3 Tryz.results50 _ _ (Q7b + 1 + 1) 0 rfl (hdC (qz3q A { h with predVer := h.ver } A.vers[v].next)) _ (Q7c _ _ _ _ F2) Q7d rfl (qz1 _)
   ·exact Below.setCells (by omega) _ _ _ K2
  ·have hvv : Hid (onH A h = qz1k h 10) := by show _ = _; simp [onH, ek, qz1k]
   have g3' : vs 3 = .func (.func 150) #[] Q73 := by rw [g3, ek]; rfl
   rw [g3']
   clear g3 g3' ek hv
   go_wp2_with fail
   refine (qz6d B A h A.vers[v] (b + 1) 10 _ _ _ _ _ _ _ _ _ (by omega) hA' I1 (by omega) WA.c1).mono ?_
   rintro e w2 ⟨rfl, b2⟩
   have F2 := qz2 F1 b2 (by omega)
   have K2 := K1.trans (b2.mono (by omega))
   go_wp2_with (refine Q7e rfl 53 (.tmp 4) _ rfl (Q7b + 1 + 1) 0 (hdC (qz1k h 10)).toArray ?hxn95 ?hyn95 ?htn95 (qz7 _) (qzd _) ?_)
   try (case hxn95 => rfl)
   try (case hyn95 => rfl)
   case htn95 => exact F2
   refine bodyPost_ret (v := .agg (hdC (qz1k h 10)).toArray) ?_ rfl ⟨by rw [hvv.out], ?_⟩
   ·exact qz3 Tryz.results50 _ _ (Q7b + 1 + 1) 0 rfl (hdC (qz1k h 10)) _ (Q7c _ _ _ _ F2) Q7d rfl (qz1 _)
   ·exact Below.setCells (by omega) _ _ _ K2
  ·have hvv : Hid (onH A h = qz1k h 12) := by show _ = _; simp [onH, ek, qz1k]
   have g3' : vs 3 = .func (.func 150) #[] Q72 := by rw [g3, ek]; rfl
   rw [g3']
   clear g3 g3' ek hv
   go_wp2_with fail
   refine (qz6d B A h A.vers[v] (b + 2) 12 _ _ _ _ _ _ _ _ _ (by omega) hA' I1 (by omega) WA.c2).mono ?_
   rintro e w2 ⟨rfl, b2⟩
   have F2 := qz2 F1 b2 (by omega)
   have K2 := K1.trans (b2.mono (by omega))
   go_wp2_with (refine Q7e rfl 53 (.tmp 4) _ rfl (Q7b + 1 + 1) 0 (hdC (qz1k h 12)).toArray ?hxn96 ?hyn96 ?htn96 (qz7 _) (qzd _) ?_)
   try (case hxn96 => rfl)
   try (case hyn96 => rfl)
   case htn96 => exact F2
   refine bodyPost_ret (v := .agg (hdC (qz1k h 12)).toArray) ?_ rfl ⟨by rw [hvv.out], ?_⟩
   ·exact qz3 Tryz.results50 _ _ (Q7b + 1 + 1) 0 rfl (hdC (qz1k h 12)) _ (Q7c _ _ _ _ F2) Q7d rfl (qz1 _)
   ·exact Below.setCells (by omega) _ _ _ K2
  ·have hvv : Hid (onH A h = qz5g A h A.vers[v]) := by show _ = _; simp [onH, ek, hvr, qz5g]
   have g3' : vs 3 = .func (.func 136) #[] #[] := by rw [g3, ek]; rfl
   rw [g3']
   clear g3 g3' ek hv
   go_wp2_with fail
   refine (qz9e B A h A.vers[v] _ _ _ _ _ _ _ _ _ (by omega) hA' I1 hvr hx0 hx1 (by omega) (by omega) ho0 ho1 hs0 hs1 hval).mono ?_
   rintro e w2 ⟨rfl, b2⟩
   have F2 := qz2 F1 b2 (by omega)
   have K2 := K1.trans (b2.mono (by omega))
   go_wp2_with (refine Q7e rfl 53 (.tmp 4) _ rfl (Q7b + 1 + 1) 0 (hdC (qz5g A h A.vers[v])).toArray ?hxn97 ?hyn97 ?htn97 (qz7 _) (qzd _) ?_)
   try (case hxn97 => rfl)
   try (case hyn97 => rfl)
   case htn97 => exact F2
   refine bodyPost_ret (v := .agg (hdC (qz5g A h A.vers[v])).toArray) ?_ rfl ⟨by rw [hvv.out], ?_⟩
   ·exact qz3 Tryz.results50 _ _ (Q7b + 1 + 1) 0 rfl (hdC (qz5g A h A.vers[v])) _ (Q7c _ _ _ _ F2) Q7d rfl (qz1 _)
   ·exact Below.setCells (by omega) _ _ _ K2
  ·have hvv : Hid (onH A h = qze8 h A.vers[v]) := by show _ = _; simp [onH, ek, hvr, qze8]
   have g3' : vs 3 = .func (.func 137) #[] #[] := by rw [g3, ek]; rfl
   rw [g3']
   clear g3 g3' ek hv
   go_wp2_with fail
   refine (qzc1 B A h A.vers[v] _ _ _ _ _ _ _ _ _ (by omega) hA' I1).mono ?_
   rintro e w2 ⟨rfl, b2⟩
   have F2 := qz2 F1 b2 (by omega)
   have K2 := K1.trans (b2.mono (by omega))
   go_wp2_with (refine Q7e rfl 53 (.tmp 4) _ rfl (Q7b + 1 + 1) 0 (hdC (qze8 h A.vers[v])).toArray ?hxn98 ?hyn98 ?htn98 (qz7 _) (qzd _) ?_)
   try (case hxn98 => rfl)
   try (case hyn98 => rfl)
   case htn98 => exact F2
   refine bodyPost_ret (v := .agg (hdC (qze8 h A.vers[v])).toArray) ?_ rfl ⟨by rw [hvv.out], ?_⟩
   ·exact qz3 Tryz.results50 _ _ (Q7b + 1 + 1) 0 rfl (hdC (qze8 h A.vers[v])) _ (Q7c _ _ _ _ F2) Q7d rfl (qz1 _)
   ·exact Below.setCells (by omega) _ _ _ K2
end
section
open Go.ChangeShapes Go.WideShapes Go.ChangeAt Go.RowKit Go.Sort
attribute [local go_sem ↓] Go.wp_at_zero Go.wp_at_succ
def fitB (x y z u : Int) (A : Ar) (me : Int) (h : Hd) (clk : Int) : Bool := qz1a x y z u A && qz3m x y z u h && inB me 0 (x - 1) && inB clk 0 20000 && qz2e A h
theorem qz9j {x y z u : Int} {h : Hd} (e : qz3m x y z u h = true) : 1 <= x /\ x <= 8 := by
 unfold qz3m at e
 simp only [Bool.and_eq_true] at e
 have := (qz2h x y z u).1 e.1.1
 omega
theorem qz1j {P : Program} {ops : Array Oper} {C : World -> Prop} {Q : Act -> Prop} {a : Act} {o : Oper} {rest : List Oper} (hwn : Region.wanted o (yielded ops a.tmps) = true) (v : Value) (hv : ∀ w, C w -> (execOp a.eval o).run P w = .ok (.value v) w)
  (h : wpQuiet P ops C Q rest (a.put o.dst v)) : wpQuiet P ops C Q (o :: rest) a := by
 refine wpQuiet_step fun K hK => ?_
 rw [if_pos hwn]
 refine ⟨v, fun w hw => ?_, hK _ h⟩
 unfold Oper.quietAt
 rw [hv w hw]
 exact ⟨rfl, rfl⟩
theorem qz8g (B : Nat) (A : Ar) (x y z u me : Int) (h : Hd) (clk : Int) (a0 a1 a2 a3 : Option Addr) (c0 c1 c2 c3 : Nat) (w : World) (hB : B <= Q7b) (hA : A.size <= 1048576) (I : qzv B w Q0u Q0s Q0v Q14 A) :
  Calls Tryz.prog 26 Q53 w fun e w' => e = .returned (.bool (fitB x y z u A me h clk)) /\ Below Q7b w w' := by
 have hA' := hA
 unfold Ar.size at hA
 have P0 := Q7n (Q7n (qz6 w Q0q 28) (.cells Q02 33)) Q0d
 have X0 := Q7n (qz6 Q4y Q0j 33) Q0d
 have H0 := qz6 Q2g (hdC h) 53
 have K0 := (((Q7g Q7b w).alloc (Q7l _) (.cells Q06 28)).alloc (by simp) (.cells Q02 33)).alloc (by simp; omega) Q0d
 have hz0 : Q7b + 1 + 1 < ((Q2g).alloc Q0d).heap.size := by simp
 simp only [World.size_alloc] at X0 H0
 have I0 := I.below (K0.mono hB)
 go_enter Tryz.func26, Tryz.ntmps26
 go_wp2_with fail
 generalize hw0 : (Q2g).alloc Q0d = w0 at *
 clear hw0 I
 have hB0 : B <= Q7r := Q7u hB K0.size
 refine (qz5k B A x y z u a0 a1 a2 a3 c0 c1 c2 c3 _ hB0 hA' I0).mono ?_
 rintro e w1 ⟨rfl, b0⟩
 have P1 := qz0 P0 b0 (by omega)
 have X1 := qz0 X0 b0 (by omega)
 have H1 := qz0 H0 b0 (by omega)
 have K1 := K0.trans (b0.mono (by omega))
 have I1 := I0.below (b0.mono hB0)
 have hz1 := Q7o hz0 b0.size
 have hB1 := Q7u hB0 b0.size
 clear P0 X0 H0 K0 I0 hz0 hB0 b0
 have p0 : w1.cell? ⟨Q7b, 0, none⟩ = some (.int .i64 x) := by simpa using P1 0 (.int .i64 x) rfl
 have p1 : w1.cell? ⟨Q7b, 1, none⟩ = some (.int .i64 y) := by simpa using P1 1 (.int .i64 y) rfl
 have p2 : w1.cell? ⟨Q7b, 2, none⟩ = some (.int .i64 z) := by simpa using P1 2 (.int .i64 z) rfl
 have p3 : w1.cell? ⟨Q7b, 3, none⟩ = some (.int .i64 u) := by simpa using P1 3 (.int .i64 u) rfl
 obtain ⟨x0, x1, x2, x3, x4⟩ := row5 X1
 cases e1 : qz1a x y z u A
 case false =>
  have hv : Hid (fitB x y z u A me h clk = false) := by show _ = _; simp [fitB, e1]
  go_wp2_with (first | (go_at_call 63; refine (qzg _ _ _ _).mono ?_; rintro e w' ⟨rfl, hw⟩; obtain rfl := hw.symm) | (go_at_call 64; refine (qz14 _ _).mono ?_; rintro e w' ⟨rfl, hw⟩; obtain rfl := hw.symm))
  go_ret
  exact ⟨by rw [hv.out]; rfl, K1⟩
 go_wp2_with (refine qz11 ?hw1 53 (.tmp 8) rfl (Q7b + 1 + 1) 0 ?hx1 (hdC h) _ ?hc1 Q7d rfl (qz1 h) ?_)
 try (case hw1 => first | rfl | kernel_rfl)
 try (case hx1 => rfl)
 try (case hc1 => exact H1)
 refine (qz4z x y z u h _).mono ?_
 clear p0 p1 p2 p3 x0 x1 x2 x3 x4
 rintro e w2 ⟨rfl, b1⟩
 have P2 := qz0 P1 b1 (by omega)
 have X2 := qz0 X1 b1 (by omega)
 have H2 := qz0 H1 b1 (by omega)
 have K2 := K1.trans (b1.mono (by omega))
 have I2 := I1.below (b1.mono hB1)
 have hz2 := Q7o hz1 b1.size
 have hB2 := Q7u hB1 b1.size
 clear P1 X1 H1 K1 I1 hz1 hB1 b1
 have p0 : w2.cell? ⟨Q7b, 0, none⟩ = some (.int .i64 x) := by simpa using P2 0 (.int .i64 x) rfl
 have p1 : w2.cell? ⟨Q7b, 1, none⟩ = some (.int .i64 y) := by simpa using P2 1 (.int .i64 y) rfl
 have p2 : w2.cell? ⟨Q7b, 2, none⟩ = some (.int .i64 z) := by simpa using P2 2 (.int .i64 z) rfl
 have p3 : w2.cell? ⟨Q7b, 3, none⟩ = some (.int .i64 u) := by simpa using P2 3 (.int .i64 u) rfl
 obtain ⟨x0, x1, x2, x3, x4⟩ := row5 X2
 cases e2 : qz3m x y z u h
 case false =>
  have hv : Hid (fitB x y z u A me h clk = false) := by show _ = _; simp [fitB, e1, e2]
  go_wp2_with (first | (go_at_call 63; refine (qzg _ _ _ _).mono ?_; rintro e w' ⟨rfl, hw⟩; obtain rfl := hw.symm) | (go_at_call 64; refine (qz14 _ _).mono ?_; rintro e w' ⟨rfl, hw⟩; obtain rfl := hw.symm))
  go_ret
  exact ⟨by rw [hv.out]; rfl, K2⟩
 have hpl := qz9j e2
 cases e3 : inB me 0 (x - 1)
 case false =>
  have hv : Hid (fitB x y z u A me h clk = false) := by show _ = _; simp [fitB, e1, e2, e3]
  go_wp2_with (first | (go_at_call 63; refine (qzg _ _ _ _).mono ?_; rintro e w' ⟨rfl, hw⟩; obtain rfl := hw.symm) | (go_at_call 64; refine (qz14 _ _).mono ?_; rintro e w' ⟨rfl, hw⟩; obtain rfl := hw.symm))
  go_ret
  exact ⟨by rw [hv.out]; rfl, K2⟩
 cases e4 : inB clk 0 20000
 case false =>
  have hv : Hid (fitB x y z u A me h clk = false) := by show _ = _; simp [fitB, e1, e2, e3, e4]
  go_wp2_with (first | (go_at_call 63; refine (qzg _ _ _ _).mono ?_; rintro e w' ⟨rfl, hw⟩; obtain rfl := hw.symm) | (go_at_call 64; refine (qz14 _ _).mono ?_; rintro e w' ⟨rfl, hw⟩; obtain rfl := hw.symm))
  go_ret
  exact ⟨by rw [hv.out]; rfl, K2⟩
 go_wp2_with (first | (go_at_call 63; refine (qzg _ _ _ _).mono ?_; rintro e w' ⟨rfl, hw⟩; obtain rfl := hw.symm) | (go_at_call 64; refine (qz14 _ _).mono ?_; rintro e w' ⟨rfl, hw⟩; obtain rfl := hw.symm) | (refine qz11 ?hw2 53 (.tmp 8) rfl (Q7b + 1 + 1) 0 ?hx2 (hdC h) _ ?hc2 Q7d rfl (qz1 h) ?_))
 try (case hw2 => first | rfl | kernel_rfl)
 try (case hx2 => rfl)
 try (case hc2 => exact H2)
 refine (qz8i A h a0 a1 a2 a3 c0 c1 c2 c3 _ hA').mono ?_
 clear p0 p1 p2 p3 x0 x1 x2 x3 x4
 rintro e w3 ⟨rfl, b2⟩
 have P3 := qz0 P2 b2 (by omega)
 have X3 := qz0 X2 b2 (by omega)
 have H3 := qz0 H2 b2 (by omega)
 have K3 := K2.trans (b2.mono (by omega))
 have I3 := I2.below (b2.mono hB2)
 have hz3 := Q7o hz2 b2.size
 have hB3 := Q7u hB2 b2.size
 clear P2 X2 H2 K2 I2 hz2 hB2 b2
 have hv : Hid (fitB x y z u A me h clk = qz2e A h) := by show _ = _; simp [fitB, e1, e2, e3, e4]
 go_wp2_with fail
 go_ret
 exact ⟨by rw [hv.out]; rfl, K3⟩
end
end Go.Proofs.YthjkdnlmopafkaaGreat
