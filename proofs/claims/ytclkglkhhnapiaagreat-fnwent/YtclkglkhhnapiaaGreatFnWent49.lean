/-
  What the law's proof goes by, part 50.
-/
import Derived.Laws.EntriesVeiled
import Derived.Test.YtclkglkhhnapiaaGreatFnWent00
import Derived.Test.YtclkglkhhnapiaaGreatFnWent02
import Derived.Test.YtclkglkhhnapiaaGreatFnWent17
import Derived.Test.YtclkglkhhnapiaaGreatFnWent48
namespace Go.Proofs.YtclkglkhhnapiaaGreat
open Go.ChangeShapes Go.WideShapes Go.ChangeAt Go.RowKit
set_option maxRecDepth 100000
set_option maxHeartbeats 16000000
set_option linter.unusedVariables false
set_option linter.unusedSimpArgs false
set_option linter.unnecessarySimpa false
set_option linter.unusedSectionVars false
section
attribute [local go_sem ↓] Go.wp_at_zero Go.wp_at_succ
theorem qzdb (n : Int) (w : World) : Calls Tryz.prog 130 #[.int .i64 n] w fun e w' => e = .returned (.func (.func 157) #[] #[.pointer (some ⟨w.heap.size, 0, none⟩)]) /\ w' = w.alloc (.cells #[.int .i64 n] 2) := by
 go_enter Tryz.func130, Tryz.ntmps130
 go_wp2
 go_ret
 exact ⟨rfl, rfl⟩
def qzek (b : Nat) : Value := .agg Q0t
def wayV (b : Nat) (k : Int) : Value :=
 if k = 0 then .func (.func 157) #[] #[.pointer (some ⟨b, 0, none⟩)] else if k = 1 then .func (.func 131) #[] #[] else if k = 2 then .func (.func 132) #[] #[] else if k = 3 then .func (.func 133) #[] #[] else if k = 4 then .func (.func 157) #[] #[.pointer (some ⟨b + 1, 0, none⟩)] else if k = 5 then .func (.func 157) #[] #[.pointer (some ⟨b + 2, 0, none⟩)] else if k = 6 then .func (.func 134) #[] #[] else .func (.func 135) #[] #[]
structure qz7v (lo : Nat) (w : World) (b : Nat) : Prop where
 lo : lo <= b
 hi : b + 2 < w.heap.size
 c0 : w.cell? ⟨b, 0, none⟩ = some (.int .i64 0)
 c1 : w.cell? ⟨b + 1, 0, none⟩ = some (.int .i64 10)
 c2 : w.cell? ⟨b + 2, 0, none⟩ = some (.int .i64 12)
theorem qz7v.below {lo : Nat} {w w' : World} {b : Nat} (h : qz7v lo w b) (hb : Below w.heap.size w w') : qz7v lo w' b :=
 ⟨h.lo, Nat.lt_of_lt_of_le h.hi hb.size, (hb.cell (p := ⟨b, 0, none⟩) (by show b < w.heap.size; have := h.hi; omega)).trans h.c0, (hb.cell (p := ⟨b + 1, 0, none⟩) (by show b + 1 < w.heap.size; have := h.hi; omega)).trans h.c1, (hb.cell (p := ⟨b + 2, 0, none⟩) (by show b + 2 < w.heap.size; have := h.hi; omega)).trans h.c2⟩
theorem qzaj (w : World) : Calls Tryz.prog 83 #[] w fun e w' => ∃ b, e = .returned (qzek b) /\ qz7v w.heap.size w' b /\ Below w.heap.size w w' := by
 go_enter Tryz.func83, Tryz.ntmps83
 go_wp2_with (go_at_call 130; refine (qzdb _ _).mono ?_; rintro e w' ⟨rfl, hw⟩; obtain rfl := hw.symm)
 have C0 := fun O => World.rangeAt_alloc (World.rangeAt_alloc (qz6 (w.alloc O) [.int .i64 0] 2) (.cells #[.int .i64 10] 2)) (.cells #[.int .i64 12] 2)
 have C1 := fun O => World.rangeAt_alloc (qz6 ((w.alloc O).alloc (.cells #[.int .i64 0] 2)) [.int .i64 10] 2) (.cells #[.int .i64 12] 2)
 have C2 := fun O => qz6 (((w.alloc O).alloc (.cells #[.int .i64 0] 2)).alloc (.cells #[.int .i64 10] 2)) [.int .i64 12] 2
 simp only [World.size_alloc] at C0 C1 C2
 refine bodyPost_ret (v := qzek (w.heap.size + 1)) ?_ rfl ⟨w.heap.size + 1, rfl, ⟨by omega, by simp, by simpa using C0 _ 0 _ rfl, by simpa using C1 _ 0 _ rfl, by simpa using C2 _ 0 _ rfl⟩, (((Below.refl _ _).alloc (Nat.le_refl _) _).alloc (by simp) _ |>.alloc (by simp; omega) _).alloc (by simp; omega) _⟩
 exact qz3 Tryz.results83 _ _ w.heap.size 0 rfl Q32 _ (World.rangeAt_alloc (World.rangeAt_alloc (World.rangeAt_alloc (qz6 w Q32 132) _) _) _) Tryz.underlying132 rfl (by show _ = some 8; kernel_rfl)
theorem qzfh (b : Nat) (w : World) : (Instr.index 132 (.agg Q0t) (.int .i64 0)).run Tryz.prog w = .ok (.func (.func 157) #[] #[.pointer (some ⟨b, 0, none⟩)]) w := by kernel_rfl
theorem qzfa (b : Nat) (w : World) : (Instr.index 132 (.agg Q0t) (.int .i64 1)).run Tryz.prog w = .ok (.func (.func 131) #[] #[]) w := by kernel_rfl
theorem qzfc (b : Nat) (w : World) : (Instr.index 132 (.agg Q0t) (.int .i64 2)).run Tryz.prog w = .ok (.func (.func 132) #[] #[]) w := by kernel_rfl
theorem qzfm (b : Nat) (w : World) : (Instr.index 132 (.agg Q0t) (.int .i64 3)).run Tryz.prog w = .ok (.func (.func 133) #[] #[]) w := by kernel_rfl
theorem qzfg (b : Nat) (w : World) : (Instr.index 132 (.agg Q0t) (.int .i64 4)).run Tryz.prog w = .ok (.func (.func 157) #[] #[.pointer (some ⟨b + 1, 0, none⟩)]) w := by kernel_rfl
theorem qzff (b : Nat) (w : World) : (Instr.index 132 (.agg Q0t) (.int .i64 5)).run Tryz.prog w = .ok (.func (.func 157) #[] #[.pointer (some ⟨b + 2, 0, none⟩)]) w := by kernel_rfl
theorem qzfj (b : Nat) (w : World) : (Instr.index 132 (.agg Q0t) (.int .i64 6)).run Tryz.prog w = .ok (.func (.func 134) #[] #[]) w := by kernel_rfl
theorem qzfd (b : Nat) (w : World) : (Instr.index 132 (.agg Q0t) (.int .i64 7)).run Tryz.prog w = .ok (.func (.func 135) #[] #[]) w := by kernel_rfl
def qzfl (lo b0 : Nat) (A : Ar) (a0 a1 a2 : Option Addr) (c0 c1 c2 c3 : Nat) (bb off v : Nat) (h : Hd) (m : Vr) : Nat -> Value -> World -> Prop
 | 0, x, w => ∃ b, x = qzek b /\ qz7v lo w b
 | 1, x, _ => x = .pointer (some ⟨b0 + 1, 1, none⟩)
 | 2, x, _ => x = .int .i64 h.then_
 | 3, x, w => ∃ b, x = wayV b h.then_ /\ qz7v lo w b
 | 4, x, _ => x = .agg Q1s
 | 5, x, _ => x = .agg (hdC h).toArray
 | 6, x, _ => x = .pointer (some ⟨b0, 4, none⟩)
 | 7, x, _ => x = .slice (some ⟨bb, off, none⟩) A.vers.length c3
 | 8, x, _ => x = .pointer (some ⟨b0 + 1, 11, none⟩)
 | 9, x, _ => x = .int .i64 (v : Int)
 | 10, x, _ => x = .pointer (some ⟨bb, off + v * 5, none⟩)
 | 11, x, _ => x = .agg #[.int .i64 m.next, .bool m.gone, .int .i64 m.stamp, .int .i64 m.prev, .int .i64 m.kind]
 | _, _, _ => True
theorem qzcm {lo b0 : Nat} {A : Ar} {a0 a1 a2 : Option Addr} {c0 c1 c2 c3 : Nat} {bb off v : Nat} {h : Hd} {m : Vr} (i : Nat) (x : Value) (w w' : World) (hq : qzfl lo b0 A a0 a1 a2 c0 c1 c2 c3 bb off v h m i x w) (hb : Below w.heap.size w w') : qzfl lo b0 A a0 a1 a2 c0 c1 c2 c3 bb off v h m i x w' := by
 match i, hq with
 | 0, hq => obtain ⟨b, e, W⟩ := hq; exact ⟨b, e, W.below hb⟩
 | 1, h | 2, h | 4, h | 5, h | 6, h | 7, h | 8, h | 9, h | 10, h | 11, h => exact h
 | 3, hq => obtain ⟨b, e, W⟩ := hq; exact ⟨b, e, W.below hb⟩
 | n + 12, h => exact trivial
theorem qzbp (B : Nat) (A : Ar) (h : Hd) (a0 a1 a2 a3 : Option Addr) (c0 c1 c2 c3 : Nat) (w : World) (hB : B <= w.heap.size) (hA : A.size <= 1048576) (I : qzr B w Q0u Q0s Q0w Q14 A) (x y z u : Int) (hOk : qz18 x y z u A = true) (hv0 : 0 <= h.ver) (hv1 : h.ver < (A.vers.length : Int)) (hx0 : 0 <= h.x_) (hx1 : h.x_ < (A.nodes.length : Int)) (hc0 : -1 <= h.curr) (hcu : h.curr < (A.nodes.length : Int)) (hn0 : -1 <= h.new_) (ho0 : 0 <= h.out) (ho1 : h.out <= 1000000) (hs0 : 0 <= h.sum) (hs1 : h.sum <= 1000000) (ht0 : 0 <= h.then_) (ht1 : h.then_ <= 7) :
  Calls Tryz.prog 37 #[.agg Q01, .agg (hdC h).toArray] w fun e w' => e = .returned (.agg (hdC (onH A h)).toArray) /\ Below w.heap.size w w' := by
 have hA' := hA
 unfold Ar.size at hA
 have X0 := World.rangeAt_alloc (World.rangeAt_alloc (qz6 w Q0j 30) Q0f) (.cells Q00 32)
 have H0 := World.rangeAt_alloc (qz6 Q26 (hdC h) 32) (.cells Q00 32)
 have G0 := World.there_alloc (qz8 Q26 (hdC h).toArray 32 22 (by simp [hdC])) (.cells Q00 32)
 have F0 := qz8 ((Q26).alloc Q0f) Q00 32 22 (by decide)
 have K0 := ((((Below.refl w.heap.size w).alloc (Nat.le_refl _) (.cells Q01 30)).alloc (by simp) Q0f).alloc (by simp <;> omega) (.cells Q00 32))
 have hz0 : w.heap.size + 1 + 1 < (Q23).heap.size := by simp
 simp only [World.size_alloc] at H0 G0 F0
 have I0 := I.below (K0.mono hB)
 go_enter Tryz.func37, Tryz.ntmps37
 go_wp2_with fail
 generalize hw0 : ((Q26).alloc Q0f).alloc (.cells Q00 32) = w0 at *
 clear hw0 I
 obtain ⟨v, hv⟩ : ∃ v : Nat, h.ver = v := ⟨h.ver.toNat, by omega⟩
 have hvl : v < A.vers.length := by omega
 have hvl' : (v : Int) < (A.vers.length : Int) := by omega
 have hvl0 : (0 : Int) <= (v : Int) := by omega
 have hvr : vrOf A h.ver = A.vers[v] := by rw [hv, qz2z A v hvl]
 have hver := qz4c hOk v hvl
 have hval := fun n hn => qz6n hOk n hn
 have ht : h.then_ = 0 ∨ h.then_ = 1 ∨ h.then_ = 2 ∨ h.then_ = 3 ∨ h.then_ = 4 ∨ h.then_ = 5 ∨ h.then_ = 6 ∨ h.then_ = 7 := by omega
 obtain ⟨bb, off, rfl, hbb, R⟩ := qzt.at I0.r (by omega)
 clear R
 have hvH : Hid (h.ver = v) := hv
 refine qz2f 12 (by kernel_rfl) (qzfl w0.heap.size w.heap.size A a0 a1 a2 c0 c1 c2 c3 bb off v h A.vers[v]) (fun _ => false) (by kernel_rfl) (by kernel_rfl) (by kernel_rfl) (by kernel_rfl) (by rfl) (fun i v w w' _ h hb => qzcm i v w w' h hb) (fun i v w q hf h hq => by cases hf) ?step ?final
 case step =>
  intro i o hik ho a W hb hnn hd K hK
  have XW := qz0 X0 hb (by omega)
  have HW := qz0 H0 hb (by omega)
  have IW := I0.below (hb.mono (Nat.le_trans hB K0.size))
  obtain ⟨x0, x1, x2, x3, x4⟩ := row5 XW
  obtain ⟨_, _, e0, hb9, R⟩ := qzt.at IW.r (by omega)
  cases e0
  have V5 := qzi (sz := 5) (fun _ => rfl) R v hvl
  have v0 : W.cell? ⟨bb, off + v * 5, none⟩ = some (.int .i64 A.vers[v].next) := by simpa using V5 0 _ rfl
  have v1 : W.cell? ⟨bb, off + v * 5 + 1, none⟩ = some (.bool A.vers[v].gone) := V5 1 _ rfl
  have v2 : W.cell? ⟨bb, off + v * 5 + 2, none⟩ = some (.int .i64 A.vers[v].stamp) := V5 2 _ rfl
  have v3 : W.cell? ⟨bb, off + v * 5 + 3, none⟩ = some (.int .i64 A.vers[v].prev) := V5 3 _ rfl
  have v4 : W.cell? ⟨bb, off + v * 5 + 4, none⟩ = some (.int .i64 A.vers[v].kind) := V5 4 _ rfl
  have q1 : W.cell? ⟨w.heap.size + 1, 1, none⟩ = some (.int .i64 h.then_) := by simpa using HW 1 (.int .i64 h.then_) rfl
  have q11 : W.cell? ⟨w.heap.size + 1, 11, none⟩ = some (.int .i64 h.ver) := by simpa using HW 11 (.int .i64 h.ver) rfl
  rw [hv] at q11
  clear R V5 hv
  match i, ho with
  | 0, ho =>
   obtain rfl := Option.some.inj ho
   have ef : a.eval (.func 83) = .func (.func 83) #[] #[] := rfl
   refine qz2d (f := 83) (args := #[]) (R := fun v w' => (∃ b, v = qzek b /\ qz7v w0.heap.size w' b) /\ Below W.heap.size W w') ?_ ((qzaj W).mono (fun e w' h => by obtain ⟨b, e1, WA, hb'⟩ := h; exact ⟨_, e1, ⟨b, rfl, Nat.le_trans hb.size WA.lo, WA.hi, WA.c0, WA.c1, WA.c2⟩, hb'⟩)) (fun v w' h => hK v w' h.1 h.2 (fun h => by cases h))
   generalize a.eval = ev at *
   go_simp
  | 1, ho =>
   obtain rfl := Option.some.inj ho
   have e1 : a.eval (.tmp 3) = .pointer (some ⟨w.heap.size + 1, 0, none⟩) := hnn 3 rfl
   refine qz4 (v := .pointer (some ⟨w.heap.size + 1, 1, none⟩)) (w' := W) ?_ (hK _ _ rfl (Below.refl _ _) (fun h => by cases h))
   generalize a.eval = ev at *
   go_simp
  | 2, ho =>
   obtain rfl := Option.some.inj ho
   have e1 : a.eval (.tmp 6) = .pointer (some ⟨w.heap.size + 1, 1, none⟩) := hd ⟨1, .data⟩ (by simp) rfl 6 rfl
   refine qz4 (v := .int .i64 h.then_) (w' := W) ?_ (hK _ _ rfl (Below.refl _ _) (fun h => by cases h))
   generalize a.eval = ev at *
   go_simp
  | 3, ho =>
   obtain rfl := Option.some.inj ho
   obtain ⟨b, e1, WA⟩ := (show ∃ b, a.eval (.tmp 5) = qzek b /\ qz7v w0.heap.size W b from hd ⟨0, .data⟩ (by simp) rfl 5 rfl)
   have e2 : a.eval (.tmp 7) = .int .i64 h.then_ := hd ⟨2, .data⟩ (by simp) rfl 7 rfl
   unfold qzek at e1
   rcases ht with ek | ek | ek | ek | ek | ek | ek | ek
   ·rw [ek] at e2
    refine qz4 (v := .func (.func 157) #[] #[.pointer (some ⟨b, 0, none⟩)]) (w' := W) ?_ (hK _ _ ⟨b, by rw [ek]; rfl, WA⟩ (Below.refl _ _) (fun h => by cases h))
    clear ek
    have hix := qzfh b
    generalize a.eval = ev at *
    go_simp
   ·rw [ek] at e2
    refine qz4 (v := .func (.func 131) #[] #[]) (w' := W) ?_ (hK _ _ ⟨b, by rw [ek]; rfl, WA⟩ (Below.refl _ _) (fun h => by cases h))
    clear ek
    have hix := qzfa b
    generalize a.eval = ev at *
    go_simp
   ·rw [ek] at e2
    refine qz4 (v := .func (.func 132) #[] #[]) (w' := W) ?_ (hK _ _ ⟨b, by rw [ek]; rfl, WA⟩ (Below.refl _ _) (fun h => by cases h))
    clear ek
    have hix := qzfc b
    generalize a.eval = ev at *
    go_simp
   ·rw [ek] at e2
    refine qz4 (v := .func (.func 133) #[] #[]) (w' := W) ?_ (hK _ _ ⟨b, by rw [ek]; rfl, WA⟩ (Below.refl _ _) (fun h => by cases h))
    clear ek
    have hix := qzfm b
    generalize a.eval = ev at *
    go_simp
   ·rw [ek] at e2
    refine qz4 (v := .func (.func 157) #[] #[.pointer (some ⟨b + 1, 0, none⟩)]) (w' := W) ?_ (hK _ _ ⟨b, by rw [ek]; rfl, WA⟩ (Below.refl _ _) (fun h => by cases h))
    clear ek
    have hix := qzfg b
    generalize a.eval = ev at *
    go_simp
   ·rw [ek] at e2
    refine qz4 (v := .func (.func 157) #[] #[.pointer (some ⟨b + 2, 0, none⟩)]) (w' := W) ?_ (hK _ _ ⟨b, by rw [ek]; rfl, WA⟩ (Below.refl _ _) (fun h => by cases h))
    clear ek
    have hix := qzff b
    generalize a.eval = ev at *
    go_simp
   ·rw [ek] at e2
    refine qz4 (v := .func (.func 134) #[] #[]) (w' := W) ?_ (hK _ _ ⟨b, by rw [ek]; rfl, WA⟩ (Below.refl _ _) (fun h => by cases h))
    clear ek
    have hix := qzfj b
    generalize a.eval = ev at *
    go_simp
   ·rw [ek] at e2
    refine qz4 (v := .func (.func 135) #[] #[]) (w' := W) ?_ (hK _ _ ⟨b, by rw [ek]; rfl, WA⟩ (Below.refl _ _) (fun h => by cases h))
    clear ek
    have hix := qzfd b
    generalize a.eval = ev at *
    go_simp
  | 4, ho =>
   obtain rfl := Option.some.inj ho
   have e1 : a.eval (.tmp 2) = .pointer (some ⟨w.heap.size, 0, none⟩) := hnn 2 rfl
   refine qz4 (v := .agg Q1s) (w' := W) ?_ (hK _ _ rfl (Below.refl _ _) (fun h => by cases h))
   generalize a.eval = ev at *
   go_simp
  | 5, ho =>
   obtain rfl := Option.some.inj ho
   exact qz1w 32 (.tmp 3) rfl (w.heap.size + 1) 0 (hnn 3 rfl) (hdC h) _ HW Tryz.underlying32 rfl (qz1 h) (hK _ _ rfl (Below.refl _ _) (fun h => by cases h))
  | 6, ho =>
   obtain rfl := Option.some.inj ho
   have e1 : a.eval (.tmp 2) = .pointer (some ⟨w.heap.size, 0, none⟩) := hnn 2 rfl
   refine qz4 (v := .pointer (some ⟨w.heap.size, 4, none⟩)) (w' := W) ?_ (hK _ _ rfl (Below.refl _ _) (fun h => by cases h))
   generalize a.eval = ev at *
   go_simp
  | 7, ho =>
   obtain rfl := Option.some.inj ho
   have e1 : a.eval (.tmp 11) = .pointer (some ⟨w.heap.size, 4, none⟩) := hd ⟨6, .data⟩ (by simp) rfl 11 rfl
   refine qz4 (v := .slice (some ⟨bb, off, none⟩) A.vers.length c3) (w' := W) ?_ (hK _ _ rfl (Below.refl _ _) (fun h => by cases h))
   generalize a.eval = ev at *
   go_simp
  | 8, ho =>
   obtain rfl := Option.some.inj ho
   have e1 : a.eval (.tmp 3) = .pointer (some ⟨w.heap.size + 1, 0, none⟩) := hnn 3 rfl
   refine qz4 (v := .pointer (some ⟨w.heap.size + 1, 11, none⟩)) (w' := W) ?_ (hK _ _ rfl (Below.refl _ _) (fun h => by cases h))
   generalize a.eval = ev at *
   go_simp
  | 9, ho =>
   obtain rfl := Option.some.inj ho
   have e1 : a.eval (.tmp 13) = .pointer (some ⟨w.heap.size + 1, 11, none⟩) := hd ⟨8, .data⟩ (by simp) rfl 13 rfl
   refine qz4 (v := .int .i64 (v : Int)) (w' := W) ?_ (hK _ _ rfl (Below.refl _ _) (fun h => by cases h))
   generalize a.eval = ev at *
   go_simp
  | 10, ho =>
   obtain rfl := Option.some.inj ho
   have e1 : a.eval (.tmp 12) = .slice (some ⟨bb, off, none⟩) A.vers.length c3 := hd ⟨7, .data⟩ (by simp) rfl 12 rfl
   have e2 : a.eval (.tmp 14) = .int .i64 (v : Int) := hd ⟨9, .data⟩ (by simp) rfl 14 rfl
   refine qz4 (v := .pointer (some ⟨bb, off + v * 5, none⟩)) (w' := W) ?_ (hK _ _ rfl (Below.refl _ _) (fun h => by cases h))
   generalize a.eval = ev at *
   go_simp
  | 11, ho =>
   obtain rfl := Option.some.inj ho
   have e1 : a.eval (.tmp 15) = .pointer (some ⟨bb, off + v * 5, none⟩) := hd ⟨10, .data⟩ (by simp) rfl 15 rfl
   refine qz4 (v := .agg Q17) (w' := W) ?_ (hK _ _ rfl (Below.refl _ _) (fun h => by cases h))
   generalize a.eval = ev at *
   go_simp
  | n + 12, ho => omega
 case final =>
  intro vs W hb hG _
  obtain ⟨b, g3, WA⟩ := (show ∃ b, vs 3 = wayV b h.then_ /\ qz7v w0.heap.size W b from hG 3 (by decide))
  have g4 : vs 4 = .agg Q1s := hG 4 (by decide)
  have g5 : vs 5 = .agg (hdC h).toArray := hG 5 (by decide)
  have g11 : vs 11 = .agg Q17 := hG 11 (by decide)
  have F1 := qz2 F0 hb (by omega)
  have K1 := K0.trans (hb.mono (by omega))
  have I1 := I0.below (hb.mono (Nat.le_trans hB K0.size))
  have hz1 := Nat.lt_of_lt_of_le hz0 hb.size
  generalize hl : laid _ vs _ _ _ = A'
  have hA'' : A' = { tmps := #[.agg Q1s, .agg (hdC h).toArray, .pointer (some ⟨w.heap.size, 0, none⟩), .pointer (some ⟨w.heap.size + 1, 0, none⟩), .pointer (some ⟨w.heap.size + 1 + 1, 0, none⟩), vs 0, vs 1, vs 2, vs 3, vs 4, vs 5, vs 6, vs 7, vs 8, vs 9, vs 10, vs 11, undef], defers := [] } := by
   rw [<- hl]
   kernel_rfl
  subst hA''
  rw [g4, g5, g11]
  clear hl hG g4 g5 g11 hb X0 H0 G0 F0 K0 I0 hz0
  simp only [List.drop_succ_cons, List.drop_zero]
  have wlo := WA.lo
  have whi := WA.hi
  rcases ht with ek | ek | ek | ek | ek | ek | ek | ek
  ·have hvv : Hid (onH A h = qz1m h 0) := by show _ = _; simp [onH, ek, qz1m]
   have g3' : vs 3 = .func (.func 157) #[] #[.pointer (some ⟨b, 0, none⟩)] := by rw [g3, ek]; rfl
   rw [g3']
   clear g3 g3' ek hv
   go_wp2_with fail
   refine (qz5s B A h A.vers[v] b 0 _ _ _ _ _ _ _ _ _ (by omega) hA' I1 (by omega) WA.c0).mono ?_
   rintro e w2 ⟨rfl, b2⟩
   have F2 := qz2 F1 b2 (by omega)
   have K2 := K1.trans (b2.mono (by omega))
   go_wp2_with (refine wpList_store_mid rfl 32 (.tmp 4) _ rfl (w.heap.size + 1 + 1) 0 (hdC (qz1m h 0)).toArray ?hxn91 ?hyn91 ?htn91 (qz7 _) (qzb _) ?_)
   try (case hxn91 => rfl)
   try (case hyn91 => rfl)
   case htn91 => exact F2
   refine bodyPost_ret (v := .agg (hdC (qz1m h 0)).toArray) ?_ rfl ⟨by rw [hvv.out], ?_⟩
   ·exact qz3 Tryz.results37 _ _ (w.heap.size + 1 + 1) 0 rfl (hdC (qz1m h 0)) _ (World.rangeAt_setCells_same _ _ _ _ F2) Tryz.underlying32 rfl (qz1 _)
   ·exact Below.setCells (by omega) _ _ _ K2
  ·have hvv : Hid (onH A h = qz75 A h A.vers[v]) := by show _ = _; simp [onH, ek, hvr, qz75]
   have g3' : vs 3 = .func (.func 131) #[] #[] := by rw [g3, ek]; rfl
   rw [g3']
   clear g3 g3' ek hv
   go_wp2_with fail
   refine (qzb2 B A h A.vers[v] _ _ _ _ _ _ _ _ _ (by omega) hA' I1 hn0).mono ?_
   rintro e w2 ⟨rfl, b2⟩
   have F2 := qz2 F1 b2 (by omega)
   have K2 := K1.trans (b2.mono (by omega))
   go_wp2_with (refine wpList_store_mid rfl 32 (.tmp 4) _ rfl (w.heap.size + 1 + 1) 0 (hdC (qz75 A h A.vers[v])).toArray ?hxn92 ?hyn92 ?htn92 (qz7 _) (qzb _) ?_)
   try (case hxn92 => rfl)
   try (case hyn92 => rfl)
   case htn92 => exact F2
   refine bodyPost_ret (v := .agg (hdC (qz75 A h A.vers[v])).toArray) ?_ rfl ⟨by rw [hvv.out], ?_⟩
   ·exact qz3 Tryz.results37 _ _ (w.heap.size + 1 + 1) 0 rfl (hdC (qz75 A h A.vers[v])) _ (World.rangeAt_setCells_same _ _ _ _ F2) Tryz.underlying32 rfl (qz1 _)
   ·exact Below.setCells (by omega) _ _ _ K2
  ·have hvv : Hid (onH A h = goH A h A.vers[v]) := by show _ = _; simp [onH, ek, hvr, goH]
   have g3' : vs 3 = .func (.func 132) #[] #[] := by rw [g3, ek]; rfl
   rw [g3']
   clear g3 g3' ek hv
   go_wp2_with fail
   refine (qz9g B A h A.vers[v] _ _ _ _ _ _ _ _ _ (by omega) hA' I1 hc0 hcu hn0).mono ?_
   rintro e w2 ⟨rfl, b2⟩
   have F2 := qz2 F1 b2 (by omega)
   have K2 := K1.trans (b2.mono (by omega))
   go_wp2_with (refine wpList_store_mid rfl 32 (.tmp 4) _ rfl (w.heap.size + 1 + 1) 0 (hdC (goH A h A.vers[v])).toArray ?hxn93 ?hyn93 ?htn93 (qz7 _) (qzb _) ?_)
   try (case hxn93 => rfl)
   try (case hyn93 => rfl)
   case htn93 => exact F2
   refine bodyPost_ret (v := .agg (hdC (goH A h A.vers[v])).toArray) ?_ rfl ⟨by rw [hvv.out], ?_⟩
   ·exact qz3 Tryz.results37 _ _ (w.heap.size + 1 + 1) 0 rfl (hdC (goH A h A.vers[v])) _ (World.rangeAt_setCells_same _ _ _ _ F2) Tryz.underlying32 rfl (qz1 _)
   ·exact Below.setCells (by omega) _ _ _ K2
  ·have hvv : Hid (onH A h = qz2s A { h with predVer := h.ver } A.vers[v].next) := by show _ = _; simp [onH, ek, hvr]
   have g3' : vs 3 = .func (.func 133) #[] #[] := by rw [g3, ek]; rfl
   rw [g3']
   clear g3 g3' ek hv
   go_wp2_with fail
   refine (qz9d B A h A.vers[v] _ _ _ _ _ _ _ _ _ (by omega) hA' I1 hn0).mono ?_
   rintro e w2 ⟨rfl, b2⟩
   have F2 := qz2 F1 b2 (by omega)
   have K2 := K1.trans (b2.mono (by omega))
   go_wp2_with (refine wpList_store_mid rfl 32 (.tmp 4) _ rfl (w.heap.size + 1 + 1) 0 (hdC (qz2s A { h with predVer := h.ver } A.vers[v].next)).toArray ?hxn94 ?hyn94 ?htn94 (qz7 _) (qzb _) ?_)
   try (case hxn94 => rfl)
   try (case hyn94 => rfl)
   case htn94 => exact F2
   refine bodyPost_ret (v := .agg (hdC (qz2s A { h with predVer := h.ver } A.vers[v].next)).toArray) ?_ rfl ⟨by rw [hvv.out], ?_⟩
   ·exact qz3 Tryz.results37 _ _ (w.heap.size + 1 + 1) 0 rfl (hdC (qz2s A { h with predVer := h.ver } A.vers[v].next)) _ (World.rangeAt_setCells_same _ _ _ _ F2) Tryz.underlying32 rfl (qz1 _)
   ·exact Below.setCells (by omega) _ _ _ K2
  ·have hvv : Hid (onH A h = qz1m h 10) := by show _ = _; simp [onH, ek, qz1m]
   have g3' : vs 3 = .func (.func 157) #[] #[.pointer (some ⟨b + 1, 0, none⟩)] := by rw [g3, ek]; rfl
   rw [g3']
   clear g3 g3' ek hv
   go_wp2_with fail
   refine (qz5s B A h A.vers[v] (b + 1) 10 _ _ _ _ _ _ _ _ _ (by omega) hA' I1 (by omega) WA.c1).mono ?_
   rintro e w2 ⟨rfl, b2⟩
   have F2 := qz2 F1 b2 (by omega)
   have K2 := K1.trans (b2.mono (by omega))
   go_wp2_with (refine wpList_store_mid rfl 32 (.tmp 4) _ rfl (w.heap.size + 1 + 1) 0 (hdC (qz1m h 10)).toArray ?hxn95 ?hyn95 ?htn95 (qz7 _) (qzb _) ?_)
   try (case hxn95 => rfl)
   try (case hyn95 => rfl)
   case htn95 => exact F2
   refine bodyPost_ret (v := .agg (hdC (qz1m h 10)).toArray) ?_ rfl ⟨by rw [hvv.out], ?_⟩
   ·exact qz3 Tryz.results37 _ _ (w.heap.size + 1 + 1) 0 rfl (hdC (qz1m h 10)) _ (World.rangeAt_setCells_same _ _ _ _ F2) Tryz.underlying32 rfl (qz1 _)
   ·exact Below.setCells (by omega) _ _ _ K2
  ·have hvv : Hid (onH A h = qz1m h 12) := by show _ = _; simp [onH, ek, qz1m]
   have g3' : vs 3 = .func (.func 157) #[] #[.pointer (some ⟨b + 2, 0, none⟩)] := by rw [g3, ek]; rfl
   rw [g3']
   clear g3 g3' ek hv
   go_wp2_with fail
   refine (qz5s B A h A.vers[v] (b + 2) 12 _ _ _ _ _ _ _ _ _ (by omega) hA' I1 (by omega) WA.c2).mono ?_
   rintro e w2 ⟨rfl, b2⟩
   have F2 := qz2 F1 b2 (by omega)
   have K2 := K1.trans (b2.mono (by omega))
   go_wp2_with (refine wpList_store_mid rfl 32 (.tmp 4) _ rfl (w.heap.size + 1 + 1) 0 (hdC (qz1m h 12)).toArray ?hxn96 ?hyn96 ?htn96 (qz7 _) (qzb _) ?_)
   try (case hxn96 => rfl)
   try (case hyn96 => rfl)
   case htn96 => exact F2
   refine bodyPost_ret (v := .agg (hdC (qz1m h 12)).toArray) ?_ rfl ⟨by rw [hvv.out], ?_⟩
   ·exact qz3 Tryz.results37 _ _ (w.heap.size + 1 + 1) 0 rfl (hdC (qz1m h 12)) _ (World.rangeAt_setCells_same _ _ _ _ F2) Tryz.underlying32 rfl (qz1 _)
   ·exact Below.setCells (by omega) _ _ _ K2
  ·have hvv : Hid (onH A h = qz57 A h A.vers[v]) := by show _ = _; simp [onH, ek, hvr, qz57]
   have g3' : vs 3 = .func (.func 134) #[] #[] := by rw [g3, ek]; rfl
   rw [g3']
   clear g3 g3' ek hv
   go_wp2_with fail
   refine (qz83 B A h A.vers[v] _ _ _ _ _ _ _ _ _ (by omega) hA' I1 hvr hx0 hx1 (by omega) (by omega) ho0 ho1 hs0 hs1 hval).mono ?_
   rintro e w2 ⟨rfl, b2⟩
   have F2 := qz2 F1 b2 (by omega)
   have K2 := K1.trans (b2.mono (by omega))
   go_wp2_with (refine wpList_store_mid rfl 32 (.tmp 4) _ rfl (w.heap.size + 1 + 1) 0 (hdC (qz57 A h A.vers[v])).toArray ?hxn97 ?hyn97 ?htn97 (qz7 _) (qzb _) ?_)
   try (case hxn97 => rfl)
   try (case hyn97 => rfl)
   case htn97 => exact F2
   refine bodyPost_ret (v := .agg (hdC (qz57 A h A.vers[v])).toArray) ?_ rfl ⟨by rw [hvv.out], ?_⟩
   ·exact qz3 Tryz.results37 _ _ (w.heap.size + 1 + 1) 0 rfl (hdC (qz57 A h A.vers[v])) _ (World.rangeAt_setCells_same _ _ _ _ F2) Tryz.underlying32 rfl (qz1 _)
   ·exact Below.setCells (by omega) _ _ _ K2
  ·have hvv : Hid (onH A h = qzcu h A.vers[v]) := by show _ = _; simp [onH, ek, hvr, qzcu]
   have g3' : vs 3 = .func (.func 135) #[] #[] := by rw [g3, ek]; rfl
   rw [g3']
   clear g3 g3' ek hv
   go_wp2_with fail
   refine (qzbe B A h A.vers[v] _ _ _ _ _ _ _ _ _ (by omega) hA' I1).mono ?_
   rintro e w2 ⟨rfl, b2⟩
   have F2 := qz2 F1 b2 (by omega)
   have K2 := K1.trans (b2.mono (by omega))
   go_wp2_with (refine wpList_store_mid rfl 32 (.tmp 4) _ rfl (w.heap.size + 1 + 1) 0 (hdC (qzcu h A.vers[v])).toArray ?hxn98 ?hyn98 ?htn98 (qz7 _) (qzb _) ?_)
   try (case hxn98 => rfl)
   try (case hyn98 => rfl)
   case htn98 => exact F2
   refine bodyPost_ret (v := .agg (hdC (qzcu h A.vers[v])).toArray) ?_ rfl ⟨by rw [hvv.out], ?_⟩
   ·exact qz3 Tryz.results37 _ _ (w.heap.size + 1 + 1) 0 rfl (hdC (qzcu h A.vers[v])) _ (World.rangeAt_setCells_same _ _ _ _ F2) Tryz.underlying32 rfl (qz1 _)
   ·exact Below.setCells (by omega) _ _ _ K2
end
end Go.Proofs.YtclkglkhhnapiaaGreat
