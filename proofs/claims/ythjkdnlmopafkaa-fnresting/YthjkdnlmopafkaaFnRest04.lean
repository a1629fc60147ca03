/-
  What the law's proof goes by, part 5.
-/
import Derived.Deep.AppendLies
import Derived.Deep.Cut
import Derived.Test.YthjkdnlmopafkaaFnRest00
import Derived.Test.YthjkdnlmopafkaaFnRest03
namespace Go.Proofs.Ythjkdnlmopafkaa
open Go.ChangeShapes Go.WideShapes Go.ChangeAt Go.RowKit
set_option maxRecDepth 100000
set_option maxHeartbeats 16000000
set_option linter.unusedVariables false
set_option linter.unusedSimpArgs false
set_option linter.unnecessarySimpa false
set_option linter.unusedSectionVars false
section
attribute [local go_sem ↓] Go.wp_at_zero Go.wp_at_succ
theorem qz20 {w : World} {base base' : Nat} {e : TypeId} {sz : Nat} {v : Value} {n : Nat} {xs : List Value} (h : w.ownsRow base e sz v n xs) (hb : base' <= base) : w.ownsRow base' e sz v n xs := by
 refine ⟨h.1, ?_⟩
 rcases h.2 with h0 | ⟨g, cap, cur, rfl, hg, rest⟩
 ·exact Or.inl h0
 ·exact Or.inr ⟨g, cap, cur, rfl, Nat.le_trans hb hg, rest⟩
theorem qz1n {w w' : World} {base : Nat} {e : TypeId} {sz : Nat} {v : Value} {n : Nat} {xs : List Value} (h : w.ownsRow base e sz v n xs) (hb : Below w.heap.size w w') : w'.ownsRow base e sz v n xs := qzbc h hb (fun j e => qz2e h e)
theorem qzx {w w' : World} {base b : Nat} {e : TypeId} {sz : Nat} {v : Value} {n : Nat} {xs : List Value} (h : w.ownsRow base e sz v n xs) (hb : Only b w w') (hv : ∀ j, v.ownBlock = some j -> j ≠ b) : w'.ownsRow base e sz v n xs := by
 have hlt := fun j e => qz2e h (j := j) e
 refine ⟨h.1, ?_⟩
 rcases h.2 with h0 | ⟨g, cap, cur, rfl, hg, hh, rest⟩
 ·exact Or.inl h0
 ·exact Or.inr ⟨g, cap, cur, rfl, hg, (hb.block g (hlt g rfl) (hv g rfl)).trans hh, rest⟩
theorem qz3o {w : World} {base : Nat} {e : TypeId} {sz : Nat} {v : Value} {n : Nat} {xs : List Value} (h : w.ownsRow base e sz v n xs) : qz50 v = v.ownBlock := by
 obtain ⟨a, c, rfl⟩ := qzi h
 cases a <;> rfl
theorem qz2o {w : World} {base : Nat} {e : TypeId} {sz : Nat} {v : Value} {n : Nat} {xs : List Value} (h : w.ownsRow base e sz v n xs) : qz12 w.heap.size w v n xs := by
 obtain ⟨b, a, cap, o, rfl, hN⟩ := qzcy h
 refine ⟨a, cap, rfl, ?_⟩
 rcases hN with h0 | ⟨rfl, _, hlt, R, _⟩
 ·exact Or.inl h0
 ·exact Or.inr ⟨b, o, rfl, hlt, R⟩
structure qz32 (base : Nat) (w : World) (s g n r : Value) (A : Ar) : Prop where
 rs : w.ownsRow base 2 1 s A.slots.length (qzm intC A.slots)
 rg : w.ownsRow base 2 1 g A.guides.length (qzm intC A.guides)
 rn : w.ownsRow base 78 3 n A.nodes.length (qzm ndC A.nodes)
 rr : w.ownsRow base 54 5 r A.vers.length (qzm vrC A.vers)
 ne : ∀ b, s.ownBlock = some b -> g.ownBlock ≠ some b
theorem qz32.is {base : Nat} {w : World} {s g n r : Value} {A : Ar} (O : qz32 base w s g n r A) : qz1v w.heap.size w s g n r A := ⟨qz2o O.rs, qz2o O.rg, qz2o O.rn, qz2o O.rr⟩
theorem qz32.below {base : Nat} {w w' : World} {s g n r : Value} {A : Ar} (O : qz32 base w s g n r A) (hb : Below w.heap.size w w') : qz32 base w' s g n r A := ⟨qz1n O.rs hb, qz1n O.rg hb, qz1n O.rn hb, qz1n O.rr hb, O.ne⟩
theorem qz32.only {base b : Nat} {w w' : World} {s g n r : Value} {A : Ar} (O : qz32 base w s g n r A) (hb : Only b w w') (hl : b < base) : qz32 base w' s g n r A :=
 ⟨qzx O.rs hb (fun j e => by have := qz1g O.rs e; omega), qzx O.rg hb (fun j e => by have := qz1g O.rg e; omega), qzx O.rn hb (fun j e => by have := qz1g O.rn e; omega), qzx O.rr hb (fun j e => by have := qz1g O.rr e; omega), O.ne⟩
theorem qz32.lo {base base' : Nat} {w : World} {s g n r : Value} {A : Ar} (O : qz32 base w s g n r A) (hb : base' <= base) : qz32 base' w s g n r A := ⟨qz20 O.rs hb, qz20 O.rg hb, qz20 O.rn hb, qz20 O.rr hb, O.ne⟩
def qzd3 (b bs : Nat) (A : Ar) (a0 a1 a2 a3 : Option Addr) (c0 c1 c2 c3 : Nat) : Nat -> Value -> World -> Prop
 | 0, v, _ => v = .pointer (some ⟨b, 0, none⟩)
 | 1, v, _ => v = .int .i64 A.camera
 | 2, v, _ => v = .pointer (some ⟨b, 1, none⟩)
 | 3, v, _ => v = .slice a0 A.slots.length c0
 | 4, v, w => w.ownsRow bs 2 1 v A.slots.length (qzm intC A.slots)
 | 5, v, _ => v = .pointer (some ⟨b, 2, none⟩)
 | 6, v, _ => v = .slice a1 A.guides.length c1
 | 7, v, w => w.ownsRow bs 2 1 v A.guides.length (qzm intC A.guides)
 | 8, v, _ => ∃ g, v = .slice (some ⟨g, 0, none⟩) 0 0
 | 9, v, _ => v = .pointer (some ⟨b, 3, none⟩)
 | 10, v, _ => v = .slice a2 A.nodes.length c2
 | 11, v, w => w.ownsRow bs 78 3 v A.nodes.length (qzm ndC A.nodes)
 | 12, v, _ => ∃ g, v = .slice (some ⟨g, 0, none⟩) 0 0
 | 13, v, _ => v = .pointer (some ⟨b, 4, none⟩)
 | 14, v, _ => v = .slice a3 A.vers.length c3
 | 15, v, w => w.ownsRow bs 54 5 v A.vers.length (qzm vrC A.vers)
 | _, _, _ => True
def qz79 : Nat -> Bool
 | 4 => true
 | 7 => true
 | _ => false
theorem qza8 {b bs : Nat} {A : Ar} {a0 a1 a2 a3 : Option Addr} {c0 c1 c2 c3 : Nat} (i : Nat) (v : Value) (w w' : World) (h : qzd3 b bs A a0 a1 a2 a3 c0 c1 c2 c3 i v w) (hb : Below w.heap.size w w') : qzd3 b bs A a0 a1 a2 a3 c0 c1 c2 c3 i v w' := by
 match i, h with
 | 0, h => exact h
 | 1, h => exact h
 | 2, h => exact h
 | 3, h => exact h
 | 4, h => exact qz1n h hb
 | 5, h => exact h
 | 6, h => exact h
 | 7, h => exact qz1n h hb
 | 8, h => exact h
 | 9, h => exact h
 | 10, h => exact h
 | 11, h => exact qz1n h hb
 | 12, h => exact h
 | 13, h => exact h
 | 14, h => exact h
 | 15, h => exact qz1n h hb
 | i + 16, h => exact trivial
theorem qzb6 {b bs : Nat} {A : Ar} {a0 a1 a2 a3 : Option Addr} {c0 c1 c2 c3 : Nat} (i : Nat) (v : Value) (w : World) (q : Nat) (hf : qz79 i = true) (h : qzd3 b bs A a0 a1 a2 a3 c0 c1 c2 c3 i v w) (hq : qz50 v = some q) : q < w.heap.size := by
 unfold qz79 at hf
 split at hf
 ·rw [qz3o h] at hq; exact qz2e h hq
 ·rw [qz3o h] at hq; exact qz2e h hq
 ·cases hf
theorem qz7r (B : Nat) (A : Ar) (a0 a1 a2 a3 : Option Addr) (c0 c1 c2 c3 : Nat) (w : World) (hB : B <= w.heap.size) (hA : A.size <= 1048576) (I : qz1v B w (.slice a0 A.slots.length c0) (.slice a1 A.guides.length c1) (.slice a2 A.nodes.length c2) (.slice a3 A.vers.length c3) A) (hs : 0 < A.slots.length) (hg : 0 < A.guides.length) (hn : 0 < A.nodes.length) (hr : 0 < A.vers.length) :
  Calls Try.prog 98 #[.agg #[.int .i64 A.camera, .slice a0 A.slots.length c0, .slice a1 A.guides.length c1, .slice a2 A.nodes.length c2, .slice a3 A.vers.length c3]] w fun e w' => ∃ s g n r, e = .returned (.agg #[.int .i64 A.camera, s, g, n, r]) /\ qz32 w.heap.size w' s g n r A /\ Below w.heap.size w w' := by
 unfold Ar.size at hA
 have X0 := World.rangeAt_alloc (qzd w [.int .i64 A.camera, .slice a0 A.slots.length c0, .slice a1 A.guides.length c1, .slice a2 A.nodes.length c2, .slice a3 A.vers.length c3] 30) (.cells #[.int .i64 0, .slice none 0 0, .slice none 0 0, .slice none 0 0, .slice none 0 0] 30)
 have F0 := qzh (w.alloc (.cells #[.int .i64 A.camera, .slice a0 A.slots.length c0, .slice a1 A.guides.length c1, .slice a2 A.nodes.length c2, .slice a3 A.vers.length c3] 30)) #[.int .i64 0, .slice none 0 0, .slice none 0 0, .slice none 0 0, .slice none 0 0] 30 5 (by decide)
 have K0 := ((Below.refl w.heap.size w).alloc (Nat.le_refl _) (.cells #[.int .i64 A.camera, .slice a0 A.slots.length c0, .slice a1 A.guides.length c1, .slice a2 A.nodes.length c2, .slice a3 A.vers.length c3] 30)).alloc (by simp) (.cells #[.int .i64 0, .slice none 0 0, .slice none 0 0, .slice none 0 0, .slice none 0 0] 30)
 have hz0 : w.heap.size + 1 < ((w.alloc (.cells #[.int .i64 A.camera, .slice a0 A.slots.length c0, .slice a1 A.guides.length c1, .slice a2 A.nodes.length c2, .slice a3 A.vers.length c3] 30)).alloc (.cells #[.int .i64 0, .slice none 0 0, .slice none 0 0, .slice none 0 0, .slice none 0 0] 30)).heap.size := by simp
 simp only [World.size_alloc] at F0
 have I0 := I.below (K0.mono hB)
 go_enter Try.func98, Try.ntmps98
 go_wp2_with fail
 generalize hw0 : (w.alloc (.cells #[.int .i64 A.camera, .slice a0 A.slots.length c0, .slice a1 A.guides.length c1, .slice a2 A.nodes.length c2, .slice a3 A.vers.length c3] 30)).alloc (.cells #[.int .i64 0, .slice none 0 0, .slice none 0 0, .slice none 0 0, .slice none 0 0] 30) = w0 at *
 clear hw0 I
 refine qz2f 16 (by kernel_rfl) (qzd3 w.heap.size (w.heap.size + 2) A a0 a1 a2 a3 c0 c1 c2 c3) qz79 (by kernel_rfl) (by kernel_rfl) (by kernel_rfl) (by kernel_rfl) (by rfl) (fun i v w w' _ h hb => qza8 i v w w' h hb) (fun i v w q hf h hq => qzb6 i v w q hf h hq) ?step ?final
 case step =>
  intro i o hik ho a W hb hnn hd K hK
  obtain ⟨x0, x1, x2, x3, x4⟩ := row5 (qz0 X0 hb (by omega))
  have IW := I0.below (hb.mono (by omega))
  have hzW := hb.size
  match i, ho with
  | 0, ho =>
   obtain rfl := Option.some.inj ho
   have e1 : a.eval (.tmp 1) = .pointer (some ⟨w.heap.size, 0, none⟩) := hnn 1 rfl
   refine qz2 (v := .pointer (some ⟨w.heap.size, 0, none⟩)) (w' := W) ?_ (hK _ _ rfl (Below.refl _ _) (fun h => by cases h))
   generalize a.eval = ev at *
   go_simp
  | 1, ho =>
   obtain rfl := Option.some.inj ho
   have e1 : a.eval (.tmp 3) = .pointer (some ⟨w.heap.size, 0, none⟩) := hd ⟨0, .data⟩ (by simp) rfl 3 rfl
   refine qz2 (v := .int .i64 A.camera) (w' := W) ?_ (hK _ _ rfl (Below.refl _ _) (fun h => by cases h))
   generalize a.eval = ev at *
   go_simp
  | 2, ho =>
   obtain rfl := Option.some.inj ho
   have e1 : a.eval (.tmp 1) = .pointer (some ⟨w.heap.size, 0, none⟩) := hnn 1 rfl
   refine qz2 (v := .pointer (some ⟨w.heap.size, 1, none⟩)) (w' := W) ?_ (hK _ _ rfl (Below.refl _ _) (fun h => by cases h))
   generalize a.eval = ev at *
   go_simp
  | 3, ho =>
   obtain rfl := Option.some.inj ho
   have e1 : a.eval (.tmp 5) = .pointer (some ⟨w.heap.size, 1, none⟩) := hd ⟨2, .data⟩ (by simp) rfl 5 rfl
   refine qz2 (v := .slice a0 A.slots.length c0) (w' := W) ?_ (hK _ _ rfl (Below.refl _ _) (fun h => by cases h))
   generalize a.eval = ev at *
   go_simp
  | 4, ho =>
   obtain rfl := Option.some.inj ho
   have e1 : a.eval (.tmp 6) = .slice a0 A.slots.length c0 := hd ⟨3, .data⟩ (by simp) rfl 6 rfl
   have ef : a.eval (.func 99) = .func (.func 99) #[] #[] := rfl
   refine qz22 (f := 99) (args := #[.slice a0 A.slots.length c0]) (R := fun v w' => w'.ownsRow W.heap.size 2 1 v A.slots.length (qzm intC A.slots) /\ Below W.heap.size W w') ?_ ((qz5q B _ A.slots W (by omega) (by omega) IW.s).mono (fun e w' h => h)) (fun v w' h => hK v w' (qz20 h.1 (by omega)) h.2 (fun _ q hq => by rw [qz3o h.1] at hq; exact qz1g h.1 hq))
   generalize a.eval = ev at *
   go_simp
  | 5, ho =>
   obtain rfl := Option.some.inj ho
   have e1 : a.eval (.tmp 1) = .pointer (some ⟨w.heap.size, 0, none⟩) := hnn 1 rfl
   refine qz2 (v := .pointer (some ⟨w.heap.size, 2, none⟩)) (w' := W) ?_ (hK _ _ rfl (Below.refl _ _) (fun h => by cases h))
   generalize a.eval = ev at *
   go_simp
  | 6, ho =>
   obtain rfl := Option.some.inj ho
   have e1 : a.eval (.tmp 8) = .pointer (some ⟨w.heap.size, 2, none⟩) := hd ⟨5, .data⟩ (by simp) rfl 8 rfl
   refine qz2 (v := .slice a1 A.guides.length c1) (w' := W) ?_ (hK _ _ rfl (Below.refl _ _) (fun h => by cases h))
   generalize a.eval = ev at *
   go_simp
  | 7, ho =>
   obtain rfl := Option.some.inj ho
   have e1 : a.eval (.tmp 9) = .slice a1 A.guides.length c1 := hd ⟨6, .data⟩ (by simp) rfl 9 rfl
   have ef : a.eval (.func 99) = .func (.func 99) #[] #[] := rfl
   refine qz22 (f := 99) (args := #[.slice a1 A.guides.length c1]) (R := fun v w' => w'.ownsRow W.heap.size 2 1 v A.guides.length (qzm intC A.guides) /\ Below W.heap.size W w') ?_ ((qz5q B _ A.guides W (by omega) (by omega) IW.g).mono (fun e w' h => h)) (fun v w' h => hK v w' (qz20 h.1 (by omega)) h.2 (fun _ q hq => by rw [qz3o h.1] at hq; exact qz1g h.1 hq))
   generalize a.eval = ev at *
   go_simp
  | 8, ho =>
   obtain rfl := Option.some.inj ho
   refine qz2 (v := .slice (some ⟨W.heap.size, 0, none⟩) 0 0) (w' := W.alloc (.cells #[] 78)) ?_ (hK _ _ ⟨_, rfl⟩ ((Below.refl _ _).alloc (Nat.le_refl _) _) (fun h => by cases h))
   generalize a.eval = ev at *
   go_simp
  | 9, ho =>
   obtain rfl := Option.some.inj ho
   have e1 : a.eval (.tmp 1) = .pointer (some ⟨w.heap.size, 0, none⟩) := hnn 1 rfl
   refine qz2 (v := .pointer (some ⟨w.heap.size, 3, none⟩)) (w' := W) ?_ (hK _ _ rfl (Below.refl _ _) (fun h => by cases h))
   generalize a.eval = ev at *
   go_simp
  | 10, ho =>
   obtain rfl := Option.some.inj ho
   have e1 : a.eval (.tmp 12) = .pointer (some ⟨w.heap.size, 3, none⟩) := hd ⟨9, .data⟩ (by simp) rfl 12 rfl
   refine qz2 (v := .slice a2 A.nodes.length c2) (w' := W) ?_ (hK _ _ rfl (Below.refl _ _) (fun h => by cases h))
   generalize a.eval = ev at *
   go_simp
  | 11, ho =>
   obtain rfl := Option.some.inj ho
   obtain ⟨g, e1⟩ := (show ∃ g, a.eval (.tmp 11) = .slice (some ⟨g, 0, none⟩) 0 0 from hd ⟨8, .data⟩ (by simp) rfl 11 rfl)
   have e2 : a.eval (.tmp 13) = .slice a2 A.nodes.length c2 := hd ⟨10, .data⟩ (by simp) rfl 13 rfl
   obtain ⟨i0, hi, hzr, hsz, hby⟩ := info_parts qz9v
   obtain ⟨cap, w', hrun, how, hbl, hlt⟩ := qz4q (P := Try.prog) W (w.heap.size + 2) 27 27 78 i0 _ 3 24 Try.underlying27 hi hzr hsz hby rfl (by decide) g B _ A.nodes.length (qzm ndC A.nodes) IW.n hn (by rw [qz2c (sz := 3) (fun _ => rfl)]) (qz3g qzbp A.nodes) (by unfold maxLen; omega) (by omega) (by omega)
   refine qz2 (v := .slice (some ⟨W.heap.size, 0, none⟩) A.nodes.length cap) (w' := w') ?_ (hK _ _ how hbl (fun h => by cases h))
   generalize a.eval = ev at *
   simp [execOp, resolve, invoke, builtin, e1, e2, hrun, Result.andThen]
  | 12, ho =>
   obtain rfl := Option.some.inj ho
   refine qz2 (v := .slice (some ⟨W.heap.size, 0, none⟩) 0 0) (w' := W.alloc (.cells #[] 54)) ?_ (hK _ _ ⟨_, rfl⟩ ((Below.refl _ _).alloc (Nat.le_refl _) _) (fun h => by cases h))
   generalize a.eval = ev at *
   go_simp
  | 13, ho =>
   obtain rfl := Option.some.inj ho
   have e1 : a.eval (.tmp 1) = .pointer (some ⟨w.heap.size, 0, none⟩) := hnn 1 rfl
   refine qz2 (v := .pointer (some ⟨w.heap.size, 4, none⟩)) (w' := W) ?_ (hK _ _ rfl (Below.refl _ _) (fun h => by cases h))
   generalize a.eval = ev at *
   go_simp
  | 14, ho =>
   obtain rfl := Option.some.inj ho
   have e1 : a.eval (.tmp 16) = .pointer (some ⟨w.heap.size, 4, none⟩) := hd ⟨13, .data⟩ (by simp) rfl 16 rfl
   refine qz2 (v := .slice a3 A.vers.length c3) (w' := W) ?_ (hK _ _ rfl (Below.refl _ _) (fun h => by cases h))
   generalize a.eval = ev at *
   go_simp
  | 15, ho =>
   obtain rfl := Option.some.inj ho
   obtain ⟨g, e1⟩ := (show ∃ g, a.eval (.tmp 15) = .slice (some ⟨g, 0, none⟩) 0 0 from hd ⟨12, .data⟩ (by simp) rfl 15 rfl)
   have e2 : a.eval (.tmp 17) = .slice a3 A.vers.length c3 := hd ⟨14, .data⟩ (by simp) rfl 17 rfl
   obtain ⟨i0, hi, hzr, hsz, hby⟩ := info_parts qz9x
   obtain ⟨cap, w', hrun, how, hbl, hlt⟩ := qz4q (P := Try.prog) W (w.heap.size + 2) 28 28 54 i0 _ 5 40 Try.underlying28 hi hzr hsz hby rfl (by decide) g B _ A.vers.length (qzm vrC A.vers) IW.r hr (by rw [qz2c (sz := 5) (fun _ => rfl)]) (qz3g qzag A.vers) (by unfold maxLen; omega) (by omega) (by omega)
   refine qz2 (v := .slice (some ⟨W.heap.size, 0, none⟩) A.vers.length cap) (w' := w') ?_ (hK _ _ how hbl (fun h => by cases h))
   generalize a.eval = ev at *
   simp [execOp, resolve, invoke, builtin, e1, e2, hrun, Result.andThen]
  | n + 16, ho => omega
 case final =>
  intro vs W hb hG hD
  have g1 : vs 1 = .int .i64 A.camera := hG 1 (by decide)
  have g4 : W.ownsRow (w.heap.size + 2) 2 1 (vs 4) A.slots.length (qzm intC A.slots) := hG 4 (by decide)
  have g7 : W.ownsRow (w.heap.size + 2) 2 1 (vs 7) A.guides.length (qzm intC A.guides) := hG 7 (by decide)
  have g11 : W.ownsRow (w.heap.size + 2) 78 3 (vs 11) A.nodes.length (qzm ndC A.nodes) := hG 11 (by decide)
  have g15 : W.ownsRow (w.heap.size + 2) 54 5 (vs 15) A.vers.length (qzm vrC A.vers) := hG 15 (by decide)
  have hne : ∀ b, (vs 4).ownBlock = some b -> (vs 7).ownBlock ≠ some b := fun b h => by
   have := hD 4 7 b (by decide) (by decide) (by decide) rfl rfl (by rw [qz3o g4]; exact h)
   rw [qz3o g7] at this
   exact this
  have OW : qz32 (w.heap.size + 2) W (vs 4) (vs 7) (vs 11) (vs 15) A := ⟨g4, g7, g11, g15, hne⟩
  have FW := qz6 F0 hb (by omega)
  have KW := K0.trans (hb.mono (by omega))
  generalize hl : laid _ vs _ _ _ = A'
  have hA' : A' = { tmps := #[.agg #[.int .i64 A.camera, .slice a0 A.slots.length c0, .slice a1 A.guides.length c1, .slice a2 A.nodes.length c2, .slice a3 A.vers.length c3], .pointer (some ⟨w.heap.size, 0, none⟩), .pointer (some ⟨w.heap.size + 1, 0, none⟩), vs 0, vs 1, vs 2, vs 3, vs 4, vs 5, vs 6, vs 7, vs 8, vs 9, vs 10, vs 11, vs 12, vs 13, vs 14, vs 15, undef], defers := [] } := by
   rw [<- hl]
   kernel_rfl
  subst hA'
  rw [g1]
  obtain ⟨sa, sc, es⟩ := qzi g4
  obtain ⟨ga, gc, eg⟩ := qzi g7
  obtain ⟨na, nc, en⟩ := qzi g11
  obtain ⟨ra, rc, er⟩ := qzi g15
  rw [es, eg, en, er] at OW ⊢
  clear hl hG hD g1 g4 g7 g11 g15 hne es eg en er X0 F0 I0 K0
  have OF : qz32 w.heap.size (W.setCells (w.heap.size + 1) 0 [.int .i64 A.camera, .slice sa A.slots.length sc, .slice ga A.guides.length gc, .slice na A.nodes.length nc, .slice ra A.vers.length rc]) (.slice sa A.slots.length sc) (.slice ga A.guides.length gc) (.slice na A.nodes.length nc) (.slice ra A.vers.length rc) A := (OW.only (qz9 (w.heap.size + 1) _ 0 W) (by omega)).lo (by omega)
  have KF := Below.setCells (B := w.heap.size) (b := w.heap.size + 1) (by omega) [.int .i64 A.camera, .slice sa A.slots.length sc, .slice ga A.guides.length gc, .slice na A.nodes.length nc, .slice ra A.vers.length rc] 0 _ KW
  go_wp2_with (refine wpList_store_mid rfl 30 (.tmp 2) (.tmp 19) rfl (w.heap.size + 1) 0 #[.int .i64 A.camera, .slice sa A.slots.length sc, .slice ga A.guides.length gc, .slice na A.nodes.length nc, .slice ra A.vers.length rc] ?hx ?hy ?ht ?hi ?h1 ?_)
  case hx => rfl
  case hy => rfl
  case ht => exact FW
  case hi => exact qz2i
  case h1 => simp [Value.oneCell']
  refine bodyPost_ret (v := .agg #[.int .i64 A.camera, .slice sa A.slots.length sc, .slice ga A.guides.length gc, .slice na A.nodes.length nc, .slice ra A.vers.length rc]) ?_ rfl ⟨_, _, _, _, rfl, OF, KF⟩
  exact qz4 Try.results98 _ _ (w.heap.size + 1) 0 rfl [.int .i64 A.camera, .slice sa A.slots.length sc, .slice ga A.guides.length gc, .slice na A.nodes.length nc, .slice ra A.vers.length rc] _ (World.rangeAt_setCells_same _ _ _ _ FW) Try.underlying30 rfl qz2i
end
section
attribute [local go_sem ↓] Go.wp_at_zero Go.wp_at_succ
theorem qz7l {w : World} {base : Nat} {e : TypeId} {sz : Nat} {g n cap : Nat} {xs : List Value} (h : w.ownsRow base e sz (.slice (some ⟨g, 0, none⟩) n cap) n xs) (k : Nat) (hk : k < n * sz) (u : Value) : (w.setCell ⟨g, k, none⟩ u).ownsRow base e sz (.slice (some ⟨g, 0, none⟩) n cap) n (xs.set k u) := by
 refine ⟨by rw [List.length_set]; exact h.1, ?_⟩
 rcases h.2 with ⟨h0, _⟩ | ⟨g', cap', cur, e1, hg, hh, hnc, hcm, hs, ht⟩
 ·cases h0
 ·cases e1
  obtain ⟨hlt, hk'⟩ := Array.getElem?_eq_some_iff.1 hh
  refine Or.inr ⟨g, cap, cur.setIfInBounds k u, rfl, hg, ?_, hnc, hcm, by simpa using hs, ?_⟩
  ·show (w.heap.modify g _)[g]? = _
   rw [Array.getElem?_eq_getElem (by rw [Array.size_modify]; exact hlt), Array.getElem_modify_self, hk']
   rfl
  ·rw [Array.toList_setIfInBounds, <- ht, List.take_set]
theorem qz2y {w : World} {base : Nat} {e : TypeId} {sz : Nat} {g n cap : Nat} {xs : List Value} (h : w.ownsRow base e sz (.slice (some ⟨g, 0, none⟩) n cap) n xs) (k : Nat) (u : Value) (hu : xs[k]? = some u) : w.cell? ⟨g, k, none⟩ = some u /\ w.frozen? ⟨g, k, none⟩ = false := by
 rcases h.2 with ⟨h0, _⟩ | ⟨g', cap', cur, e1, hg, hh, hnc, hcm, hs, ht⟩
 ·cases h0
 ·cases e1
  have hk : k < xs.length := by
   rcases Nat.lt_or_ge k xs.length with h' | h'
   ·exact h'
   ·rw [List.getElem?_eq_none h'] at hu; cases hu
  have h1 : cur.toList[k]? = some u := by
   rw [<- ht] at hu
   rw [List.getElem?_take] at hu
   split at hu
   ·exact hu
   ·cases hu
  constructor
  ·simp only [World.cell?, hh]
   simpa using h1
  ·simp [World.frozen?, hh]
theorem qz40 {α : Type} {f : α -> List Value} {sz : Nat} (hf : ∀ x, (f x).length = sz) : ∀ (l : List α) (i : Nat) (hi : i < l.length) (j : Nat) (hj : j < sz) (y : α) (u : Value), f y = (f l[i]).set j u -> qzm f (l.set i y) = (qzm f l).set (i * sz + j) u
 | x :: l, 0, _, j, hj, y, u, h => by
  simp only [List.set_cons_zero, qzm, List.flatMap_cons, Nat.zero_mul, Nat.zero_add]
  rw [List.set_append_left _ _ (by rw [hf]; exact hj)]
  simp only [List.getElem_cons_zero] at h
  rw [h]
 | x :: l, i + 1, hi, j, hj, y, u, h => by
  have ih := qz40 hf l i (by simpa using hi) j hj y u (by simpa using h)
  simp only [List.set_cons_succ, qzm, List.flatMap_cons] at ih ⊢
  rw [ih, List.set_append_right _ _ (by rw [hf, Nat.add_mul]; omega), hf]
  congr 2
  rw [Nat.add_mul]
  omega
def OwnB (s g n r : Value) (q : Nat) : Prop := s.ownBlock = some q ∨ g.ownBlock = some q ∨ n.ownBlock = some q ∨ r.ownBlock = some q
theorem qz2n {w : World} {base base' : Nat} {e e' : TypeId} {sz sz' : Nat} {v v' : Value} {n n' : Nat} {xs xs' : List Value} (h : w.ownsRow base e sz v n xs) (h' : w.ownsRow base' e' sz' v' n' xs') (hne : e ≠ e') (b : Nat) (hb : v.ownBlock = some b) : v'.ownBlock ≠ some b := by
 intro hb'
 rcases h.2 with ⟨rfl, _⟩ | ⟨g, cap, cur, rfl, _, hh, _⟩
 ·cases hb
 ·rcases h'.2 with ⟨rfl, _⟩ | ⟨g', cap', cur', rfl, _, hh', _⟩
  ·cases hb'
  ·simp [Value.ownBlock] at hb hb'
   subst hb
   subst hb'
   rw [hh] at hh'
   simp at hh'
   exact hne hh'.2
theorem qz1s {w w' : World} {S : Nat -> Prop} {base : Nat} {e : TypeId} {sz : Nat} {v : Value} {n : Nat} {xs : List Value} (h : w.ownsRow base e sz v n xs) (hb : But S w w') (hv : ∀ j, v.ownBlock = some j -> ¬ S j) : w'.ownsRow base e sz v n xs := by
 have hlt := fun j e => qz2e h (j := j) e
 refine ⟨h.1, ?_⟩
 rcases h.2 with h0 | ⟨g, cap, cur, rfl, hg, hh, rest⟩
 ·exact Or.inl h0
 ·exact Or.inr ⟨g, cap, cur, rfl, hg, (hb.block g (hlt g rfl) (hv g rfl)).trans hh, rest⟩
theorem qz32.lt {base : Nat} {w : World} {s g n r : Value} {A : Ar} (O : qz32 base w s g n r A) (q : Nat) (h : OwnB s g n r q) : q < w.heap.size := by
 rcases h with h | h | h | h
 ·exact qz2e O.rs h
 ·exact qz2e O.rg h
 ·exact qz2e O.rn h
 ·exact qz2e O.rr h
theorem qz32.kept {base : Nat} {w w' : World} {S : Nat -> Prop} {s g n r : Value} {A : Ar} (O : qz32 base w s g n r A) (hb : But S w w') (hv : ∀ q, OwnB s g n r q -> ¬ S q) : qz32 base w' s g n r A :=
 ⟨qz1s O.rs hb (fun j e => hv j (Or.inl e)), qz1s O.rg hb (fun j e => hv j (Or.inr (Or.inl e))), qz1s O.rn hb (fun j e => hv j (Or.inr (Or.inr (Or.inl e)))), qz1s O.rr hb (fun j e => hv j (Or.inr (Or.inr (Or.inr e)))), O.ne⟩
def qz1c (z : Int) (A : Ar) (node v next : Int) (gone : Bool) (kind : Int) : Ar × Int :=
 if z <= (A.vers.length : Int) then (A, -2)
 else if (ndOf A node).head ≠ v then (A, -1)
 else ({ A with vers := A.vers ++ [⟨next, gone, -1, v, kind⟩], nodes := A.nodes.set node.toNat { ndOf A node with head := (A.vers.length : Int) } }, (A.vers.length : Int))
structure qz25 (base : Nat) (w w' : World) (s g n r s' g' n' r' : Value) (A : Ar) : Prop where
 own : qz32 base w' s' g' n' r' A
 but : But (OwnB s g n r) w w'
 blk : ∀ q, OwnB s' g' n' r' q -> OwnB s g n r q ∨ w.heap.size <= q
theorem qz5y (base : Nat) (A : Ar) (x y z u : Int) (node v next : Int) (gone : Bool) (kind : Int) (s g n r : Value) (w : World) (hbase : base <= w.heap.size) (hA : A.size <= 1048576) (O : qz32 base w s g n r A) (hn0 : 0 <= node) (hn1 : node < (A.nodes.length : Int)) :
  Calls Try.prog 113 #[.agg #[.int .i64 x, .int .i64 y, .int .i64 z, .int .i64 u], .agg #[.int .i64 A.camera, s, g, n, r], .int .i64 node, .int .i64 v, .int .i64 next, .bool gone, .int .i64 kind] w fun e w' => ∃ s' g' n' r', e = .returned (.tuple #[.agg #[.int .i64 A.camera, s', g', n', r'], .int .i64 (qz1c z A node v next gone kind).2]) /\ qz25 base w w' s g n r s' g' n' r' (qz1c z A node v next gone kind).1 := by
 unfold Ar.size at hA
 have P0 := ((qz1t w x y z u 25).below ((Below.refl _ _).alloc (Nat.le_refl _) (.cells #[.int .i64 A.camera, s, g, n, r] 30)) (by simp)).below ((Below.refl _ _).alloc (Nat.le_refl _) (.cells #[.int .i64 0, .slice none 0 0, .slice none 0 0, .slice none 0 0, .slice none 0 0] 30)) (by simp; omega)
 have X0 := World.rangeAt_alloc (qzd (w.alloc (.cells #[.int .i64 x, .int .i64 y, .int .i64 z, .int .i64 u] 25)) [.int .i64 A.camera, s, g, n, r] 30) (.cells #[.int .i64 0, .slice none 0 0, .slice none 0 0, .slice none 0 0, .slice none 0 0] 30)
 have G0 := World.there_alloc (qzh (w.alloc (.cells #[.int .i64 x, .int .i64 y, .int .i64 z, .int .i64 u] 25)) #[.int .i64 A.camera, s, g, n, r] 30 5 (by simp)) (.cells #[.int .i64 0, .slice none 0 0, .slice none 0 0, .slice none 0 0, .slice none 0 0] 30)
 have F0 := qzh ((w.alloc (.cells #[.int .i64 x, .int .i64 y, .int .i64 z, .int .i64 u] 25)).alloc (.cells #[.int .i64 A.camera, s, g, n, r] 30)) #[.int .i64 0, .slice none 0 0, .slice none 0 0, .slice none 0 0, .slice none 0 0] 30 5 (by decide)
 have K0 := (((Below.refl w.heap.size w).alloc (Nat.le_refl _) (.cells #[.int .i64 x, .int .i64 y, .int .i64 z, .int .i64 u] 25)).alloc (by simp) (.cells #[.int .i64 A.camera, s, g, n, r] 30)).alloc (by simp; omega) (.cells #[.int .i64 0, .slice none 0 0, .slice none 0 0, .slice none 0 0, .slice none 0 0] 30)
 have hz0 : w.heap.size + 1 + 1 < (((w.alloc (.cells #[.int .i64 x, .int .i64 y, .int .i64 z, .int .i64 u] 25)).alloc (.cells #[.int .i64 A.camera, s, g, n, r] 30)).alloc (.cells #[.int .i64 0, .slice none 0 0, .slice none 0 0, .slice none 0 0, .slice none 0 0] 30)).heap.size := by simp
 simp only [World.size_alloc] at X0 G0 F0
 obtain ⟨sa, sc, rfl⟩ := qzi O.rs
 obtain ⟨ga, gc, rfl⟩ := qzi O.rg
 have hnp : 0 < A.nodes.length := by omega
 obtain ⟨nb, nc, rfl⟩ := qz19 O.rn hnp
 obtain ⟨ra, rc, rfl⟩ := qzi O.rr
 have O0 := O.below K0
 obtain ⟨k, rfl⟩ : ∃ k : Nat, node = k := ⟨node.toNat, by omega⟩
 have hk : k < A.nodes.length := by omega
 have hk' : (k : Int) < (A.nodes.length : Int) := by omega
 have hk0 : (0 : Int) <= (k : Int) := by omega
 have hnd : ndOf A (k : Int) = A.nodes[k] := qz1x A k hk
 have hnb := qz1g O.rn (j := nb) rfl
 have hnl := qz2e O.rn (j := nb) rfl
 have c2 := qz2y O0.rn (k * 3 + 2) (.int .i64 A.nodes[k].head) (by rw [qz1j (sz := 3) (fun _ => rfl) A.nodes k hk 2 (by omega)]; rfl)
 go_enter Try.func113, Try.ntmps113
 have tok : True := trivial
 go_wp2_with (clear tok; refine qz2r (((w.alloc (.cells #[.int .i64 x, .int .i64 y, .int .i64 z, .int .i64 u] 25)).alloc (.cells #[.int .i64 A.camera, .slice sa A.slots.length sc, .slice ga A.guides.length gc, .slice (some ⟨nb, 0, none⟩) A.nodes.length nc, .slice ra A.vers.length rc] 30)).alloc (.cells #[.int .i64 0, .slice none 0 0, .slice none 0 0, .slice none 0 0, .slice none 0 0] 30)) ?_)
 generalize hw0 : ((w.alloc (.cells #[.int .i64 x, .int .i64 y, .int .i64 z, .int .i64 u] 25)).alloc (.cells #[.int .i64 A.camera, .slice sa A.slots.length sc, .slice ga A.guides.length gc, .slice (some ⟨nb, 0, none⟩) A.nodes.length nc, .slice ra A.vers.length rc] 30)).alloc (.cells #[.int .i64 0, .slice none 0 0, .slice none 0 0, .slice none 0 0, .slice none 0 0] 30) = w0 at *
 show wpList _ _ _ _ _ w0
 clear hw0
 obtain ⟨p0, p1, p2, p3⟩ := P0
 obtain ⟨x0, x1, x2, x3, x4⟩ := row5 X0
 obtain ⟨c2, c2f⟩ := c2
 by_cases hfull : z <= (A.vers.length : Int)
 case pos =>
  have hv : Hid (qz1c z A (k : Int) v next gone kind = (A, -2)) := by show _ = _; simp [qz1c, hfull]
  have OF := O0.kept (S := fun q => q = w.heap.size + 1 + 1) (But.of_only (qz9 (w.heap.size + 1 + 1) [.int .i64 A.camera, .slice sa A.slots.length sc, .slice ga A.guides.length gc, .slice (some ⟨nb, 0, none⟩) A.nodes.length nc, .slice ra A.vers.length rc] 0 w0) rfl) (fun q hq => by have := O.lt q hq; omega)
  have KF := Below.setCells (B := w.heap.size) (b := w.heap.size + 1 + 1) (by omega) [.int .i64 A.camera, .slice sa A.slots.length sc, .slice ga A.guides.length gc, .slice (some ⟨nb, 0, none⟩) A.nodes.length nc, .slice ra A.vers.length rc] 0 _ K0
  go_wp2_with (refine wpList_store_mid rfl 30 (.tmp 14) _ rfl (w.heap.size + 1 + 1) 0 #[.int .i64 A.camera, .slice sa A.slots.length sc, .slice ga A.guides.length gc, .slice (some ⟨nb, 0, none⟩) A.nodes.length nc, .slice ra A.vers.length rc] ?hx ?hy ?ht (by exact qz2i) (by simp [Value.oneCell']) ?_)
  case hx => rfl
  case hy => rfl
  case ht => exact F0
  refine bodyPost_ret (v := .tuple #[.agg #[.int .i64 A.camera, .slice sa A.slots.length sc, .slice ga A.guides.length gc, .slice (some ⟨nb, 0, none⟩) A.nodes.length nc, .slice ra A.vers.length rc], .int .i64 (-2)]) ?_ rfl ⟨_, _, _, _, by rw [hv.out], by rw [hv.out]; exact ⟨OF, But.of_below KF, fun q h => Or.inl h⟩⟩
  exact qzn Try.results113 _ _ (w.heap.size + 1 + 1) 0 rfl [.int .i64 A.camera, .slice sa A.slots.length sc, .slice ga A.guides.length gc, .slice (some ⟨nb, 0, none⟩) A.nodes.length nc, .slice ra A.vers.length rc] _ (World.rangeAt_setCells_same _ _ _ _ F0) Try.underlying30 rfl qz2i
 by_cases hh : A.nodes[k].head = v
 case neg =>
  have bh : (A.nodes[k].head == v) = false := by simp [hh]
  have bh' : (A.nodes[k].head != v) = true := by simp [hh]
  have hv : Hid (qz1c z A (k : Int) v next gone kind = (A, -1)) := by show _ = _; simp [qz1c, hfull, hnd, hh]
  have OF := O0.kept (S := fun q => q = w.heap.size + 1 + 1) (But.of_only (qz9 (w.heap.size + 1 + 1) [.int .i64 A.camera, .slice sa A.slots.length sc, .slice ga A.guides.length gc, .slice (some ⟨nb, 0, none⟩) A.nodes.length nc, .slice ra A.vers.length rc] 0 w0) rfl) (fun q hq => by have := O.lt q hq; omega)
  have KF := Below.setCells (B := w.heap.size) (b := w.heap.size + 1 + 1) (by omega) [.int .i64 A.camera, .slice sa A.slots.length sc, .slice ga A.guides.length gc, .slice (some ⟨nb, 0, none⟩) A.nodes.length nc, .slice ra A.vers.length rc] 0 _ K0
  go_wp2_with (refine wpList_store_mid rfl 30 (.tmp 14) _ rfl (w.heap.size + 1 + 1) 0 #[.int .i64 A.camera, .slice sa A.slots.length sc, .slice ga A.guides.length gc, .slice (some ⟨nb, 0, none⟩) A.nodes.length nc, .slice ra A.vers.length rc] ?hx2 ?hy2 ?ht2 (by exact qz2i) (by simp [Value.oneCell']) ?_)
  try (case hx2 => rfl)
  try (case hy2 => rfl)
  try (case ht2 => exact F0)
  refine bodyPost_ret (v := .tuple #[.agg #[.int .i64 A.camera, .slice sa A.slots.length sc, .slice ga A.guides.length gc, .slice (some ⟨nb, 0, none⟩) A.nodes.length nc, .slice ra A.vers.length rc], .int .i64 (-1)]) ?_ rfl ⟨_, _, _, _, by rw [hv.out], by rw [hv.out]; exact ⟨OF, But.of_below KF, fun q h => Or.inl h⟩⟩
  exact qzn Try.results113 _ _ (w.heap.size + 1 + 1) 0 rfl [.int .i64 A.camera, .slice sa A.slots.length sc, .slice ga A.guides.length gc, .slice (some ⟨nb, 0, none⟩) A.nodes.length nc, .slice ra A.vers.length rc] _ (World.rangeAt_setCells_same _ _ _ _ F0) Try.underlying30 rfl qz2i
 subst hh
 have hv : Hid (qz1c z A (k : Int) A.nodes[k].head next gone kind = ({ A with vers := A.vers ++ [⟨next, gone, -1, A.nodes[k].head, kind⟩], nodes := A.nodes.set k { A.nodes[k] with head := (A.vers.length : Int) } }, (A.vers.length : Int))) := by show _ = _; simp [qz1c, hfull, hnd]
 obtain ⟨i0, hi, hzr, hsz, hby⟩ := info_parts qz9x
 have f4 : w0.frozen? ⟨w.heap.size + 1, 4, none⟩ = false := by simpa using (G0 4 (by decide)).2
 have hrb : ∀ j, Value.ownBlock (.slice ra A.vers.length rc) = some j -> j < w.heap.size := fun j e => qz2e O.rr e
 have hnr : Value.ownBlock (.slice ra A.vers.length rc) ≠ some nb := qz2n O.rn O.rr (by decide) nb rfl
 have OR := O0.rr.alloc (.cells #[.int .i64 next, .bool gone, .int .i64 (-1), .int .i64 A.nodes[k].head, .int .i64 kind] 54)
 have news := qzd w0 (vrC ⟨next, gone, -1, A.nodes[k].head, kind⟩) 54
 go_upto_region 6 with fail
 go_wp2_with (at_builtin; refine wpList_append_own_at _ rfl _ _ 28 rfl base 54 i0 _ 5 40 Try.underlying28 hi hzr hsz hby rfl (by decide) _ _ _ rfl OR ⟨w0.heap.size, 0, none⟩ 1 1 (vrC ⟨next, gone, -1, A.nodes[k].head, kind⟩) rfl rfl ?n1 ?n2 ?n3 ?n4 ?n5 ?_)
 case n1 => exact fun j q hq => hq
 case n2 => exact qzag _
 case n3 => unfold maxLen; omega
 case n4 => omega
 case n5 => omega
 intro r2 w1 hown hgrow _ hat
 obtain ⟨ra2, rc2, rfl⟩ := qzi hown
 have hsA : (w0.alloc (.cells #[.int .i64 next, .bool gone, .int .i64 (-1), .int .i64 A.nodes[k].head, .int .i64 kind] 54)).heap.size = w0.heap.size + 1 := by simp
 have B01 : But (fun q => Value.ownBlock (.slice ra A.vers.length rc) = some q) w0 w1 := ⟨hgrow.os, hgrow.tape, hgrow.output, Nat.le_trans (by omega) hgrow.size, fun q hq hn => (hgrow.block q (by omega) (fun e => hn e.symm)).trans (Below.heap_alloc _ _ _ hq)⟩
 have far : ∀ b o, b < w0.heap.size -> Value.ownBlock (.slice ra A.vers.length rc) ≠ some b -> w1.cell? ⟨b, o, none⟩ = w0.cell? ⟨b, o, none⟩ := fun b o h1 h2 => B01.cell (p := ⟨b, o, none⟩) h1 h2
 have farf : ∀ b o, b < w0.heap.size -> Value.ownBlock (.slice ra A.vers.length rc) ≠ some b -> w1.frozen? ⟨b, o, none⟩ = w0.frozen? ⟨b, o, none⟩ := fun b o h1 h2 => B01.frozen (p := ⟨b, o, none⟩) h1 h2
 have hr1 : Value.ownBlock (.slice ra A.vers.length rc) ≠ some (w.heap.size + 1) := fun e => by have := hrb _ e; omega
 have hr2 : Value.ownBlock (.slice ra A.vers.length rc) ≠ some (w.heap.size + 1 + 1) := fun e => by have := hrb _ e; omega
 have y0 := (far (w.heap.size + 1) 0 (by omega) hr1).trans x0
 have y1 := (far (w.heap.size + 1) 1 (by omega) hr1).trans x1
 have y2 := (far (w.heap.size + 1) 2 (by omega) hr1).trans x2
 have y3 := (far (w.heap.size + 1) 3 (by omega) hr1).trans x3
 have y4 := (far (w.heap.size + 1) 4 (by omega) hr1).trans x4
 have z4 := (farf (w.heap.size + 1) 4 (by omega) hr1).trans f4
 have m2 := (far nb (k * 3 + 2) (by omega) hnr).trans c2
 have m2f := (farf nb (k * 3 + 2) (by omega) hnr).trans c2f
 have F1 : w1.there (w.heap.size + 1 + 1) 0 5 := B01.there F0 (by omega) hr2
 have e1 : ¬ (nb = w.heap.size + 1) := by omega
 have e2 : ¬ (w.heap.size + 1 = nb) := by omega
 have F3 : ((w1.setCell ⟨w.heap.size + 1, 4, none⟩ (.slice ra2 (A.vers.length + 1) rc2)).setCell ⟨nb, k * 3 + 2, none⟩ (.int .i64 (A.vers.length : Int))).there (w.heap.size + 1 + 1) 0 5 := qz3 (qz3 F1 _ _) _ _
 have B13 : But (fun q => q = w.heap.size + 1 ∨ q = nb ∨ q = w.heap.size + 1 + 1) w1 (((w1.setCell ⟨w.heap.size + 1, 4, none⟩ (.slice ra2 (A.vers.length + 1) rc2)).setCell ⟨nb, k * 3 + 2, none⟩ (.int .i64 (A.vers.length : Int))).setCells (w.heap.size + 1 + 1) 0 [.int .i64 A.camera, .slice sa A.slots.length sc, .slice ga A.guides.length gc, .slice (some ⟨nb, 0, none⟩) A.nodes.length nc, .slice ra2 (A.vers.length + 1) rc2]) :=
  (But.of_only ((Only.refl (w.heap.size + 1) w1).setCell (p := ⟨w.heap.size + 1, 4, none⟩) (Or.inl rfl) _) (Or.inl rfl)).trans ((But.of_only ((Only.refl nb _).setCell (p := ⟨nb, k * 3 + 2, none⟩) (Or.inl rfl) _) (Or.inr (Or.inl rfl))).trans (But.of_only (qz9 (w.heap.size + 1 + 1) _ 0 _) (Or.inr (Or.inr rfl))))
 have B03 : But (fun q => Value.ownBlock (.slice ra A.vers.length rc) = some q ∨ q = w.heap.size + 1 ∨ q = nb ∨ q = w.heap.size + 1 + 1) w0 (((w1.setCell ⟨w.heap.size + 1, 4, none⟩ (.slice ra2 (A.vers.length + 1) rc2)).setCell ⟨nb, k * 3 + 2, none⟩ (.int .i64 (A.vers.length : Int))).setCells (w.heap.size + 1 + 1) 0 [.int .i64 A.camera, .slice sa A.slots.length sc, .slice ga A.guides.length gc, .slice (some ⟨nb, 0, none⟩) A.nodes.length nc, .slice ra2 (A.vers.length + 1) rc2]) := (B01.mono (fun _ h => Or.inl h)).trans (B13.mono (fun _ h => Or.inr h))
 have hn1 := qz1s O0.rn B01 (fun j e => by simp [Value.ownBlock] at e; subst e; exact hnr)
 have hn2 := qz1s hn1 (But.of_only (S := fun q => q = w.heap.size + 1) ((Only.refl (w.heap.size + 1) w1).setCell (p := ⟨w.heap.size + 1, 4, none⟩) (Or.inl rfl) (.slice ra2 (A.vers.length + 1) rc2)) rfl) (fun j e => by simp [Value.ownBlock] at e; subst e; exact e1)
 have hn3 := qz7l hn2 (k * 3 + 2) (by omega) (.int .i64 (A.vers.length : Int))
 rw [<- qz40 (f := ndC) (sz := 3) (fun _ => rfl) A.nodes k hk 2 (by omega) { A.nodes[k] with head := (A.vers.length : Int) } (.int .i64 (A.vers.length : Int)) rfl] at hn3
 have hn4 := qz1s hn3 (But.of_only (S := fun q => q = w.heap.size + 1 + 1) (qz9 (w.heap.size + 1 + 1) [.int .i64 A.camera, .slice sa A.slots.length sc, .slice ga A.guides.length gc, .slice (some ⟨nb, 0, none⟩) A.nodes.length nc, .slice ra2 (A.vers.length + 1) rc2] 0 _) rfl) (fun j e => by simp [Value.ownBlock] at e; omega)
 have hr4 := qz1s hown B13 (fun j e => by
  rcases hat with h | h
  ·rw [h] at e
   have := hrb j e
   rintro (h1 | h1 | h1)
   ·omega
   ·subst h1; exact hnr e
   ·omega
  ·rw [h] at e
   simp only [Option.some.injEq] at e
   rintro (h1 | h1 | h1) <;> omega)
 have OF : qz32 base (((w1.setCell ⟨w.heap.size + 1, 4, none⟩ (.slice ra2 (A.vers.length + 1) rc2)).setCell ⟨nb, k * 3 + 2, none⟩ (.int .i64 (A.vers.length : Int))).setCells (w.heap.size + 1 + 1) 0 [.int .i64 A.camera, .slice sa A.slots.length sc, .slice ga A.guides.length gc, .slice (some ⟨nb, 0, none⟩) A.nodes.length nc, .slice ra2 (A.vers.length + 1) rc2]) (.slice sa A.slots.length sc) (.slice ga A.guides.length gc) (.slice (some ⟨nb, 0, none⟩) A.nodes.length nc) (.slice ra2 (A.vers.length + 1) rc2) { A with vers := A.vers ++ [⟨next, gone, -1, A.nodes[k].head, kind⟩], nodes := A.nodes.set k { A.nodes[k] with head := (A.vers.length : Int) } } := by
  refine ⟨qz1s O0.rs B03 ?_, qz1s O0.rg B03 ?_, by simpa using hn4, by simpa [qz2l] using hr4, O.ne⟩
  ·intro j e
   have h1 := qz2e O.rs e
   rintro (h2 | h2 | h2 | h2)
   ·exact qz2n O.rs O.rr (by decide) j e h2
   ·omega
   ·subst h2; exact qz2n O.rs O.rn (by decide) _ e rfl
   ·omega
  ·intro j e
   have h1 := qz2e O.rg e
   rintro (h2 | h2 | h2 | h2)
   ·exact qz2n O.rg O.rr (by decide) j e h2
   ·omega
   ·subst h2; exact qz2n O.rg O.rn (by decide) _ e rfl
   ·omega
 have BF : But (OwnB (.slice sa A.slots.length sc) (.slice ga A.guides.length gc) (.slice (some ⟨nb, 0, none⟩) A.nodes.length nc) (.slice ra A.vers.length rc)) w (((w1.setCell ⟨w.heap.size + 1, 4, none⟩ (.slice ra2 (A.vers.length + 1) rc2)).setCell ⟨nb, k * 3 + 2, none⟩ (.int .i64 (A.vers.length : Int))).setCells (w.heap.size + 1 + 1) 0 [.int .i64 A.camera, .slice sa A.slots.length sc, .slice ga A.guides.length gc, .slice (some ⟨nb, 0, none⟩) A.nodes.length nc, .slice ra2 (A.vers.length + 1) rc2]) :=
  ⟨B03.os.trans K0.os, B03.tape.trans K0.tape, B03.output.trans K0.output, Nat.le_trans K0.size B03.size, fun q hq hn => (B03.block q (by omega) (by
   rintro (h2 | h2 | h2 | h2)
   ·exact hn (Or.inr (Or.inr (Or.inr h2)))
   ·omega
   ·subst h2; exact hn (Or.inr (Or.inr (Or.inl rfl)))
   ·omega)).trans (K0.block q hq)⟩
 have LF : ∀ q, OwnB (.slice sa A.slots.length sc) (.slice ga A.guides.length gc) (.slice (some ⟨nb, 0, none⟩) A.nodes.length nc) (.slice ra2 (A.vers.length + 1) rc2) q -> OwnB (.slice sa A.slots.length sc) (.slice ga A.guides.length gc) (.slice (some ⟨nb, 0, none⟩) A.nodes.length nc) (.slice ra A.vers.length rc) q ∨ w.heap.size <= q := by
  rintro q (h | h | h | h)
  ·exact Or.inl (Or.inl h)
  ·exact Or.inl (Or.inr (Or.inl h))
  ·exact Or.inl (Or.inr (Or.inr (Or.inl h)))
  ·rcases hat with h' | h'
   ·rw [h'] at h; exact Or.inl (Or.inr (Or.inr (Or.inr h)))
   ·rw [h'] at h
    simp only [Option.some.injEq] at h
    exact Or.inr (by omega)
 clear x0 x1 x2 x3 x4 f4 c2 c2f far farf hown hgrow hat OR news B01 B03 B13 hn1 hn2 hn3 hn4 hr4 p0 p1 p2 p3
 go_wp2_with (refine wpList_store_mid rfl 30 (.tmp 14) _ rfl (w.heap.size + 1 + 1) 0 #[.int .i64 A.camera, .slice sa A.slots.length sc, .slice ga A.guides.length gc, .slice (some ⟨nb, 0, none⟩) A.nodes.length nc, .slice ra2 (A.vers.length + 1) rc2] ?hx3 ?hy3 ?ht3 (by exact qz2i) (by simp [Value.oneCell']) ?_)
 try (case hx3 => rfl)
 try (case hy3 => rfl)
 try (case ht3 => exact F3)
 refine bodyPost_ret (v := .tuple #[.agg #[.int .i64 A.camera, .slice sa A.slots.length sc, .slice ga A.guides.length gc, .slice (some ⟨nb, 0, none⟩) A.nodes.length nc, .slice ra2 (A.vers.length + 1) rc2], .int .i64 (A.vers.length : Int)]) ?_ rfl ⟨_, _, _, _, by rw [hv.out], by rw [hv.out]; exact ⟨OF, BF, LF⟩⟩
 exact qzn Try.results113 _ _ (w.heap.size + 1 + 1) 0 rfl [.int .i64 A.camera, .slice sa A.slots.length sc, .slice ga A.guides.length gc, .slice (some ⟨nb, 0, none⟩) A.nodes.length nc, .slice ra2 (A.vers.length + 1) rc2] _ (World.rangeAt_setCells_same _ _ _ _ F3) Try.underlying30 rfl qz2i
end
end Go.Proofs.Ythjkdnlmopafkaa
