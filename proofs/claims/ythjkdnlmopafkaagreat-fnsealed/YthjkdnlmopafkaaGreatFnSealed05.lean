/-
  What the law's proof goes by, part 6.
-/
import Derived.Deep.AppendLies
import Derived.Deep.Cut
import Derived.Test.YthjkdnlmopafkaaGreatFnSealed00
import Derived.Test.YthjkdnlmopafkaaGreatFnSealed04
namespace Go.Proofs.YthjkdnlmopafkaaGreat
open Go.ChangeShapes Go.WideShapes Go.ChangeAt Go.RowKit
set_option maxRecDepth 100000
set_option maxHeartbeats 16000000
set_option linter.unusedVariables false
set_option linter.unusedSimpArgs false
set_option linter.unnecessarySimpa false
set_option linter.unusedSectionVars false
section
attribute [local go_sem ↓] Go.wp_at_zero Go.wp_at_succ
theorem qz2i {w : World} {base base' : Nat} {e : TypeId} {sz : Nat} {v : Value} {n : Nat} {xs : List Value} (h : w.ownsRow base e sz v n xs) (hb : base' <= base) : w.ownsRow base' e sz v n xs := by
 refine ⟨h.1, ?_⟩
 rcases h.2 with h0 | ⟨g, cap, cur, rfl, hg, rest⟩
 ·exact Or.inl h0
 ·exact Or.inr ⟨g, cap, cur, rfl, Q7u hb hg, rest⟩
theorem qz1r {w w' : World} {base : Nat} {e : TypeId} {sz : Nat} {v : Value} {n : Nat} {xs : List Value} (h : w.ownsRow base e sz v n xs) (hb : Below Q7b w w') : w'.ownsRow base e sz v n xs := qzf8 h hb (fun j e => qz2t h e)
theorem qzz {w w' : World} {base b : Nat} {e : TypeId} {sz : Nat} {v : Value} {n : Nat} {xs : List Value} (h : w.ownsRow base e sz v n xs) (hb : Only b w w') (hv : ∀ j, v.ownBlock = some j -> j ≠ b) : w'.ownsRow base e sz v n xs := by
 have hlt := fun j e => qz2t h (j := j) e
 refine ⟨h.1, ?_⟩
 rcases h.2 with h0 | ⟨g, cap, cur, rfl, hg, hh, rest⟩
 ·exact Or.inl h0
 ·exact Or.inr ⟨g, cap, cur, rfl, hg, (hb.block g (hlt g rfl) (hv g rfl)).trans hh, rest⟩
theorem qz4i {w : World} {base : Nat} {e : TypeId} {sz : Nat} {v : Value} {n : Nat} {xs : List Value} (h : w.ownsRow base e sz v n xs) : qz32 v = v.ownBlock := by
 obtain ⟨a, c, rfl⟩ := qzh h
 cases a <;> rfl
theorem qz3a {w : World} {base : Nat} {e : TypeId} {sz : Nat} {v : Value} {n : Nat} {xs : List Value} (h : w.ownsRow base e sz v n xs) : qzq Q7b w v n xs := by
 obtain ⟨b, a, cap, o, rfl, hN⟩ := qzgw h
 refine ⟨a, cap, rfl, ?_⟩
 rcases hN with h0 | ⟨rfl, _, hlt, R, _⟩
 ·exact Or.inl h0
 ·exact Or.inr ⟨b, o, rfl, hlt, R⟩
structure qz33 (base : Nat) (w : World) (s g n r : Value) (A : Ar) : Prop where
 rs : w.ownsRow base 2 1 s Q7w (qzf intC A.slots)
 rg : w.ownsRow base 2 1 g Q7v (qzf intC A.guides)
 rn : w.ownsRow base 99 3 n Q7f (qzf ndC A.nodes)
 rr : w.ownsRow base 65 5 r Q7h (qzf vrC A.vers)
 ne : ∀ b, s.ownBlock = some b -> g.ownBlock ≠ some b
theorem qz33.is {base : Nat} {w : World} {s g n r : Value} {A : Ar} (O : qz33 base w s g n r A) : qzv Q7b w s g n r A := ⟨qz3a O.rs, qz3a O.rg, qz3a O.rn, qz3a O.rr⟩
theorem qz33.below {base : Nat} {w w' : World} {s g n r : Value} {A : Ar} (O : qz33 base w s g n r A) (hb : Below Q7b w w') : qz33 base w' s g n r A := ⟨qz1r O.rs hb, qz1r O.rg hb, qz1r O.rn hb, qz1r O.rr hb, O.ne⟩
theorem qz33.only {base b : Nat} {w w' : World} {s g n r : Value} {A : Ar} (O : qz33 base w s g n r A) (hb : Only b w w') (hl : b < base) : qz33 base w' s g n r A :=
 ⟨qzz O.rs hb (fun j e => by have := qz1n O.rs e; omega), qzz O.rg hb (fun j e => by have := qz1n O.rg e; omega), qzz O.rn hb (fun j e => by have := qz1n O.rn e; omega), qzz O.rr hb (fun j e => by have := qz1n O.rr e; omega), O.ne⟩
theorem qz33.lo {base base' : Nat} {w : World} {s g n r : Value} {A : Ar} (O : qz33 base w s g n r A) (hb : base' <= base) : qz33 base' w s g n r A := ⟨qz2i O.rs hb, qz2i O.rg hb, qz2i O.rn hb, qz2i O.rr hb, O.ne⟩
def qzh5 (b bs : Nat) (A : Ar) (a0 a1 a2 a3 : Option Addr) (c0 c1 c2 c3 : Nat) : Nat -> Value -> World -> Prop
 | 0, v, _ => v = .pointer (some ⟨b, 0, none⟩)
 | 1, v, _ => v = .int .i64 Q7m
 | 2, v, _ => v = .pointer (some ⟨b, 1, none⟩)
 | 3, v, _ => v = .slice a0 Q7w c0
 | 4, v, w => w.ownsRow bs 2 1 v Q7w (qzf intC A.slots)
 | 5, v, _ => v = .pointer (some ⟨b, 2, none⟩)
 | 6, v, _ => v = .slice a1 Q7v c1
 | 7, v, w => w.ownsRow bs 2 1 v Q7v (qzf intC A.guides)
 | 8, v, _ => ∃ g, v = .slice (some ⟨g, 0, none⟩) 0 0
 | 9, v, _ => v = .pointer (some ⟨b, 3, none⟩)
 | 10, v, _ => v = .slice a2 Q7f c2
 | 11, v, w => w.ownsRow bs 99 3 v Q7f (qzf ndC A.nodes)
 | 12, v, _ => ∃ g, v = .slice (some ⟨g, 0, none⟩) 0 0
 | 13, v, _ => v = .pointer (some ⟨b, 4, none⟩)
 | 14, v, _ => v = .slice a3 Q7h c3
 | 15, v, w => w.ownsRow bs 65 5 v Q7h (qzf vrC A.vers)
 | _, _, _ => True
def qz9b : Nat -> Bool
 | 4 => true
 | 7 => true
 | _ => false
theorem qze7 {b bs : Nat} {A : Ar} {a0 a1 a2 a3 : Option Addr} {c0 c1 c2 c3 : Nat} (i : Nat) (v : Value) (w w' : World) (h : qzh5 b bs A a0 a1 a2 a3 c0 c1 c2 c3 i v w) (hb : Below Q7b w w') : qzh5 b bs A a0 a1 a2 a3 c0 c1 c2 c3 i v w' := by
 match i, h with
 | 0, h => exact h
 | 1, h => exact h
 | 2, h => exact h
 | 3, h => exact h
 | 4, h => exact qz1r h hb
 | 5, h => exact h
 | 6, h => exact h
 | 7, h => exact qz1r h hb
 | 8, h => exact h
 | 9, h => exact h
 | 10, h => exact h
 | 11, h => exact qz1r h hb
 | 12, h => exact h
 | 13, h => exact h
 | 14, h => exact h
 | 15, h => exact qz1r h hb
 | i + 16, h => exact trivial
theorem qzeq {b bs : Nat} {A : Ar} {a0 a1 a2 a3 : Option Addr} {c0 c1 c2 c3 : Nat} (i : Nat) (v : Value) (w : World) (q : Nat) (hf : qz9b i = true) (h : qzh5 b bs A a0 a1 a2 a3 c0 c1 c2 c3 i v w) (hq : qz32 v = some q) : q < Q7b := by
 unfold qz9b at hf
 split at hf
 ·rw [qz4i h] at hq; exact qz2t h hq
 ·rw [qz4i h] at hq; exact qz2t h hq
 ·cases hf
theorem qz71 (B : Nat) (A : Ar) (a0 a1 a2 a3 : Option Addr) (c0 c1 c2 c3 : Nat) (w : World) (hB : B <= Q7b) (hA : A.size <= 1048576) (I : qzv B w Q0u Q0s Q0v Q14 A) (hs : 0 < Q7w) (hg : 0 < Q7v) (hn : 0 < Q7f) (hr : 0 < Q7h) :
  Calls Tryz.prog 54 #[.agg Q02] w fun e w' => ∃ s g n r, e = .returned (.agg Q2w) /\ qz33 Q7b w' s g n r A /\ Below Q7b w w' := by
 unfold Ar.size at hA
 have X0 := Q7n (qz6 w Q0j 33) (.cells Q0h 33)
 have F0 := qza Q26 Q0h 33 5 (by decide)
 have K0 := ((Q7g Q7b w).alloc (Q7l _) (.cells Q02 33)).alloc (by simp) (.cells Q0h 33)
 have hz0 : Q7b + 1 < ((Q26).alloc (.cells Q0h 33)).heap.size := by simp
 simp only [World.size_alloc] at F0
 have I0 := I.below (K0.mono hB)
 go_enter Tryz.func54, Tryz.ntmps54
 go_wp2_with fail
 generalize hw0 : (Q26).alloc (.cells Q0h 33) = w0 at *
 clear hw0 I
 refine qz1x 16 (by kernel_rfl) (qzh5 Q7b (Q7b + 2) A a0 a1 a2 a3 c0 c1 c2 c3) qz9b (by kernel_rfl) (by kernel_rfl) (by kernel_rfl) (by kernel_rfl) (by rfl) (fun i v w w' _ h hb => qze7 i v w w' h hb) (fun i v w q hf h hq => qzeq i v w q hf h hq) ?step ?final
 case step =>
  intro i o hik ho a W hb hnn hd K hK
  obtain ⟨x0, x1, x2, x3, x4⟩ := row5 (qz0 X0 hb (by omega))
  have IW := I0.below (hb.mono (by omega))
  have hzW := hb.size
  match i, ho with
  | 0, ho =>
   obtain rfl := Q7i ho
   have e1 : a.eval (.tmp 1) = .pointer (some ⟨Q7b, 0, none⟩) := hnn 1 rfl
   refine qz4 (v := .pointer (some ⟨Q7b, 0, none⟩)) (w' := W) ?_ (hK _ _ rfl (Q7g _ _) (fun h => by cases h))
   generalize a.eval = ev at *
   go_simp
  | 1, ho =>
   obtain rfl := Q7i ho
   have e1 : a.eval (.tmp 3) = .pointer (some ⟨Q7b, 0, none⟩) := hd ⟨0, .data⟩ (by simp) rfl 3 rfl
   refine qz4 (v := .int .i64 Q7m) (w' := W) ?_ (hK _ _ rfl (Q7g _ _) (fun h => by cases h))
   generalize a.eval = ev at *
   go_simp
  | 2, ho =>
   obtain rfl := Q7i ho
   have e1 : a.eval (.tmp 1) = .pointer (some ⟨Q7b, 0, none⟩) := hnn 1 rfl
   refine qz4 (v := .pointer (some ⟨Q7b, 1, none⟩)) (w' := W) ?_ (hK _ _ rfl (Q7g _ _) (fun h => by cases h))
   generalize a.eval = ev at *
   go_simp
  | 3, ho =>
   obtain rfl := Q7i ho
   have e1 : a.eval (.tmp 5) = .pointer (some ⟨Q7b, 1, none⟩) := hd ⟨2, .data⟩ (by simp) rfl 5 rfl
   refine qz4 (v := .slice a0 Q7w c0) (w' := W) ?_ (hK _ _ rfl (Q7g _ _) (fun h => by cases h))
   generalize a.eval = ev at *
   go_simp
  | 4, ho =>
   obtain rfl := Q7i ho
   have e1 : a.eval (.tmp 6) = .slice a0 Q7w c0 := hd ⟨3, .data⟩ (by simp) rfl 6 rfl
   have ef : a.eval (.func 102) = .func (.func 102) #[] #[] := rfl
   refine qz1u (f := 102) (args := #[.slice a0 Q7w c0]) (R := fun v w' => w'.ownsRow W.heap.size 2 1 v Q7w (qzf intC A.slots) /\ Below W.heap.size W w') ?_ ((qz7k B _ A.slots W (by omega) (by omega) IW.s).mono (fun e w' h => h)) (fun v w' h => hK v w' (qz2i h.1 (by omega)) h.2 (fun _ q hq => by rw [qz4i h.1] at hq; exact qz1n h.1 hq))
   generalize a.eval = ev at *
   go_simp
  | 5, ho =>
   obtain rfl := Q7i ho
   have e1 : a.eval (.tmp 1) = .pointer (some ⟨Q7b, 0, none⟩) := hnn 1 rfl
   refine qz4 (v := .pointer (some ⟨Q7b, 2, none⟩)) (w' := W) ?_ (hK _ _ rfl (Q7g _ _) (fun h => by cases h))
   generalize a.eval = ev at *
   go_simp
  | 6, ho =>
   obtain rfl := Q7i ho
   have e1 : a.eval (.tmp 8) = .pointer (some ⟨Q7b, 2, none⟩) := hd ⟨5, .data⟩ (by simp) rfl 8 rfl
   refine qz4 (v := .slice a1 Q7v c1) (w' := W) ?_ (hK _ _ rfl (Q7g _ _) (fun h => by cases h))
   generalize a.eval = ev at *
   go_simp
  | 7, ho =>
   obtain rfl := Q7i ho
   have e1 : a.eval (.tmp 9) = .slice a1 Q7v c1 := hd ⟨6, .data⟩ (by simp) rfl 9 rfl
   have ef : a.eval (.func 102) = .func (.func 102) #[] #[] := rfl
   refine qz1u (f := 102) (args := #[.slice a1 Q7v c1]) (R := fun v w' => w'.ownsRow W.heap.size 2 1 v Q7v (qzf intC A.guides) /\ Below W.heap.size W w') ?_ ((qz7k B _ A.guides W (by omega) (by omega) IW.g).mono (fun e w' h => h)) (fun v w' h => hK v w' (qz2i h.1 (by omega)) h.2 (fun _ q hq => by rw [qz4i h.1] at hq; exact qz1n h.1 hq))
   generalize a.eval = ev at *
   go_simp
  | 8, ho =>
   obtain rfl := Q7i ho
   refine qz4 (v := .slice (some ⟨W.heap.size, 0, none⟩) 0 0) (w' := W.alloc (.cells #[] 99)) ?_ (hK _ _ ⟨_, rfl⟩ ((Q7g _ _).alloc (Q7l _) _) (fun h => by cases h))
   generalize a.eval = ev at *
   go_simp
  | 9, ho =>
   obtain rfl := Q7i ho
   have e1 : a.eval (.tmp 1) = .pointer (some ⟨Q7b, 0, none⟩) := hnn 1 rfl
   refine qz4 (v := .pointer (some ⟨Q7b, 3, none⟩)) (w' := W) ?_ (hK _ _ rfl (Q7g _ _) (fun h => by cases h))
   generalize a.eval = ev at *
   go_simp
  | 10, ho =>
   obtain rfl := Q7i ho
   have e1 : a.eval (.tmp 12) = .pointer (some ⟨Q7b, 3, none⟩) := hd ⟨9, .data⟩ (by simp) rfl 12 rfl
   refine qz4 (v := .slice a2 Q7f c2) (w' := W) ?_ (hK _ _ rfl (Q7g _ _) (fun h => by cases h))
   generalize a.eval = ev at *
   go_simp
  | 11, ho =>
   obtain rfl := Q7i ho
   obtain ⟨g, e1⟩ := (show ∃ g, a.eval (.tmp 11) = .slice (some ⟨g, 0, none⟩) 0 0 from hd ⟨8, .data⟩ (by simp) rfl 11 rfl)
   have e2 : a.eval (.tmp 13) = .slice a2 Q7f c2 := hd ⟨10, .data⟩ (by simp) rfl 13 rfl
   obtain ⟨i0, hi, hzr, hsz, hby⟩ := info_parts qz8w
   obtain ⟨cap, w', hrun, how, hbl, hlt⟩ := qz5x (P := Tryz.prog) W (w.heap.size + 2) 30 30 99 i0 _ 3 24 Tryz.underlying30 hi hzr hsz hby rfl (by decide) g B _ A.nodes.length (qzf ndC A.nodes) IW.n hn (by rw [qz12 (sz := 3) (fun _ => rfl)]) (qz4a qzfn A.nodes) (by unfold maxLen; omega) (by omega) (by omega)
   refine qz4 (v := .slice (some ⟨W.heap.size, 0, none⟩) Q7f cap) (w' := w') ?_ (hK _ _ how hbl (fun h => by cases h))
   generalize a.eval = ev at *
   simp [execOp, resolve, invoke, builtin, e1, e2, hrun, Result.andThen]
  | 12, ho =>
   obtain rfl := Q7i ho
   refine qz4 (v := .slice (some ⟨W.heap.size, 0, none⟩) 0 0) (w' := W.alloc (.cells #[] 65)) ?_ (hK _ _ ⟨_, rfl⟩ ((Q7g _ _).alloc (Q7l _) _) (fun h => by cases h))
   generalize a.eval = ev at *
   go_simp
  | 13, ho =>
   obtain rfl := Q7i ho
   have e1 : a.eval (.tmp 1) = .pointer (some ⟨Q7b, 0, none⟩) := hnn 1 rfl
   refine qz4 (v := .pointer (some ⟨Q7b, 4, none⟩)) (w' := W) ?_ (hK _ _ rfl (Q7g _ _) (fun h => by cases h))
   generalize a.eval = ev at *
   go_simp
  | 14, ho =>
   obtain rfl := Q7i ho
   have e1 : a.eval (.tmp 16) = .pointer (some ⟨Q7b, 4, none⟩) := hd ⟨13, .data⟩ (by simp) rfl 16 rfl
   refine qz4 (v := .slice a3 Q7h c3) (w' := W) ?_ (hK _ _ rfl (Q7g _ _) (fun h => by cases h))
   generalize a.eval = ev at *
   go_simp
  | 15, ho =>
   obtain rfl := Q7i ho
   obtain ⟨g, e1⟩ := (show ∃ g, a.eval (.tmp 15) = .slice (some ⟨g, 0, none⟩) 0 0 from hd ⟨12, .data⟩ (by simp) rfl 15 rfl)
   have e2 : a.eval (.tmp 17) = .slice a3 Q7h c3 := hd ⟨14, .data⟩ (by simp) rfl 17 rfl
   obtain ⟨i0, hi, hzr, hsz, hby⟩ := info_parts qza2
   obtain ⟨cap, w', hrun, how, hbl, hlt⟩ := qz5x (P := Tryz.prog) W (w.heap.size + 2) 31 31 65 i0 _ 5 40 Tryz.underlying31 hi hzr hsz hby rfl (by decide) g B _ A.vers.length (qzf vrC A.vers) IW.r hr (by rw [qz12 (sz := 5) (fun _ => rfl)]) (qz4a qzdi A.vers) (by unfold maxLen; omega) (by omega) (by omega)
   refine qz4 (v := .slice (some ⟨W.heap.size, 0, none⟩) Q7h cap) (w' := w') ?_ (hK _ _ how hbl (fun h => by cases h))
   generalize a.eval = ev at *
   simp [execOp, resolve, invoke, builtin, e1, e2, hrun, Result.andThen]
  | n + 16, ho => omega
 case final =>
  intro vs W hb hG hD
  have g1 : vs 1 = .int .i64 Q7m := hG 1 (by decide)
  have g4 : W.ownsRow (Q7b + 2) 2 1 (vs 4) Q7w (qzf intC A.slots) := hG 4 (by decide)
  have g7 : W.ownsRow (Q7b + 2) 2 1 (vs 7) Q7v (qzf intC A.guides) := hG 7 (by decide)
  have g11 : W.ownsRow (Q7b + 2) 99 3 (vs 11) Q7f (qzf ndC A.nodes) := hG 11 (by decide)
  have g15 : W.ownsRow (Q7b + 2) 65 5 (vs 15) Q7h (qzf vrC A.vers) := hG 15 (by decide)
  have hne : ∀ b, (vs 4).ownBlock = some b -> (vs 7).ownBlock ≠ some b := fun b h => by
   have := hD 4 7 b (by decide) (by decide) (by decide) rfl rfl (by rw [qz4i g4]; exact h)
   rw [qz4i g7] at this
   exact this
  have OW : qz33 (Q7b + 2) W (vs 4) (vs 7) (vs 11) (vs 15) A := ⟨g4, g7, g11, g15, hne⟩
  have FW := qz2 F0 hb (by omega)
  have KW := K0.trans (hb.mono (by omega))
  generalize hl : laid _ vs _ _ _ = A'
  have hA' : A' = { tmps := #[.agg Q02, .pointer (some ⟨Q7b, 0, none⟩), .pointer (some ⟨Q7b + 1, 0, none⟩), vs 0, vs 1, vs 2, vs 3, vs 4, vs 5, vs 6, vs 7, vs 8, vs 9, vs 10, vs 11, vs 12, vs 13, vs 14, vs 15, undef], defers := [] } := by
   rw [<- hl]
   kernel_rfl
  subst hA'
  rw [g1]
  obtain ⟨sa, sc, es⟩ := qzh g4
  obtain ⟨ga, gc, eg⟩ := qzh g7
  obtain ⟨na, nc, en⟩ := qzh g11
  obtain ⟨ra, rc, er⟩ := qzh g15
  rw [es, eg, en, er] at OW ⊢
  clear hl hG hD g1 g4 g7 g11 g15 hne es eg en er X0 F0 I0 K0
  have OF : qz33 Q7b (W.setCells (Q7b + 1) 0 Q4d) Q0b Q09 Q0c Q0m A := (OW.only (qzi (Q7b + 1) _ 0 W) (by omega)).lo (by omega)
  have KF := Below.setCells (B := Q7b) (b := Q7b + 1) (by omega) Q4d 0 _ KW
  go_wp2_with (refine Q7e rfl 33 (.tmp 2) (.tmp 19) rfl (Q7b + 1) 0 Q6d ?hx ?hy ?ht ?hi ?h1 ?_)
  case hx => rfl
  case hy => rfl
  case ht => exact FW
  case hi => exact qz2r
  case h1 => simp [Value.oneCell']
  refine bodyPost_ret (v := .agg Q6d) ?_ rfl ⟨_, _, _, _, rfl, OF, KF⟩
  exact qz3 Tryz.results54 _ _ (Q7b + 1) 0 rfl Q4d _ (Q7c _ _ _ _ FW) Tryz.underlying33 rfl qz2r
end
section
attribute [local go_sem ↓] Go.wp_at_zero Go.wp_at_succ
theorem qz9s {w : World} {base : Nat} {e : TypeId} {sz : Nat} {g n cap : Nat} {xs : List Value} (h : w.ownsRow base e sz Q49 n xs) (k : Nat) (hk : k < n * sz) (u : Value) : (w.setCell ⟨g, k, none⟩ u).ownsRow base e sz Q49 n (xs.set k u) := by
 refine ⟨by rw [List.length_set]; exact h.1, ?_⟩
 rcases h.2 with ⟨h0, _⟩ | ⟨g', cap', cur, e1, hg, hh, hnc, hcm, hs, ht⟩
 ·cases h0
 ·cases e1
  obtain ⟨hlt, hk'⟩ := Array.getElem?_eq_some_iff.1 hh
  refine Or.inr ⟨g, cap, cur.setIfInBounds k u, rfl, hg, ?_, hnc, hcm, by simpa using hs, ?_⟩
  ·show (w.heap.modify g _)[g]? = _
   rw [Array.getElem?_eq_getElem (by rw [Array.size_modify]; exact hlt), Array.getElem_modify_self, hk']
   rfl
  ·rw [Array.toList_setIfInBounds, <- ht, List.take_set]
theorem qz3k {w : World} {base : Nat} {e : TypeId} {sz : Nat} {g n cap : Nat} {xs : List Value} (h : w.ownsRow base e sz Q49 n xs) (k : Nat) (u : Value) (hu : xs[k]? = some u) : w.cell? ⟨g, k, none⟩ = some u /\ w.frozen? ⟨g, k, none⟩ = false := by
 rcases h.2 with ⟨h0, _⟩ | ⟨g', cap', cur, e1, hg, hh, hnc, hcm, hs, ht⟩
 ·cases h0
 ·cases e1
  have hk : k < xs.length := by
   rcases Nat.lt_or_ge k xs.length with h' | h'
   ·exact h'
   ·rw [List.getElem?_eq_none h'] at hu; cases hu
  have h1 : cur.toList[k]? = some u := by
   rw [<- ht] at hu
   rw [List.getElem?_take] at hu
   split at hu
   ·exact hu
   ·cases hu
  constructor
  ·simp only [World.cell?, hh]
   simpa using h1
  ·simp [World.frozen?, hh]
theorem qz4n {α : Type} {f : α -> List Value} {sz : Nat} (hf : ∀ x, (f x).length = sz) : ∀ (l : List α) (i : Nat) (hi : i < l.length) (j : Nat) (hj : j < sz) (y : α) (u : Value), f y = (f l[i]).set j u -> qzf f (l.set i y) = (qzf f l).set (i * sz + j) u
 | x :: l, 0, _, j, hj, y, u, h => by
  simp only [List.set_cons_zero, qzf, List.flatMap_cons, Nat.zero_mul, Nat.zero_add]
  rw [List.set_append_left _ _ (by rw [hf]; exact hj)]
  simp only [List.getElem_cons_zero] at h
  rw [h]
 | x :: l, i + 1, hi, j, hj, y, u, h => by
  have ih := qz4n hf l i (by simpa using hi) j hj y u (by simpa using h)
  simp only [List.set_cons_succ, qzf, List.flatMap_cons] at ih ⊢
  rw [ih, List.set_append_right _ _ (by rw [hf, Nat.add_mul]; omega), hf]
  congr 2
  rw [Nat.add_mul]
  omega
def OwnB (s g n r : Value) (q : Nat) : Prop := s.ownBlock = some q ∨ g.ownBlock = some q ∨ n.ownBlock = some q ∨ r.ownBlock = some q
theorem qz39 {w : World} {base base' : Nat} {e e' : TypeId} {sz sz' : Nat} {v v' : Value} {n n' : Nat} {xs xs' : List Value} (h : w.ownsRow base e sz v n xs) (h' : w.ownsRow base' e' sz' v' n' xs') (hne : e ≠ e') (b : Nat) (hb : v.ownBlock = some b) : v'.ownBlock ≠ some b := by
 intro hb'
 rcases h.2 with ⟨rfl, _⟩ | ⟨g, cap, cur, rfl, _, hh, _⟩
 ·cases hb
 ·rcases h'.2 with ⟨rfl, _⟩ | ⟨g', cap', cur', rfl, _, hh', _⟩
  ·cases hb'
  ·simp [Value.ownBlock] at hb hb'
   subst hb
   subst hb'
   rw [hh] at hh'
   simp at hh'
   exact hne hh'.2
theorem qz27 {w w' : World} {S : Nat -> Prop} {base : Nat} {e : TypeId} {sz : Nat} {v : Value} {n : Nat} {xs : List Value} (h : w.ownsRow base e sz v n xs) (hb : But S w w') (hv : ∀ j, v.ownBlock = some j -> ¬ S j) : w'.ownsRow base e sz v n xs := by
 have hlt := fun j e => qz2t h (j := j) e
 refine ⟨h.1, ?_⟩
 rcases h.2 with h0 | ⟨g, cap, cur, rfl, hg, hh, rest⟩
 ·exact Or.inl h0
 ·exact Or.inr ⟨g, cap, cur, rfl, hg, (hb.block g (hlt g rfl) (hv g rfl)).trans hh, rest⟩
theorem qz33.lt {base : Nat} {w : World} {s g n r : Value} {A : Ar} (O : qz33 base w s g n r A) (q : Nat) (h : OwnB s g n r q) : q < Q7b := by
 rcases h with h | h | h | h
 ·exact qz2t O.rs h
 ·exact qz2t O.rg h
 ·exact qz2t O.rn h
 ·exact qz2t O.rr h
theorem qz33.kept {base : Nat} {w w' : World} {S : Nat -> Prop} {s g n r : Value} {A : Ar} (O : qz33 base w s g n r A) (hb : But S w w') (hv : ∀ q, OwnB s g n r q -> ¬ S q) : qz33 base w' s g n r A :=
 ⟨qz27 O.rs hb (fun j e => hv j (Or.inl e)), qz27 O.rg hb (fun j e => hv j (Or.inr (Or.inl e))), qz27 O.rn hb (fun j e => hv j (Or.inr (Or.inr (Or.inl e)))), qz27 O.rr hb (fun j e => hv j (Or.inr (Or.inr (Or.inr e)))), O.ne⟩
def qz1f (z : Int) (A : Ar) (node v next : Int) (gone : Bool) (kind : Int) : Ar × Int :=
 if z <= (Q7h : Int) then (A, -2)
 else if (ndOf A node).head ≠ v then (A, -1)
 else ({ A with vers := A.vers ++ [⟨next, gone, -1, v, kind⟩], nodes := A.nodes.set node.toNat { ndOf A node with head := (Q7h : Int) } }, (Q7h : Int))
structure qz2j (base : Nat) (w w' : World) (s g n r s' g' n' r' : Value) (A : Ar) : Prop where
 own : qz33 base w' s' g' n' r' A
 but : But (OwnB s g n r) w w'
 blk : ∀ q, OwnB s' g' n' r' q -> OwnB s g n r q ∨ Q7b <= q
theorem qz72 (base : Nat) (A : Ar) (x y z u : Int) (node v next : Int) (gone : Bool) (kind : Int) (s g n r : Value) (w : World) (hbase : base <= Q7b) (hA : A.size <= 1048576) (O : qz33 base w s g n r A) (hn0 : 0 <= node) (hn1 : node < (Q7f : Int)) :
  Calls Tryz.prog 165 #[.agg Q06, .agg Q2w, .int .i64 node, .int .i64 v, .int .i64 next, .bool gone, .int .i64 kind] w fun e w' => ∃ s' g' n' r', e = .returned (.tuple #[.agg #[.int .i64 Q7m, s', g', n', r'], .int .i64 Q45.2]) /\ qz2j base w w' s g n r s' g' n' r' Q45.1 := by
 unfold Ar.size at hA
 have P0 := ((qz1w w x y z u 28).below ((Q7g _ _).alloc (Q7l _) (.cells Q2w 33)) (by simp)).below ((Q7g _ _).alloc (Q7l _) (.cells Q0h 33)) (by simp; omega)
 have X0 := Q7n (qz6 Q4y Q58 33) (.cells Q0h 33)
 have G0 := Q80 (qza Q4y Q2w 33 5 (by simp)) (.cells Q0h 33)
 have F0 := qza ((Q4y).alloc (.cells Q2w 33)) Q0h 33 5 (by decide)
 have K0 := (((Q7g Q7b w).alloc (Q7l _) (.cells Q06 28)).alloc (by simp) (.cells Q2w 33)).alloc (by simp; omega) (.cells Q0h 33)
 have hz0 : Q7b + 1 + 1 < (((Q4y).alloc (.cells Q2w 33)).alloc (.cells Q0h 33)).heap.size := by simp
 simp only [World.size_alloc] at X0 G0 F0
 obtain ⟨sa, sc, rfl⟩ := qzh O.rs
 obtain ⟨ga, gc, rfl⟩ := qzh O.rg
 have hnp : 0 < Q7f := by omega
 obtain ⟨nb, nc, rfl⟩ := qz1c O.rn hnp
 obtain ⟨ra, rc, rfl⟩ := qzh O.rr
 have O0 := O.below K0
 obtain ⟨k, rfl⟩ : ∃ k : Nat, node = k := ⟨node.toNat, by omega⟩
 have hk : k < Q7f := by omega
 have hk' : (k : Int) < (Q7f : Int) := by omega
 have hk0 : (0 : Int) <= (k : Int) := by omega
 have hnd : ndOf A (k : Int) = A.nodes[k] := qz1d A k hk
 have hnb := qz1n O.rn (j := nb) rfl
 have hnl := qz2t O.rn (j := nb) rfl
 have c2 := qz3k O0.rn (k * 3 + 2) (.int .i64 A.nodes[k].head) (by rw [qz1h (sz := 3) (fun _ => rfl) A.nodes k hk 2 (by omega)]; rfl)
 go_enter Tryz.func165, Tryz.ntmps165
 have tok : True := trivial
 go_wp2_with (clear tok; refine qz1q (((Q4y).alloc (.cells Q23 33)).alloc (.cells Q0h 33)) ?_)
 generalize hw0 : ((Q4y).alloc (.cells Q23 33)).alloc (.cells Q0h 33) = w0 at *
 show wpList _ _ _ _ _ w0
 clear hw0
 obtain ⟨p0, p1, p2, p3⟩ := P0
 obtain ⟨x0, x1, x2, x3, x4⟩ := row5 X0
 obtain ⟨c2, c2f⟩ := c2
 by_cases hfull : z <= (Q7h : Int)
 case pos =>
  have hv : Hid (qz1f z A (k : Int) v next gone kind = (A, -2)) := by show _ = _; simp [qz1f, hfull]
  have OF := O0.kept (S := fun q => q = Q7b + 1 + 1) (But.of_only (qzi (Q7b + 1 + 1) Q27 0 w0) rfl) (fun q hq => by have := O.lt q hq; omega)
  have KF := Below.setCells (B := Q7b) (b := Q7b + 1 + 1) (by omega) Q27 0 _ K0
  go_wp2_with (refine wpList_store_mid rfl 33 (.tmp 14) _ rfl (w.heap.size + 1 + 1) 0 Q23 ?hx ?hy ?ht (by exact qz2r) (by simp [Value.oneCell']) ?_)
  case hx => rfl
  case hy => rfl
  case ht => exact F0
  refine bodyPost_ret (v := .tuple #[.agg Q23, .int .i64 (-2)]) ?_ rfl ⟨_, _, _, _, by rw [hv.out], by rw [hv.out]; exact ⟨OF, But.of_below KF, fun q h => Or.inl h⟩⟩
  exact qzk Tryz.results165 _ _ (Q7b + 1 + 1) 0 rfl Q27 _ (Q7c _ _ _ _ F0) Tryz.underlying33 rfl qz2r
 by_cases hh : A.nodes[k].head = v
 case neg =>
  have bh : (A.nodes[k].head == v) = false := by simp [hh]
  have bh' : (A.nodes[k].head != v) = true := by simp [hh]
  have hv : Hid (qz1f z A (k : Int) v next gone kind = (A, -1)) := by show _ = _; simp [qz1f, hfull, hnd, hh]
  have OF := O0.kept (S := fun q => q = Q7b + 1 + 1) (But.of_only (qzi (Q7b + 1 + 1) Q27 0 w0) rfl) (fun q hq => by have := O.lt q hq; omega)
  have KF := Below.setCells (B := Q7b) (b := Q7b + 1 + 1) (by omega) Q27 0 _ K0
  go_wp2_with (refine wpList_store_mid rfl 33 (.tmp 14) _ rfl (w.heap.size + 1 + 1) 0 Q23 ?hx2 ?hy2 ?ht2 (by exact qz2r) (by simp [Value.oneCell']) ?_)
  try (case hx2 => rfl)
  try (case hy2 => rfl)
  try (case ht2 => exact F0)
  refine bodyPost_ret (v := .tuple #[.agg Q23, .int .i64 (-1)]) ?_ rfl ⟨_, _, _, _, by rw [hv.out], by rw [hv.out]; exact ⟨OF, But.of_below KF, fun q h => Or.inl h⟩⟩
  exact qzk Tryz.results165 _ _ (Q7b + 1 + 1) 0 rfl Q27 _ (Q7c _ _ _ _ F0) Tryz.underlying33 rfl qz2r
 subst hh
 have hv : Hid (qz1f z A (k : Int) A.nodes[k].head next gone kind = ({ A with vers := A.vers ++ [⟨next, gone, -1, A.nodes[k].head, kind⟩], nodes := A.nodes.set k { A.nodes[k] with head := (Q7h : Int) } }, (Q7h : Int))) := by show _ = _; simp [qz1f, hfull, hnd]
 obtain ⟨i0, hi, hzr, hsz, hby⟩ := info_parts qza2
 have f4 : w0.frozen? ⟨Q7b + 1, 4, none⟩ = false := by simpa using (G0 4 (by decide)).2
 have hrb : ∀ j, Value.ownBlock Q0m = some j -> j < Q7b := fun j e => qz2t O.rr e
 have hnr : Value.ownBlock Q0m ≠ some nb := qz39 O.rn O.rr (by decide) nb rfl
 have OR := O0.rr.alloc Q7a
 have news := qz6 w0 (vrC ⟨next, gone, -1, A.nodes[k].head, kind⟩) 65
 go_upto_region 6 with fail
 go_wp2_with (at_builtin; refine wpList_append_own_at _ rfl _ _ 31 rfl base 65 i0 _ 5 40 Tryz.underlying31 hi hzr hsz hby rfl (by decide) _ _ _ rfl OR ⟨Q7r, 0, none⟩ 1 1 (vrC ⟨next, gone, -1, A.nodes[k].head, kind⟩) rfl rfl ?n1 ?n2 ?n3 ?n4 ?n5 ?_)
 case n1 => exact fun j q hq => hq
 case n2 => exact qzdi _
 case n3 => unfold maxLen; omega
 case n4 => omega
 case n5 => omega
 intro r2 w1 hown hgrow _ hat
 obtain ⟨ra2, rc2, rfl⟩ := qzh hown
 have hsA : (w0.alloc Q7a).heap.size = Q7r + 1 := by simp
 have B01 : But (fun q => Value.ownBlock Q0m = some q) w0 w1 := ⟨hgrow.os, hgrow.tape, hgrow.output, Q7u (by omega) hgrow.size, fun q hq hn => (hgrow.block q (by omega) (fun e => hn e.symm)).trans (Below.heap_alloc _ _ _ hq)⟩
 have far : ∀ b o, b < Q7r -> Value.ownBlock Q0m ≠ some b -> w1.cell? ⟨b, o, none⟩ = w0.cell? ⟨b, o, none⟩ := fun b o h1 h2 => B01.cell (p := ⟨b, o, none⟩) h1 h2
 have farf : ∀ b o, b < Q7r -> Value.ownBlock Q0m ≠ some b -> w1.frozen? ⟨b, o, none⟩ = w0.frozen? ⟨b, o, none⟩ := fun b o h1 h2 => B01.frozen (p := ⟨b, o, none⟩) h1 h2
 have hr1 : Value.ownBlock Q0m ≠ some (Q7b + 1) := fun e => by have := hrb _ e; omega
 have hr2 : Value.ownBlock Q0m ≠ some (Q7b + 1 + 1) := fun e => by have := hrb _ e; omega
 have y0 := (far (Q7b + 1) 0 (by omega) hr1).trans x0
 have y1 := (far (Q7b + 1) 1 (by omega) hr1).trans x1
 have y2 := (far (Q7b + 1) 2 (by omega) hr1).trans x2
 have y3 := (far (Q7b + 1) 3 (by omega) hr1).trans x3
 have y4 := (far (Q7b + 1) 4 (by omega) hr1).trans x4
 have z4 := (farf (Q7b + 1) 4 (by omega) hr1).trans f4
 have m2 := (far nb (k * 3 + 2) (by omega) hnr).trans c2
 have m2f := (farf nb (k * 3 + 2) (by omega) hnr).trans c2f
 have F1 : w1.there (Q7b + 1 + 1) 0 5 := B01.there F0 (by omega) hr2
 have e1 : ¬ (nb = Q7b + 1) := by omega
 have e2 : ¬ (Q7b + 1 = nb) := by omega
 have F3 : ((w1.setCell ⟨Q7b + 1, 4, none⟩ Q2l).setCell ⟨nb, k * 3 + 2, none⟩ (.int .i64 (Q7h : Int))).there (Q7b + 1 + 1) 0 5 := qz5 (qz5 F1 _ _) _ _
 have B13 : But (fun q => q = Q7b + 1 ∨ q = nb ∨ q = Q7b + 1 + 1) w1 (((w1.setCell ⟨Q7b + 1, 4, none⟩ Q2l).setCell ⟨nb, k * 3 + 2, none⟩ (.int .i64 (Q7h : Int))).setCells (Q7b + 1 + 1) 0 Q20) :=
  (But.of_only ((Only.refl (Q7b + 1) w1).setCell (p := ⟨Q7b + 1, 4, none⟩) (Or.inl rfl) _) (Or.inl rfl)).trans ((But.of_only ((Only.refl nb _).setCell (p := ⟨nb, k * 3 + 2, none⟩) (Or.inl rfl) _) (Or.inr (Or.inl rfl))).trans (But.of_only (qzi (Q7b + 1 + 1) _ 0 _) (Or.inr (Or.inr rfl))))
 have B03 : But (fun q => Value.ownBlock Q0m = some q ∨ q = Q7b + 1 ∨ q = nb ∨ q = Q7b + 1 + 1) w0 (((w1.setCell ⟨Q7b + 1, 4, none⟩ Q2l).setCell ⟨nb, k * 3 + 2, none⟩ (.int .i64 (Q7h : Int))).setCells (Q7b + 1 + 1) 0 Q20) := (B01.mono (fun _ h => Or.inl h)).trans (B13.mono (fun _ h => Or.inr h))
 have hn1 := qz27 O0.rn B01 (fun j e => by simp [Value.ownBlock] at e; subst e; exact hnr)
 have hn2 := qz27 hn1 (But.of_only (S := fun q => q = Q7b + 1) ((Only.refl (Q7b + 1) w1).setCell (p := ⟨Q7b + 1, 4, none⟩) (Or.inl rfl) Q2l) rfl) (fun j e => by simp [Value.ownBlock] at e; subst e; exact e1)
 have hn3 := qz9s hn2 (k * 3 + 2) (by omega) (.int .i64 (Q7h : Int))
 rw [<- qz4n (f := ndC) (sz := 3) (fun _ => rfl) A.nodes k hk 2 (by omega) { A.nodes[k] with head := (A.vers.length : Int) } (.int .i64 (A.vers.length : Int)) rfl] at hn3
 have hn4 := qz27 hn3 (But.of_only (S := fun q => q = Q7b + 1 + 1) (qzi (Q7b + 1 + 1) Q20 0 _) rfl) (fun j e => by simp [Value.ownBlock] at e; omega)
 have hr4 := qz27 hown B13 (fun j e => by
  rcases hat with h | h
  ·rw [h] at e
   have := hrb j e
   rintro (h1 | h1 | h1)
   ·omega
   ·subst h1; exact hnr e
   ·omega
  ·rw [h] at e
   simp only [Option.some.injEq] at e
   rintro (h1 | h1 | h1) <;> omega)
 have OF : qz33 base (((w1.setCell ⟨Q7b + 1, 4, none⟩ Q2l).setCell ⟨nb, k * 3 + 2, none⟩ (.int .i64 (Q7h : Int))).setCells (Q7b + 1 + 1) 0 Q20) Q0b Q09 Q0e Q2l { A with vers := A.vers ++ [⟨next, gone, -1, A.nodes[k].head, kind⟩], nodes := A.nodes.set k { A.nodes[k] with head := (Q7h : Int) } } := by
  refine ⟨qz27 O0.rs B03 ?_, qz27 O0.rg B03 ?_, by simpa using hn4, by simpa [qz29] using hr4, O.ne⟩
  ·intro j e
   have h1 := qz2t O.rs e
   rintro (h2 | h2 | h2 | h2)
   ·exact qz39 O.rs O.rr (by decide) j e h2
   ·omega
   ·subst h2; exact qz39 O.rs O.rn (by decide) _ e rfl
   ·omega
  ·intro j e
   have h1 := qz2t O.rg e
   rintro (h2 | h2 | h2 | h2)
   ·exact qz39 O.rg O.rr (by decide) j e h2
   ·omega
   ·subst h2; exact qz39 O.rg O.rn (by decide) _ e rfl
   ·omega
 have BF : But (OwnB Q0b Q09 Q0e Q0m) w (((w1.setCell ⟨Q7b + 1, 4, none⟩ Q2l).setCell ⟨nb, k * 3 + 2, none⟩ (.int .i64 (Q7h : Int))).setCells (Q7b + 1 + 1) 0 Q20) :=
  ⟨B03.os.trans K0.os, B03.tape.trans K0.tape, B03.output.trans K0.output, Q7u K0.size B03.size, fun q hq hn => (B03.block q (by omega) (by
   rintro (h2 | h2 | h2 | h2)
   ·exact hn (Or.inr (Or.inr (Or.inr h2)))
   ·omega
   ·subst h2; exact hn (Or.inr (Or.inr (Or.inl rfl)))
   ·omega)).trans (K0.block q hq)⟩
 have LF : ∀ q, OwnB Q0b Q09 Q0e Q2l q -> OwnB Q0b Q09 Q0e Q0m q ∨ Q7b <= q := by
  rintro q (h | h | h | h)
  ·exact Or.inl (Or.inl h)
  ·exact Or.inl (Or.inr (Or.inl h))
  ·exact Or.inl (Or.inr (Or.inr (Or.inl h)))
  ·rcases hat with h' | h'
   ·rw [h'] at h; exact Or.inl (Or.inr (Or.inr (Or.inr h)))
   ·rw [h'] at h
    simp only [Option.some.injEq] at h
    exact Or.inr (by omega)
 clear x0 x1 x2 x3 x4 f4 c2 c2f far farf hown hgrow hat OR news B01 B03 B13 hn1 hn2 hn3 hn4 hr4 p0 p1 p2 p3
 go_wp2_with (refine wpList_store_mid rfl 33 (.tmp 14) _ rfl (w.heap.size + 1 + 1) 0 Q5s ?hx3 ?hy3 ?ht3 (by exact qz2r) (by simp [Value.oneCell']) ?_)
 try (case hx3 => rfl)
 try (case hy3 => rfl)
 try (case ht3 => exact F3)
 refine bodyPost_ret (v := .tuple #[.agg Q5s, .int .i64 (Q7h : Int)]) ?_ rfl ⟨_, _, _, _, by rw [hv.out], by rw [hv.out]; exact ⟨OF, BF, LF⟩⟩
 exact qzk Tryz.results165 _ _ (Q7b + 1 + 1) 0 rfl Q20 _ (Q7c _ _ _ _ F3) Tryz.underlying33 rfl qz2r
end
end Go.Proofs.YthjkdnlmopafkaaGreat
