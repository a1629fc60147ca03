/-
  What the law's proof goes by, part 6.
-/
import Derived.Deep.OwnRows
import Derived.RangeFuncRecord
import Derived.Test.YthjkdnlmopafkaaFnBlank00
import Derived.Test.YthjkdnlmopafkaaFnBlank01
import Derived.Test.YthjkdnlmopafkaaFnBlank04
namespace Go.Proofs.Ythjkdnlmopafkaa
open Go.ChangeShapes Go.WideShapes Go.ChangeAt Go.RowKit
set_option maxRecDepth 100000
set_option maxHeartbeats 16000000
set_option linter.unusedVariables false
set_option linter.unusedSimpArgs false
set_option linter.unnecessarySimpa false
set_option linter.unusedSectionVars false
section
attribute [local go_sem ↓] Go.wp_at_zero Go.wp_at_succ
theorem qz28 {w : World} {base base' : Nat} {e : TypeId} {sz : Nat} {v : Value} {n : Nat} {xs : List Value} (h : w.ownsRow base e sz v n xs) (hb : base' <= base) : w.ownsRow base' e sz v n xs := by
 refine ⟨h.1, ?_⟩
 rcases h.2 with h0 | ⟨g, cap, cur, rfl, hg, rest⟩
 ·exact Or.inl h0
 ·exact Or.inr ⟨g, cap, cur, rfl, Q6s hb hg, rest⟩
theorem qz1l {w w' : World} {base : Nat} {e : TypeId} {sz : Nat} {v : Value} {n : Nat} {xs : List Value} (h : w.ownsRow base e sz v n xs) (hb : Below Q67 w w') : w'.ownsRow base e sz v n xs := qzcb h hb (fun j e => qz2c h e)
theorem qzj {w w' : World} {base b : Nat} {e : TypeId} {sz : Nat} {v : Value} {n : Nat} {xs : List Value} (h : w.ownsRow base e sz v n xs) (hb : Only b w w') (hv : ∀ j, v.ownBlock = some j -> j ≠ b) : w'.ownsRow base e sz v n xs := by
 have hlt := fun j e => qz2c h (j := j) e
 refine ⟨h.1, ?_⟩
 rcases h.2 with h0 | ⟨g, cap, cur, rfl, hg, hh, rest⟩
 ·exact Or.inl h0
 ·exact Or.inr ⟨g, cap, cur, rfl, hg, (hb.block g (hlt g rfl) (hv g rfl)).trans hh, rest⟩
theorem qz3d {w : World} {base : Nat} {e : TypeId} {sz : Nat} {v : Value} {n : Nat} {xs : List Value} (h : w.ownsRow base e sz v n xs) : qz3e v = v.ownBlock := by
 obtain ⟨a, c, rfl⟩ := qzg h
 cases a <;> rfl
theorem qz2w {w : World} {base : Nat} {e : TypeId} {sz : Nat} {v : Value} {n : Nat} {xs : List Value} (h : w.ownsRow base e sz v n xs) : qzs Q67 w v n xs := by
 obtain ⟨b, a, cap, o, rfl, hN⟩ := qze9 h
 refine ⟨a, cap, rfl, ?_⟩
 rcases hN with h0 | ⟨rfl, _, hlt, R, _⟩
 ·exact Or.inl h0
 ·exact Or.inr ⟨b, o, rfl, hlt, R⟩
structure qz21 (base : Nat) (w : World) (s g n r : Value) (A : Ar) : Prop where
 rs : w.ownsRow base 2 1 s Q6o (qze intC A.slots)
 rg : w.ownsRow base 2 1 g Q6p (qze intC A.guides)
 rn : w.ownsRow base 78 3 n Q69 (qze ndC A.nodes)
 rr : w.ownsRow base 54 5 r Q6a (qze vrC A.vers)
 ne : ∀ b, s.ownBlock = some b -> g.ownBlock ≠ some b
theorem qz21.is {base : Nat} {w : World} {s g n r : Value} {A : Ar} (O : qz21 base w s g n r A) : qz1i Q67 w s g n r A := ⟨qz2w O.rs, qz2w O.rg, qz2w O.rn, qz2w O.rr⟩
theorem qz21.below {base : Nat} {w w' : World} {s g n r : Value} {A : Ar} (O : qz21 base w s g n r A) (hb : Below Q67 w w') : qz21 base w' s g n r A := ⟨qz1l O.rs hb, qz1l O.rg hb, qz1l O.rn hb, qz1l O.rr hb, O.ne⟩
theorem qz21.only {base b : Nat} {w w' : World} {s g n r : Value} {A : Ar} (O : qz21 base w s g n r A) (hb : Only b w w') (hl : b < base) : qz21 base w' s g n r A :=
 ⟨qzj O.rs hb (fun j e => by have := qz19 O.rs e; omega), qzj O.rg hb (fun j e => by have := qz19 O.rg e; omega), qzj O.rn hb (fun j e => by have := qz19 O.rn e; omega), qzj O.rr hb (fun j e => by have := qz19 O.rr e; omega), O.ne⟩
theorem qz21.lo {base base' : Nat} {w : World} {s g n r : Value} {A : Ar} (O : qz21 base w s g n r A) (hb : base' <= base) : qz21 base' w s g n r A := ⟨qz28 O.rs hb, qz28 O.rg hb, qz28 O.rn hb, qz28 O.rr hb, O.ne⟩
def qzej (b bs : Nat) (A : Ar) (a0 a1 a2 a3 : Option Addr) (c0 c1 c2 c3 : Nat) : Nat -> Value -> World -> Prop
 | 0, v, _ => v = .pointer (some ⟨b, 0, none⟩)
 | 1, v, _ => v = .int .i64 Q6e
 | 2, v, _ => v = .pointer (some ⟨b, 1, none⟩)
 | 3, v, _ => v = .slice a0 Q6o c0
 | 4, v, w => w.ownsRow bs 2 1 v Q6o (qze intC A.slots)
 | 5, v, _ => v = .pointer (some ⟨b, 2, none⟩)
 | 6, v, _ => v = .slice a1 Q6p c1
 | 7, v, w => w.ownsRow bs 2 1 v Q6p (qze intC A.guides)
 | 8, v, _ => ∃ g, v = .slice (some ⟨g, 0, none⟩) 0 0
 | 9, v, _ => v = .pointer (some ⟨b, 3, none⟩)
 | 10, v, _ => v = .slice a2 Q69 c2
 | 11, v, w => w.ownsRow bs 78 3 v Q69 (qze ndC A.nodes)
 | 12, v, _ => ∃ g, v = .slice (some ⟨g, 0, none⟩) 0 0
 | 13, v, _ => v = .pointer (some ⟨b, 4, none⟩)
 | 14, v, _ => v = .slice a3 Q6a c3
 | 15, v, w => w.ownsRow bs 54 5 v Q6a (qze vrC A.vers)
 | _, _, _ => True
def qz7g : Nat -> Bool
 | 4 => true
 | 7 => true
 | _ => false
theorem qzc5 {b bs : Nat} {A : Ar} {a0 a1 a2 a3 : Option Addr} {c0 c1 c2 c3 : Nat} (i : Nat) (v : Value) (w w' : World) (h : qzej b bs A a0 a1 a2 a3 c0 c1 c2 c3 i v w) (hb : Below Q67 w w') : qzej b bs A a0 a1 a2 a3 c0 c1 c2 c3 i v w' := by
 match i, h with
 | 0, h => exact h
 | 1, h => exact h
 | 2, h => exact h
 | 3, h => exact h
 | 4, h => exact qz1l h hb
 | 5, h => exact h
 | 6, h => exact h
 | 7, h => exact qz1l h hb
 | 8, h => exact h
 | 9, h => exact h
 | 10, h => exact h
 | 11, h => exact qz1l h hb
 | 12, h => exact h
 | 13, h => exact h
 | 14, h => exact h
 | 15, h => exact qz1l h hb
 | i + 16, h => exact trivial
theorem qzcv {b bs : Nat} {A : Ar} {a0 a1 a2 a3 : Option Addr} {c0 c1 c2 c3 : Nat} (i : Nat) (v : Value) (w : World) (q : Nat) (hf : qz7g i = true) (h : qzej b bs A a0 a1 a2 a3 c0 c1 c2 c3 i v w) (hq : qz3e v = some q) : q < Q67 := by
 unfold qz7g at hf
 split at hf
 ·rw [qz3d h] at hq; exact qz2c h hq
 ·rw [qz3d h] at hq; exact qz2c h hq
 ·cases hf
theorem qz8a (B : Nat) (A : Ar) (a0 a1 a2 a3 : Option Addr) (c0 c1 c2 c3 : Nat) (w : World) (hB : B <= Q67) (hA : A.size <= 1048576) (I : qz1i B w Q17 Q18 Q1b Q1t A) (hs : 0 < Q6o) (hg : 0 < Q6p) (hn : 0 < Q69) (hr : 0 < Q6a) :
  Calls Try.prog 98 #[.agg Q03] w fun e w' => ∃ s g n r, e = .returned (.agg Q3o) /\ qz21 Q67 w' s g n r A /\ Below Q67 w w' := by
 unfold Ar.size at hA
 have X0 := Q6w (qz7 w Q0k 30) (.cells Q0d 30)
 have F0 := qzf Q47 Q0d 30 5 (by decide)
 have K0 := ((Q6c Q67 w).alloc (Q6f _) (.cells Q03 30)).alloc (by simp) (.cells Q0d 30)
 have hz0 : Q67 + 1 < ((Q47).alloc (.cells Q0d 30)).heap.size := by simp
 simp only [World.size_alloc] at F0
 have I0 := I.below (K0.mono hB)
 go_enter Try.func98, Try.ntmps98
 go_wp2_with fail
 generalize hw0 : (Q47).alloc (.cells Q0d 30) = w0 at *
 clear hw0 I
 refine qz2m 16 (by kernel_rfl) (qzej Q67 (Q67 + 2) A a0 a1 a2 a3 c0 c1 c2 c3) qz7g (by kernel_rfl) (by kernel_rfl) (by kernel_rfl) (by kernel_rfl) (by rfl) (fun i v w w' _ h hb => qzc5 i v w w' h hb) (fun i v w q hf h hq => qzcv i v w q hf h hq) ?step ?final
 case step =>
  intro i o hik ho a W hb hnn hd K hK
  obtain ⟨x0, x1, x2, x3, x4⟩ := row5 (qz0 X0 hb (by omega))
  have IW := I0.below (hb.mono (by omega))
  have hzW := hb.size
  match i, ho with
  | 0, ho =>
   obtain rfl := Q68 ho
   have e1 : a.eval (.tmp 1) = .pointer (some ⟨Q67, 0, none⟩) := hnn 1 rfl
   refine qz1 (v := .pointer (some ⟨Q67, 0, none⟩)) (w' := W) ?_ (hK _ _ rfl (Q6c _ _) (fun h => by cases h))
   generalize a.eval = ev at *
   go_simp
  | 1, ho =>
   obtain rfl := Q68 ho
   have e1 : a.eval (.tmp 3) = .pointer (some ⟨Q67, 0, none⟩) := hd ⟨0, .data⟩ (by simp) rfl 3 rfl
   refine qz1 (v := .int .i64 Q6e) (w' := W) ?_ (hK _ _ rfl (Q6c _ _) (fun h => by cases h))
   generalize a.eval = ev at *
   go_simp
  | 2, ho =>
   obtain rfl := Q68 ho
   have e1 : a.eval (.tmp 1) = .pointer (some ⟨Q67, 0, none⟩) := hnn 1 rfl
   refine qz1 (v := .pointer (some ⟨Q67, 1, none⟩)) (w' := W) ?_ (hK _ _ rfl (Q6c _ _) (fun h => by cases h))
   generalize a.eval = ev at *
   go_simp
  | 3, ho =>
   obtain rfl := Q68 ho
   have e1 : a.eval (.tmp 5) = .pointer (some ⟨Q67, 1, none⟩) := hd ⟨2, .data⟩ (by simp) rfl 5 rfl
   refine qz1 (v := .slice a0 Q6o c0) (w' := W) ?_ (hK _ _ rfl (Q6c _ _) (fun h => by cases h))
   generalize a.eval = ev at *
   go_simp
  | 4, ho =>
   obtain rfl := Q68 ho
   have e1 : a.eval (.tmp 6) = .slice a0 Q6o c0 := hd ⟨3, .data⟩ (by simp) rfl 6 rfl
   have ef : a.eval (.func 99) = .func (.func 99) #[] #[] := rfl
   refine qz1d (f := 99) (args := #[.slice a0 Q6o c0]) (R := fun v w' => w'.ownsRow W.heap.size 2 1 v Q6o (qze intC A.slots) /\ Below W.heap.size W w') ?_ ((qz6c B _ A.slots W (by omega) (by omega) IW.s).mono (fun e w' h => h)) (fun v w' h => hK v w' (qz28 h.1 (by omega)) h.2 (fun _ q hq => by rw [qz3d h.1] at hq; exact qz19 h.1 hq))
   generalize a.eval = ev at *
   go_simp
  | 5, ho =>
   obtain rfl := Q68 ho
   have e1 : a.eval (.tmp 1) = .pointer (some ⟨Q67, 0, none⟩) := hnn 1 rfl
   refine qz1 (v := .pointer (some ⟨Q67, 2, none⟩)) (w' := W) ?_ (hK _ _ rfl (Q6c _ _) (fun h => by cases h))
   generalize a.eval = ev at *
   go_simp
  | 6, ho =>
   obtain rfl := Q68 ho
   have e1 : a.eval (.tmp 8) = .pointer (some ⟨Q67, 2, none⟩) := hd ⟨5, .data⟩ (by simp) rfl 8 rfl
   refine qz1 (v := .slice a1 Q6p c1) (w' := W) ?_ (hK _ _ rfl (Q6c _ _) (fun h => by cases h))
   generalize a.eval = ev at *
   go_simp
  | 7, ho =>
   obtain rfl := Q68 ho
   have e1 : a.eval (.tmp 9) = .slice a1 Q6p c1 := hd ⟨6, .data⟩ (by simp) rfl 9 rfl
   have ef : a.eval (.func 99) = .func (.func 99) #[] #[] := rfl
   refine qz1d (f := 99) (args := #[.slice a1 Q6p c1]) (R := fun v w' => w'.ownsRow W.heap.size 2 1 v Q6p (qze intC A.guides) /\ Below W.heap.size W w') ?_ ((qz6c B _ A.guides W (by omega) (by omega) IW.g).mono (fun e w' h => h)) (fun v w' h => hK v w' (qz28 h.1 (by omega)) h.2 (fun _ q hq => by rw [qz3d h.1] at hq; exact qz19 h.1 hq))
   generalize a.eval = ev at *
   go_simp
  | 8, ho =>
   obtain rfl := Q68 ho
   refine qz1 (v := .slice (some ⟨W.heap.size, 0, none⟩) 0 0) (w' := W.alloc (.cells #[] 78)) ?_ (hK _ _ ⟨_, rfl⟩ ((Q6c _ _).alloc (Q6f _) _) (fun h => by cases h))
   generalize a.eval = ev at *
   go_simp
  | 9, ho =>
   obtain rfl := Q68 ho
   have e1 : a.eval (.tmp 1) = .pointer (some ⟨Q67, 0, none⟩) := hnn 1 rfl
   refine qz1 (v := .pointer (some ⟨Q67, 3, none⟩)) (w' := W) ?_ (hK _ _ rfl (Q6c _ _) (fun h => by cases h))
   generalize a.eval = ev at *
   go_simp
  | 10, ho =>
   obtain rfl := Q68 ho
   have e1 : a.eval (.tmp 12) = .pointer (some ⟨Q67, 3, none⟩) := hd ⟨9, .data⟩ (by simp) rfl 12 rfl
   refine qz1 (v := .slice a2 Q69 c2) (w' := W) ?_ (hK _ _ rfl (Q6c _ _) (fun h => by cases h))
   generalize a.eval = ev at *
   go_simp
  | 11, ho =>
   obtain rfl := Q68 ho
   obtain ⟨g, e1⟩ := (show ∃ g, a.eval (.tmp 11) = .slice (some ⟨g, 0, none⟩) 0 0 from hd ⟨8, .data⟩ (by simp) rfl 11 rfl)
   have e2 : a.eval (.tmp 13) = .slice a2 Q69 c2 := hd ⟨10, .data⟩ (by simp) rfl 13 rfl
   obtain ⟨i0, hi, hzr, hsz, hby⟩ := info_parts qz8v
   obtain ⟨cap, w', hrun, how, hbl, hlt⟩ := qz50 (P := Try.prog) W (w.heap.size + 2) 27 27 78 i0 _ 3 24 Try.underlying27 hi hzr hsz hby rfl (by decide) g B _ A.nodes.length (qze ndC A.nodes) IW.n hn (by rw [qz1o (sz := 3) (fun _ => rfl)]) (qz3q qzd2 A.nodes) (by unfold maxLen; omega) (by omega) (by omega)
   refine qz1 (v := .slice (some ⟨W.heap.size, 0, none⟩) Q69 cap) (w' := w') ?_ (hK _ _ how hbl (fun h => by cases h))
   generalize a.eval = ev at *
   simp [execOp, resolve, invoke, builtin, e1, e2, hrun, Result.andThen]
  | 12, ho =>
   obtain rfl := Q68 ho
   refine qz1 (v := .slice (some ⟨W.heap.size, 0, none⟩) 0 0) (w' := W.alloc (.cells #[] 54)) ?_ (hK _ _ ⟨_, rfl⟩ ((Q6c _ _).alloc (Q6f _) _) (fun h => by cases h))
   generalize a.eval = ev at *
   go_simp
  | 13, ho =>
   obtain rfl := Q68 ho
   have e1 : a.eval (.tmp 1) = .pointer (some ⟨Q67, 0, none⟩) := hnn 1 rfl
   refine qz1 (v := .pointer (some ⟨Q67, 4, none⟩)) (w' := W) ?_ (hK _ _ rfl (Q6c _ _) (fun h => by cases h))
   generalize a.eval = ev at *
   go_simp
  | 14, ho =>
   obtain rfl := Q68 ho
   have e1 : a.eval (.tmp 16) = .pointer (some ⟨Q67, 4, none⟩) := hd ⟨13, .data⟩ (by simp) rfl 16 rfl
   refine qz1 (v := .slice a3 Q6a c3) (w' := W) ?_ (hK _ _ rfl (Q6c _ _) (fun h => by cases h))
   generalize a.eval = ev at *
   go_simp
  | 15, ho =>
   obtain rfl := Q68 ho
   obtain ⟨g, e1⟩ := (show ∃ g, a.eval (.tmp 15) = .slice (some ⟨g, 0, none⟩) 0 0 from hd ⟨12, .data⟩ (by simp) rfl 15 rfl)
   have e2 : a.eval (.tmp 17) = .slice a3 Q6a c3 := hd ⟨14, .data⟩ (by simp) rfl 17 rfl
   obtain ⟨i0, hi, hzr, hsz, hby⟩ := info_parts qz9p
   obtain ⟨cap, w', hrun, how, hbl, hlt⟩ := qz50 (P := Try.prog) W (w.heap.size + 2) 28 28 54 i0 _ 5 40 Try.underlying28 hi hzr hsz hby rfl (by decide) g B _ A.vers.length (qze vrC A.vers) IW.r hr (by rw [qz1o (sz := 5) (fun _ => rfl)]) (qz3q qzbr A.vers) (by unfold maxLen; omega) (by omega) (by omega)
   refine qz1 (v := .slice (some ⟨W.heap.size, 0, none⟩) Q6a cap) (w' := w') ?_ (hK _ _ how hbl (fun h => by cases h))
   generalize a.eval = ev at *
   simp [execOp, resolve, invoke, builtin, e1, e2, hrun, Result.andThen]
  | n + 16, ho => omega
 case final =>
  intro vs W hb hG hD
  have g1 : vs 1 = .int .i64 Q6e := hG 1 (by decide)
  have g4 : W.ownsRow (Q67 + 2) 2 1 (vs 4) Q6o (qze intC A.slots) := hG 4 (by decide)
  have g7 : W.ownsRow (Q67 + 2) 2 1 (vs 7) Q6p (qze intC A.guides) := hG 7 (by decide)
  have g11 : W.ownsRow (Q67 + 2) 78 3 (vs 11) Q69 (qze ndC A.nodes) := hG 11 (by decide)
  have g15 : W.ownsRow (Q67 + 2) 54 5 (vs 15) Q6a (qze vrC A.vers) := hG 15 (by decide)
  have hne : ∀ b, (vs 4).ownBlock = some b -> (vs 7).ownBlock ≠ some b := fun b h => by
   have := hD 4 7 b (by decide) (by decide) (by decide) rfl rfl (by rw [qz3d g4]; exact h)
   rw [qz3d g7] at this
   exact this
  have OW : qz21 (Q67 + 2) W (vs 4) (vs 7) (vs 11) (vs 15) A := ⟨g4, g7, g11, g15, hne⟩
  have FW := qz5 F0 hb (by omega)
  have KW := K0.trans (hb.mono (by omega))
  generalize hl : laid _ vs _ _ _ = A'
  have hA' : A' = { tmps := #[.agg Q03, .pointer (some ⟨Q67, 0, none⟩), .pointer (some ⟨Q67 + 1, 0, none⟩), vs 0, vs 1, vs 2, vs 3, vs 4, vs 5, vs 6, vs 7, vs 8, vs 9, vs 10, vs 11, vs 12, vs 13, vs 14, vs 15, undef], defers := [] } := by
   rw [<- hl]
   kernel_rfl
  subst hA'
  rw [g1]
  obtain ⟨sa, sc, es⟩ := qzg g4
  obtain ⟨ga, gc, eg⟩ := qzg g7
  obtain ⟨na, nc, en⟩ := qzg g11
  obtain ⟨ra, rc, er⟩ := qzg g15
  rw [es, eg, en, er] at OW ⊢
  clear hl hG hD g1 g4 g7 g11 g15 hne es eg en er X0 F0 I0 K0
  have OF : qz21 Q67 (W.setCells (Q67 + 1) 0 Q3y) Q09 Q06 Q0a Q0h A := (OW.only (qzc (Q67 + 1) _ 0 W) (by omega)).lo (by omega)
  have KF := Below.setCells (B := Q67) (b := Q67 + 1) (by omega) Q3y 0 _ KW
  go_wp2_with (refine Q6b rfl 30 (.tmp 2) (.tmp 19) rfl (Q67 + 1) 0 Q5g ?hx ?hy ?ht ?hi ?h1 ?_)
  case hx => rfl
  case hy => rfl
  case ht => exact FW
  case hi => exact qz1p
  case h1 => simp [Value.oneCell']
  refine bodyPost_ret (v := .agg Q5g) ?_ rfl ⟨_, _, _, _, rfl, OF, KF⟩
  exact qz3 Try.results98 _ _ (Q67 + 1) 0 rfl Q3y _ (Q6d _ _ _ _ FW) Try.underlying30 rfl qz1p
end
section
theorem qz8i (w1 : World) (uN : Nat) : (qz56 w1 uN).heap[Q6j]? = some (.cells (Q4l).toArray 2 (0, 0)) /\ (qz56 w1 uN).heap[Q6j + 1]? = some (.cells (ndC ⟨-1, 0, 0⟩).toArray 78 (0, 0)) /\ (qz56 w1 uN).heap[Q6j + 1 + 1]? = some (.cells (vrC ⟨-1, false, 0, -1, 0⟩).toArray 54 (0, 0)) := by
 have e : madeCells #[Value.int IntKind.i64 0] uN = (Q4l).toArray := by
  apply Array.toList_inj.1
  rw [toList_madeCells_one, qz31]
 have keep : ∀ (w : World) (o : Obj) (k : Nat), k < Q67 -> (w.alloc o).heap[k]? = w.heap[k]? := fun w o k h => ((Q6c Q67 w).alloc (Q6f _) o).block k h
 unfold qz56
 rw [e]
 refine ⟨?_, ?_, ?_⟩
 ·rw [keep _ _ _ (by simp only [World.size_alloc]; omega), keep _ _ _ (by simp only [World.size_alloc]; omega), keep _ _ _ (by simp only [World.size_alloc]; omega)]
  exact World.alloc_heap_new _ _
 ·rw [keep _ _ _ (by simp only [World.size_alloc]; omega), keep _ _ _ (by simp only [World.size_alloc]; omega)]
  have h := World.alloc_heap_new (w1.alloc (Obj.cells (Q4l).toArray 2)) (Obj.cells (ndC ⟨-1, 0, 0⟩).toArray 78)
  simp only [World.size_alloc] at h
  exact h
 ·rw [keep _ _ _ (by simp only [World.size_alloc]; omega)]
  have h := World.alloc_heap_new ((w1.alloc (Obj.cells (Q4l).toArray 2)).alloc (Obj.cells (ndC ⟨-1, 0, 0⟩).toArray 78)) (Obj.cells (vrC ⟨-1, false, 0, -1, 0⟩).toArray 54)
  simp only [World.size_alloc] at h
  exact h
theorem qz7p {w : World} {base : Nat} {e : TypeId} {sz n g : Nat} {xs : List Value} (hl : xs.length = n * sz) (hg : base <= g) (hb : w.heap[g]? = some (.cells xs.toArray e (0, 0))) (hn : n <= 1000) : w.ownsRow base e sz (.slice (some ⟨g, 0, none⟩) n n) n xs :=
 ⟨hl, Or.inr ⟨g, n, xs.toArray, rfl, hg, hb, Nat.le_refl _, by unfold maxLen; omega, by simpa using hl, by rw [<- hl]; simp⟩⟩
theorem qz21.onlyAt {base b : Nat} {w w1 w' : World} {s g n r : Value} {A : Ar} (O : qz21 base w s g n r A) (ha : Below Q67 w w1) (hb : Only b w1 w') (hm : Q67 <= b) : qz21 base w' s g n r A :=
 ⟨qzj (qz1l O.rs ha) hb (fun j e => by have := qz2c O.rs e; omega), qzj (qz1l O.rg ha) hb (fun j e => by have := qz2c O.rg e; omega), qzj (qz1l O.rn ha) hb (fun j e => by have := qz2c O.rn e; omega), qzj (qz1l O.rr ha) hb (fun j e => by have := qz2c O.rr e; omega), O.ne⟩
theorem qz8j (xN uN : Nat) (y z : Int) (w : World) (hp : qz38 xN y z uN = true) :
  Calls Try.prog 13 #[.agg Q1r] w fun e w' => ∃ sg sc gb nb vb, e = .returned (.agg Q4w) /\
   qz1i w'.heap.size w' Q2j Q2b Q2h Q2l (qz1a xN uN) /\ Below Q67 w w' /\ Hid ((Q67 <= sg /\ Q67 <= gb /\ Q67 <= nb /\ Q67 <= vb) /\ qz21 Q67 w' Q2j Q2b Q2h Q2l (qz1a xN uN)) := by
 have hr := (qz1r xN y z uN).1 hp
 obtain ⟨⟨hx1, hx2⟩, ⟨hy1, hy2⟩, ⟨hz1, hz2⟩, hu1, hu2⟩ := hr
 have hmk := fun w => run_make_row' (P := Try.prog) 26 2 (.int .i64 0) 8 Try.underlying26 qz6b rfl .i64 .i64 uN (by omega) (by omega) w
 have P0 := qz1h w xN y z uN 25
 go_enter Try.func13, Try.ntmps13
 go_wp2_with fail
 have R0 := qzf (w.alloc (Obj.cells Q1r 25)) Q0d 30 5 (by decide)
 refine (qz1k _ _ _ _ _).mono ?_
 rintro e w1 ⟨rfl, b1⟩
 have hz1 := b1.size
 simp at hz1
 have P1 := (P0.below ((Q6c _ _).alloc (Q6f _) _) (by simp)).below b1 (by simp; omega)
 have R1 := qz5 R0 b1 (by simp)
 have bb1 := (((Q6c Q67 w).alloc (Q6f _) (Obj.cells Q1r 25)).alloc (by simp) (Obj.cells Q0d 30)).trans (b1.mono (by simp; omega))
 have P1' := P1
 obtain ⟨c0, c1, c2, c3⟩ := P1'
 clear b1 P0 R0
 rw [hp]
 obtain ⟨i0, hi, hzr, hsz, hby⟩ := info_parts qz6b
 go_wp2
 go_loopw [4] (fun i wr => ∃ (k : Nat) (s : Value), k <= xN /\ i = .int .i64 k /\ qz5s w1 uN wr k s) (fun i _ => xN - (intOf i).toNat)
 case atStart => exact ⟨0, _, Nat.zero_le _, rfl, qz5q w1 uN⟩
 case round =>
  obtain ⟨k, s, hk, rfl, D⟩ := hrel
  have hz := D.blk
  have bW : Below Q6j w1 wr := (by
   have h1 : Below Q6j w1 (qz56 w1 uN) := ((((Q6c Q6j w1).alloc (Q6f _) _).alloc (by simp) _).alloc (by simp; omega) _).alloc (by simp; omega) _
   exact h1.trans (D.bel.mono (by omega)))
  obtain ⟨e0, e1, e2, e3⟩ := P1.below bW (by omega)
  by_cases hlt : k < xN
  ·have D0 := D
   obtain ⟨a0, a1, a2, a3, a4, f1, own, bel⟩ := D
   go_wp2_with (at_builtin; refine wpList_append_own _ rfl _ _ 26 rfl (Q6j + 4) 2 i0 (.int .i64 0) 1 8 Try.underlying26 hi hzr hsz hby rfl (by decide) _ _ _ rfl (own.alloc _) ⟨wr.heap.size, 0, none⟩ 1 1 [.int .i64 (-1)] rfl rfl ?c1 ?c2 ?c3 ?c4 ?c5 ?_)
   case c1 =>
    intro j u hj
    match j, hj with
    | 0, hj => simp at hj; subst hj; simp [Addr.add]
   case c2 => intro u hu; simp at hu; subst hu; rfl
   case c3 => unfold maxLen; omega
   case c4 => omega
   case c5 => simp; omega
   intro v' w2 hown' hgrow _
   have S := D0.step hown' hgrow
   have b2 : Below (Q6j + 4) wr w2 := ((Q6c _ wr).alloc hz _).grown hgrow (by simp; omega) (fun j e => qz19 own e)
   have g1 := (b2.cell (p := ⟨Q6j + 1 + 1 + 1, 1, none⟩) (by simp)).trans a1
   have g2 := (b2.frozen (p := ⟨Q6j + 1 + 1 + 1, 1, none⟩) (by simp)).trans f1
   obtain ⟨g, cap, hv⟩ := qzx hown' (by omega)
   rw [hv] at S ⊢
   clear own bel D0 hown' hgrow b2 bW
   go_wp2
   go_roundw
   case rel => exact ⟨k + 1, _, by omega, by go_num, S⟩
   case measure => simp [intOf]; omega
  ·obtain rfl : k = xN := by omega
   have D0 := D
   obtain ⟨a0, a1, a2, a3, a4, f1, own, bel⟩ := D
   have R2 := qz5 R1 bW (by simp; omega)
   simp only [World.size_alloc] at R2
   obtain ⟨g, cap, rfl⟩ := qzx own (by omega)
   obtain ⟨gz, gr⟩ := qz9o own (by omega)
   rw [<- qz31] at gr
   obtain ⟨B0, B1, B2⟩ := qz79 w1 uN
   have M0 := qz0 B0 bel (by omega)
   have M1 := qz0 B1 bel (by omega)
   have M2 := qz0 B2 bel (by omega)
   have gg := qz19 own rfl
   have gg' : Q6j + 4 <= g := gg
   have hlow : Hid (Q67 <= g /\ Q67 <= Q6j /\ Q67 <= Q6j + 1 /\ Q67 <= Q6j + 1 + 1) := by show _ /\ _; omega
   obtain ⟨Z0, Z1, Z2⟩ := qz8i w1 uN
   have OO : qz21 Q6j wr (.slice (some ⟨g, 0, none⟩) k cap) (.slice (some ⟨Q6j, 0, none⟩) uN uN) (.slice (some ⟨Q6j + 1, 0, none⟩) 1 1) (.slice (some ⟨Q6j + 1 + 1, 0, none⟩) 1 1) (qz1a k uN) := by
    refine ⟨?_, ?_, ?_, ?_, ?_⟩
    ·have h := qz28 (base' := Q6j) own (by omega)
     simpa [qz1a, qz31] using h
    ·have h := qz7p (sz := 1) (n := uN) (base := w1.heap.size) (by simp [qz31]) (Nat.le_refl _) ((bel.block _ (by omega)).trans Z0) (by omega)
     simpa [qz1a] using h
    ·have h := qz7p (sz := 3) (n := 1) (base := w1.heap.size) (by simp [ndC]) (by omega) ((bel.block _ (by omega)).trans Z1) (by omega)
     simpa [qz1a, qze] using h
    ·have h := qz7p (sz := 5) (n := 1) (base := w1.heap.size) (by simp [vrC]) (by omega) ((bel.block _ (by omega)).trans Z2) (by omega)
     simpa [qz1a, qze] using h
    ·intro b hb hc
     simp [Value.ownBlock] at hb hc
     omega
   clear Z0 Z1 Z2
   clear bel own B0 B1 B2 gg'
   go_wp2_with (refine wpList_store_mid rfl 30 (.tmp 2) (.tmp 28) rfl (w.heap.size + 1) 0 _ rfl rfl R2 qz1p (by simp [Value.oneCell']) ?_)
   refine bodyPost_ret (v := .agg Q4i) ?_ rfl ⟨_, _, _, _, _, rfl, ⟨?_, ?_, ?_, ?_⟩, ?_, ⟨hlow.out, ?_⟩⟩
   ·exact qz3 Try.results13 _ _ (Q67 + 1) 0 rfl Q0w _ (Q6d _ _ _ _ R2) Try.underlying30 rfl qz1p
   ·exact qzs.of (by simp [qz1a]) (by rw [qzr]; omega) (World.rangeAt_setCells_apart gr (w.heap.size + 1) 0 Q0w (Or.inl (by omega)))
   ·exact qzs.of (by simp [qz1a]) (by rw [qzr]; omega) (World.rangeAt_setCells_apart M0 (w.heap.size + 1) 0 Q0w (Or.inl (by omega)))
   ·exact qzs.of (rfl) (by rw [qzr]; omega) (World.rangeAt_setCells_apart M1 (w.heap.size + 1) 0 Q0w (Or.inl (by omega)))
   ·exact qzs.of (rfl) (by rw [qzr]; omega) (World.rangeAt_setCells_apart M2 (w.heap.size + 1) 0 Q0w (Or.inl (by omega)))
   ·exact Below.setCells (by omega) _ _ _ (bb1.trans (bW.mono (by omega)))
   ·exact (OO.only (qzc (Q67 + 1) _ 0 wr) (by omega)).lo (by omega)
end
end Go.Proofs.Ythjkdnlmopafkaa
