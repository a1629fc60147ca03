/-
  What the law's proof goes by, part 27.
-/
import Derived.Deep.Cut
import Derived.Test.YthjkdnlmopafkaaGreatDoorFnSwappedCard00
import Derived.Test.YthjkdnlmopafkaaGreatDoorFnSwappedCard13
import Derived.Test.YthjkdnlmopafkaaGreatDoorFnSwappedCard25
namespace Go.Proofs.YthjkdnlmopafkaaGreatDoor
open Go.ChangeShapes Go.WideShapes Go.ChangeAt Go.RowKit
set_option maxRecDepth 100000
set_option maxHeartbeats 16000000
set_option linter.unusedVariables false
set_option linter.unusedSimpArgs false
set_option linter.unnecessarySimpa false
set_option linter.unusedSectionVars false
section
attribute [local go_sem ↓] Go.wp_at_zero Go.wp_at_succ
def qz6b (k : Nat) (h h' : Hd) (now : Int) : Cl := ⟨(k : Int), h.code, h.key, h.value, h.begin, now, h'.reply, h'.out, h'.sum, max h.held 0⟩
def qz98 (x y z u : Int) (W : Wd) (k : Nat) (h : Hd) : Wd where
 A := (qz18 x y z u W.A h qz3u false (k : Int) (W.now + 1)).1
 hands := W.hands.set k (qz18 x y z u W.A h qz3u false (k : Int) (W.now + 1)).2.1
 calls := if (qz18 x y z u W.A h qz3u false (k : Int) (W.now + 1)).2.1.at_ = 0 then W.calls ++ [qz6b k h (qz18 x y z u W.A h qz3u false (k : Int) (W.now + 1)).2.1 (W.now + 1)] else W.calls
 deeds := if (qz18 x y z u W.A h qz3u false (k : Int) (W.now + 1)).2.2.1.kind ≠ 0 then W.deeds ++ [(qz18 x y z u W.A h qz3u false (k : Int) (W.now + 1)).2.2.1] else W.deeds
 ticks := if (qz18 x y z u W.A h qz3u false (k : Int) (W.now + 1)).2.2.2 = true then W.ticks ++ [W.now + 1] else W.ticks
 now := W.now + 1
def qzh7 (b2 N : Nat) (x y z u : Int) (W : Wd) (a0 a1 a2 a3 : Option Addr) (c0 c1 c2 c3 : Nat) (h : Hd) (k : Nat) (L : Nat -> Bool) : Nat -> Value -> World -> Prop
 | 0, v, _ => v = .pointer (some ⟨b2, 0, none⟩)
 | 1, v, _ => v = .agg Q06
 | 2, v, _ => v = .pointer (some ⟨b2, 4, none⟩)
 | 3, v, _ => v = .agg Q1f
 | 4, v, w => ∃ s g n r, v = .agg Q59 /\ (L 9 = false -> qz1t N w s g n r W.A)
 | 5, v, _ => v = .agg (hdC h).toArray
 | 6, v, w => ∃ s g n r, v = .agg (Q6l).toArray /\ (L 9 = false -> qz1t N w s g n r W.A)
 | 7, v, _ => v = .int .i64 (k : Int)
 | 8, v, _ => v = .int .i64 (W.now + 1)
 | 9, v, w => ∃ s g n r, v = .agg (qza (qz27 W.A h false (k : Int)) s g n r (qz18 x y z u W.A h qz3u false (k : Int) (W.now + 1)).2.1 (qz18 x y z u W.A h qz3u false (k : Int) (W.now + 1)).2.2.1 (qz18 x y z u W.A h qz3u false (k : Int) (W.now + 1)).2.2.2).toArray /\ qz1t N w s g n r (qz18 x y z u W.A h qz3u false (k : Int) (W.now + 1)).1
 | 10, v, w => ∃ b cur, v = .pointer (some ⟨b, 0, none⟩) /\ N <= b /\ b < Q6o /\ w.there b 0 33 /\ w.heap[b]? = some (.cells cur 60)
 | _, _, _ => True
theorem qz34 {b2 N : Nat} {x y z u : Int} {W : Wd} {a0 a1 a2 a3 : Option Addr} {c0 c1 c2 c3 : Nat} {h : Hd} {k : Nat} {L : Nat -> Bool} {i : Nat} (hi : i ≠ 9) (j : Nat) (v : Value) (w w' : World) (hG : qzh7 b2 N x y z u W a0 a1 a2 a3 c0 c1 c2 c3 h k L j v w) (hb : Below Q6o w w') : qzh7 b2 N x y z u W a0 a1 a2 a3 c0 c1 c2 c3 h k (onAt L i) j v w' := by
 have h9 : onAt L i 9 = L 9 := by unfold onAt; rw [if_neg (Ne.symm hi)]
 match j, hG with
 | 0, q | 1, q | 2, q | 3, q | 5, q | 7, q | 8, q => exact q
 | 4, q => obtain ⟨s, g, n, r, e, O⟩ := q; exact ⟨s, g, n, r, e, fun hl => (O (by rw [<- h9]; exact hl)).below hb⟩
 | 6, q => obtain ⟨s, g, n, r, e, O⟩ := q; exact ⟨s, g, n, r, e, fun hl => (O (by rw [<- h9]; exact hl)).below hb⟩
 | 9, q => obtain ⟨s, g, n, r, e, O⟩ := q; exact ⟨s, g, n, r, e, O.below hb⟩
 | 10, q =>
  obtain ⟨b, cur, e, h1, h2, h3, h4⟩ := q
  exact ⟨b, cur, e, h1, Q72 h2 hb.size, qz5 h3 hb h2, (hb.block b h2).trans h4⟩
 | j + 11, q => exact trivial
theorem qzd1 {w : World} {base : Nat} {s g n r : Value} {A : Ar} (O : qz1t base w s g n r A) {b : Nat} {cur : Array Value} (hb : w.heap[b]? = some (.cells cur 60)) : ¬ OwnB s g n r b := by
 have key : ∀ {e : TypeId} {sz : Nat} {v : Value} {m : Nat} {xs : List Value}, w.ownsRow base e sz v m xs -> e ≠ 60 -> v.ownBlock ≠ some b := by
  intro e sz v m xs ho hne he
  rcases ho.2 with ⟨rfl, _⟩ | ⟨g', cap', cur', rfl, _, hh', _⟩
  ·cases he
  ·simp [Value.ownBlock] at he
   subst he
   rw [hb] at hh'
   simp at hh'
   exact hne hh'.2.symm
 rintro (h | h | h | h)
 ·exact key O.rs (by decide) h
 ·exact key O.rg (by decide) h
 ·exact key O.rn (by decide) h
 ·exact key O.rr (by decide) h
def qzgu (wb b8 b9 : Nat) (ca : Option Addr) (cl cc : Nat) (k : Nat) (h Hn : Hd) (now : Int) (lo : Nat) : Nat -> Value -> World -> Prop
 | 0, v, _ => v = .pointer (some ⟨b9, 10, none⟩)
 | 1, v, _ => v = .slice ca cl cc
 | 2, v, _ => v = .int .i64 (k : Int)
 | 3, v, _ => v = .pointer (some ⟨wb + 1 + 1, 2, none⟩)
 | 4, v, _ => v = .int .i64 h.code
 | 5, v, _ => v = .pointer (some ⟨wb + 1 + 1, 3, none⟩)
 | 6, v, _ => v = .int .i64 h.key
 | 7, v, _ => v = .pointer (some ⟨wb + 1 + 1, 4, none⟩)
 | 8, v, _ => v = .int .i64 h.value
 | 9, v, _ => v = .pointer (some ⟨wb + 1 + 1, 5, none⟩)
 | 10, v, _ => v = .int .i64 h.begin
 | 11, v, _ => v = .int .i64 (now)
 | 12, v, _ => v = .pointer (some ⟨b8, 5, none⟩)
 | 13, v, _ => v = .pointer (some ⟨b8, 11, none⟩)
 | 14, v, _ => v = .int .i64 Hn.reply
 | 15, v, _ => v = .pointer (some ⟨b8, 5, none⟩)
 | 16, v, _ => v = .pointer (some ⟨b8, 12, none⟩)
 | 17, v, _ => v = .int .i64 Hn.out
 | 18, v, _ => v = .pointer (some ⟨b8, 5, none⟩)
 | 19, v, _ => v = .pointer (some ⟨b8, 13, none⟩)
 | 20, v, _ => v = .int .i64 Hn.sum
 | 21, v, _ => v = .pointer (some ⟨wb + 1 + 1, 9, none⟩)
 | 22, v, _ => v = .int .i64 h.held
 | 23, v, _ => v = .int .i64 (max h.held 0)
 | 24, v, _ => v = .agg #[.int .i64 (k : Int), .int .i64 h.code, .int .i64 h.key, .int .i64 h.value, .int .i64 h.begin, .int .i64 (now), .int .i64 Hn.reply, .int .i64 Hn.out, .int .i64 Hn.sum, .int .i64 (max h.held 0)]
 | 25, v, w => ∃ q, v = .slice (some ⟨q, 0, none⟩) 1 1 /\ lo <= q /\ q < Q6o /\ w.rangeAt q 0 (clC (qz6b k h Hn now))
 | _, _, _ => True
theorem qz6w {wb b8 b9 : Nat} {ca : Option Addr} {cl cc k : Nat} {h Hn : Hd} {now : Int} {lo : Nat} (i : Nat) (v : Value) (w w' : World) (H : qzgu wb b8 b9 ca cl cc k h Hn now lo i v w) (hb : Below Q6o w w') : qzgu wb b8 b9 ca cl cc k h Hn now lo i v w' := by
 match i, H with
 | 0, H => exact H
 | 1, H => exact H
 | 2, H => exact H
 | 3, H => exact H
 | 4, H => exact H
 | 5, H => exact H
 | 6, H => exact H
 | 7, H => exact H
 | 8, H => exact H
 | 9, H => exact H
 | 10, H => exact H
 | 11, H => exact H
 | 12, H => exact H
 | 13, H => exact H
 | 14, H => exact H
 | 15, H => exact H
 | 16, H => exact H
 | 17, H => exact H
 | 18, H => exact H
 | 19, H => exact H
 | 20, H => exact H
 | 21, H => exact H
 | 22, H => exact H
 | 23, H => exact H
 | 24, H => exact H
 | 25, H =>
  obtain ⟨q, e, h1, h2, h3⟩ := H
  exact ⟨q, e, h1, Q72 h2 hb.size, qz0 h3 hb h2⟩
 | i + 26, H => exact trivial
theorem qz94 (x y z u : Int) (A : Ar) (h : Hd) (me clock : Int) : Q4e.2.2.1.kind ≠ 0 -> Q4e.2.2.2 = false := by
 unfold qz18
 intro hk
 split
 ·rfl
 ·rename_i n1
  rw [if_neg n1] at hk
  split
  ·rfl
  ·rename_i n2
   rw [if_neg n2] at hk
   split
   ·rfl
   ·rename_i n3
    rw [if_neg n3] at hk
    split
    ·rename_i n4
     rw [if_pos n4] at hk
     exact absurd rfl hk
    ·split
     ·rfl
     ·split <;> rfl
theorem qz8t (x y z u : Int) (A : Ar) (h : Hd) (me clock : Int) : Q4e.2.2.2 = true -> Q4e.2.1.at_ = 0 := by
 unfold qz18
 intro hk
 split at hk
 ·cases hk
 ·rename_i n1
  rw [if_neg n1]
  split at hk
  ·cases hk
  ·rename_i n2
   rw [if_neg n2]
   split at hk
   ·cases hk
   ·rename_i n3
    rw [if_neg n3]
    split at hk
    ·rename_i n4
     rw [if_pos n4]
     unfold qzo at hk ⊢
     repeat' split at hk
     all_goals (first | cases hk | skip)
     rename_i m1 m2 m3 m4 m5
     rw [if_neg m1, if_neg m2, if_neg m3, if_pos m4, if_pos m5]
     rfl
    ·split at hk
     ·cases hk
     ·split at hk <;> cases hk
theorem qz86 (B : Nat) (x y z u : Int) (W : Wd) (a0 a1 a2 a3 a4 a5 a6 a7 : Option Addr) (c0 c1 c2 c3 c4 c5 c6 c7 : Nat) (k : Nat) (h : Hd) (w : World) (hB : B <= Q6o) (hW : W.size <= 1000000) (I : WdIs B w Q4l Q4j Q4k Q4n Q6k Q66 Q65 Q63 W)
  (hk : k < Q76) (hkh : W.hands[k] = h) (hOk : qz10 x y z u W.A = true) (R : qzcu W.A h (k : Int)) (h1 : 1 <= h.at_) (h23 : h.at_ <= 23) (hn0 : 0 <= W.now) (hn1 : W.now < 20000) :
  Calls Tryz.prog 111 #[.agg Q0d, .int .i64 (k : Int)] w fun e w' => ∃ s g n r hs cs ds ts, e = .returned (.tuple #[.agg (wdC x y z u (qz98 x y z u W k h).A.camera s g n r hs cs ds ts (W.now + 1)).toArray, .bool true]) /\ qza9 Q6o w' s g n r hs cs ds ts (qz98 x y z u W k h) /\ Below Q6o w w' := by
 have hW' := hW
 unfold Wd.size at hW
 have hA : W.A.size <= 1048576 := by omega
 obtain ⟨hb, ho, rfl, hbB, Rh⟩ : ∃ hb ho, a4 = some ⟨hb, ho, none⟩ /\ hb < B /\ w.rangeAt hb ho (qz8 hdC W.hands) := by
  obtain ⟨a', cap', e4, h4⟩ := I.h
  cases e4
  rcases h4 with h4 | ⟨hb, ho, e, h5, h6⟩
  ·omega
  ·exact ⟨hb, ho, e, h5, h6⟩
 have hlen := qz2x hOk
 have X0 := Q7b (qz6 w Q0o 50) (.cells Q04 50)
 have F0 := qzg (w.alloc (.cells Q03 50)) Q04 50 14 (by decide)
 have K0 := ((Q6s Q6o w).alloc (Q6v _) (.cells Q03 50)).alloc (by simp) (.cells Q04 50)
 have E0 := qz0 (qzi (f := hdC) (sz := 22) (fun _ => rfl) Rh k hk) K0 (Q72 hbB hB)
 rw [hkh] at E0
 have I0 := I.below (K0.mono hB)
 have FA := qzg Q2c Q00 56 22 (by decide)
 have hset : ((Q2c).alloc (.cells Q00 56)).setCells (Q2c).heap.size 0 (hdC h).toArray.toList = (Q2c).alloc (.cells Q08 56) := qz1c Q2c 56 (hdC h) [] Q0l rfl
 have X1 := Q7b X0 (.cells Q08 56)
 have F1 := Q7h F0 (.cells Q08 56)
 have H1 : ((Q2c).alloc (.cells Q08 56)).rangeAt (Q2c).heap.size 0 (hdC h) := qz6 Q2c (hdC h) 56
 have hz1 : ((Q2c).alloc (.cells Q08 56)).heap.size = Q6o + 3 := by simp
 simp only [World.size_alloc] at F0 F1 H1 FA hset
 have K1 := K0.alloc (by simp; omega) (.cells Q08 56)
 have I1 := I.below (K1.mono hB)
 obtain ⟨x0, x1, x2, x3, x4, x5, x6, x7, x8, x9, x10, x11, x12, x13⟩ := qzf9 X0
 clear Rh I X0 I0 F0 K0
 go_enter Tryz.func111, Tryz.ntmps111
 go_upto_region 2 with (first | (refine wpList_load_mid rfl 56 (.tmp 13) rfl hb (ho + k * 22) rfl (hdC h) _ ?hc0 Tryz.underlying56 rfl (qz4 h) ?_) | (refine wpList_store_mid rfl 56 (.tmp 6) (.tmp 14) rfl (w.heap.size + 1 + 1) 0 _ rfl rfl FA (qzc h) (qzk _) ?_; rw [hset]))
 case hc0 => exact E0
 clear FA hset E0 x0 x1 x2 x3 x4 x5 x6 x7 x8 x9 x10 x11 x12 x13
 generalize hw1 : ((Q2c).alloc (.cells Q08 56)) = w1 at *
 clear hw1
 have x13 : w1.cell? ⟨Q6o, 13, none⟩ = some (.int .i64 W.now) := by simpa using X1 13 (.int .i64 W.now) rfl
 have y0 : w1.cell? ⟨Q6o + 1 + 1, 0, none⟩ = some (.int .i64 h.at_) := by simpa using H1 0 (.int .i64 h.at_) rfl
 have b0 : (h.at_ == 0) = false := by simp; omega
 have bn : (W.now == 20000) = false := by simp; omega
 go_upto_region 5 with fail
 clear x13 y0 b0 bn
 refine qzcm 11 (by kernel_rfl) (qzh7 Q6o Q6y x y z u W a0 a1 a2 a3 c0 c1 c2 c3 h k) (by kernel_rfl) (by kernel_rfl) (by kernel_rfl) (by kernel_rfl) (by rfl) ?step ?final
 case step =>
  intro i o hik ho' L a V hLi hLk hb' hnn hd K hK
  have XV := qz0 X1 hb' (by omega)
  have HV := qz0 H1 hb' (by omega)
  have IV := I1.below (hb'.mono (by omega))
  have hzV := hb'.size
  match i, ho' with
  | 0, ho' =>
   obtain rfl := Q6p ho'
   have e2 : a.eval (.tmp 2) = .pointer (some ⟨Q6o, 0, none⟩) := hnn 2 rfl
   refine qz1 (v := .pointer (some ⟨Q6o, 0, none⟩)) (w' := V) ?_ (hK _ _ rfl hb' (fun j v' _ _ q => qz34 (i := 0) (by decide) j v' V V q (Q6s _ _)))
   generalize a.eval = ev at *
   go_simp
  | 1, ho' =>
   obtain rfl := Q6p ho'
   exact qz1s 25 (.tmp 27) rfl Q6o 0 (hd ⟨0, .data⟩ (by simp) rfl 27 rfl).2 Q0n _ (fun j v hv => XV j v (by match j, hv with | 0, h => exact h | 1, h => exact h | 2, h => exact h | 3, h => exact h)) Tryz.underlying25 rfl qz92 (hK _ _ rfl hb' (fun j v' _ _ q => qz34 (i := 1) (by decide) j v' V V q (Q6s _ _)))
  | 2, ho' =>
   obtain rfl := Q6p ho'
   have e2 : a.eval (.tmp 2) = .pointer (some ⟨Q6o, 0, none⟩) := hnn 2 rfl
   refine qz1 (v := .pointer (some ⟨Q6o, 4, none⟩)) (w' := V) ?_ (hK _ _ rfl hb' (fun j v' _ _ q => qz34 (i := 2) (by decide) j v' V V q (Q6s _ _)))
   generalize a.eval = ev at *
   go_simp
  | 3, ho' =>
   obtain rfl := Q6p ho'
   exact qz1s 30 (.tmp 29) rfl Q6o 4 (hd ⟨2, .data⟩ (by simp) rfl 29 rfl).2 Q1c _ (fun j v hv => by match j, hv with | 0, h => exact XV 4 v h | 1, h => exact XV 5 v h | 2, h => exact XV 6 v h | 3, h => exact XV 7 v h | 4, h => exact XV 8 v h) Q7g rfl qz1n (hK _ _ rfl hb' (fun j v' _ _ q => qz34 (i := 3) (by decide) j v' V V q (Q6s _ _)))
  | 4, ho' =>
   obtain rfl := Q6p ho'
   have e1 : a.eval (.tmp 30) = .agg Q1f := (hd ⟨3, .data⟩ (by simp) rfl 30 rfl).2
   have ef : a.eval (.func 39) = .func (.func 39) #[] #[] := rfl
   refine qz19 (f := 39) (args := #[.agg Q1f]) (R := fun v w' => (∃ s g n r, v = .agg Q59 /\ qz1t V.heap.size w' s g n r W.A) /\ Below V.heap.size V w') ?_ ((qz5p B W.A a0 a1 a2 a3 c0 c1 c2 c3 V (by omega) hA IV.ar (by have := R.m1; omega) (by omega) (by omega) (by omega)).mono (fun e w' h => by obtain ⟨s, g, n, r, e, O, K⟩ := h; exact ⟨_, e, ⟨s, g, n, r, rfl, O⟩, K⟩)) (fun v w' h => hK v w' (by obtain ⟨⟨s, g, n, r, e, O⟩, _⟩ := h; exact ⟨s, g, n, r, e, fun _ => O.lo (by omega)⟩) (hb'.trans (h.2.mono (by omega))) (fun j v' _ _ q => qz34 (i := 4) (by decide) j v' V w' q (h.2)))
   generalize a.eval = ev at *
   go_simp
  | 5, ho' =>
   obtain rfl := Q6p ho'
   exact qz1s 56 (.tmp 6) rfl (Q6o + 1 + 1) 0 (hnn 6 rfl) (hdC h) _ HV Q6x rfl (qz4 h) (hK _ _ rfl hb' (fun j v' _ _ q => qz34 (i := 5) (by decide) j v' V V q (Q6s _ _)))
  | 6, ho' =>
   obtain rfl := Q6p ho'
   obtain ⟨s, g, n, r, e1, O⟩ := (show ∃ s g n r, a.eval (.tmp 31) = .agg Q59 /\ (L 9 = false -> qz1t Q6y V s g n r W.A) from (hd ⟨4, .data⟩ (by simp) rfl 31 rfl).2)
   have e2 : a.eval (.tmp 32) = .agg (hdC h).toArray := (hd ⟨5, .data⟩ (by simp) rfl 32 rfl).2
   refine qz1 (v := .agg (Q6l).toArray) (w' := V) ?_ (hK _ _ ⟨s, g, n, r, rfl, fun hl => O (by unfold onAt at hl; simpa using hl)⟩ hb' (fun j v' _ _ q => qz34 (i := 6) (by decide) j v' V V q (Q6s _ _)))
   generalize a.eval = ev at *
   simp only [hdC] at e2
   go_simp
   try rfl
  | 7, ho' =>
   obtain rfl := Q6p ho'
   have e1 : a.eval (.tmp 1) = .int .i64 (k : Int) := hnn 1 rfl
   refine qz1 (v := .int .i64 (k : Int)) (w' := V) ?_ (hK _ _ rfl hb' (fun j v' _ _ q => qz34 (i := 7) (by decide) j v' V V q (Q6s _ _)))
   generalize a.eval = ev at *
   go_simp
  | 8, ho' =>
   obtain rfl := Q6p ho'
   have e7 : a.eval (.tmp 7) = .int .i64 (W.now + 1) := hnn 7 rfl
   refine qz1 (v := .int .i64 (W.now + 1)) (w' := V) ?_ (hK _ _ rfl hb' (fun j v' _ _ q => qz34 (i := 8) (by decide) j v' V V q (Q6s _ _)))
   generalize a.eval = ev at *
   go_simp
  | 9, ho' =>
   obtain rfl := Q6p ho'
   have e1 : a.eval (.tmp 28) = .agg Q06 := (hd ⟨1, .data⟩ (by simp) rfl 28 rfl).2
   obtain ⟨s, g, n, r, e2, O⟩ := (show ∃ s g n r, a.eval (.tmp 33) = .agg (Q6l).toArray /\ (L 9 = false -> qz1t Q6y V s g n r W.A) from (hd ⟨6, .data⟩ (by simp) rfl 33 rfl).2)
   have e3 : a.eval (.tmp 34) = .int .i64 (k : Int) := (hd ⟨7, .data⟩ (by simp) rfl 34 rfl).2
   have e4 : a.eval (.tmp 35) = .int .i64 (W.now + 1) := (hd ⟨8, .data⟩ (by simp) rfl 35 rfl).2
   have ef : a.eval (.func 137) = .func (.func 137) #[] #[] := rfl
   have O := O hLi
   refine qz19 (f := 137) (args := #[.agg Q06, .agg (Q6l).toArray, .int .i64 (k : Int), .int .i64 (W.now + 1)]) (R := fun v w' => ∃ s' g' n' r', v = .agg (qza (qz27 W.A h false (k : Int)) s' g' n' r' (qz18 x y z u W.A h qz3u false (k : Int) (W.now + 1)).2.1 (qz18 x y z u W.A h qz3u false (k : Int) (W.now + 1)).2.2.1 (qz18 x y z u W.A h qz3u false (k : Int) (W.now + 1)).2.2.2).toArray /\ qz29 Q6y V w' s g n r s' g' n' r' (qz18 x y z u W.A h qz3u false (k : Int) (W.now + 1)).1) ?_ ((qzcg Q6y W.A h qz3u false (k : Int) (W.now + 1) s g n r V hzV hA O x y z u hOk R h1 h23).mono (fun e w' h => by obtain ⟨s', g', n', r', e, E⟩ := h; exact ⟨_, e, s', g', n', r', rfl, E⟩)) ?_
   ·generalize a.eval = ev at *
    go_simp
   ·rintro v w' ⟨s', g', n', r', ev, E⟩
    refine hK v w' ⟨s', g', n', r', ev, E.own⟩ (hb'.trans (E.but.below hzV (fun q hq => ?_))) (fun j v' hj hLj q => ?_)
    ·rcases hq with hq | hq | hq | hq
     ·exact qz1g O.rs hq
     ·exact qz1g O.rg hq
     ·exact qz1g O.rn hq
     ·exact qz1g O.rr hq
    ·have h9 : onAt L 9 9 = true := by unfold onAt; rw [if_pos rfl]
     match j, q with
     | 0, q | 1, q | 2, q | 3, q | 5, q | 7, q | 8, q => exact q
     | 4, q => obtain ⟨s, g, n, r, e, O⟩ := q; exact ⟨s, g, n, r, e, fun hl => by rw [h9] at hl; cases hl⟩
     | 6, q => obtain ⟨s, g, n, r, e, O⟩ := q; exact ⟨s, g, n, r, e, fun hl => by rw [h9] at hl; cases hl⟩
     | 9, q => exact absurd rfl hj
     | 10, q =>
      obtain ⟨b, cur, e, h1, h2, h3, h4⟩ := q
      have hnb := qzd1 O h4
      exact ⟨b, cur, e, h1, Q72 h2 E.but.size, E.but.there h3 h2 hnb, (E.but.block b h2 hnb).trans h4⟩
     | j + 11, q => exact trivial
  | 10, ho' =>
   obtain rfl := Q6p ho'
   refine qz1 (v := .pointer (some ⟨V.heap.size, 0, none⟩)) (w' := V.alloc (.cells Q01 60)) ?_ (hK _ _ ⟨V.heap.size, _, rfl, hzV, by simp, qzg V Q01 60 33 (by decide), heap_alloc_new V _⟩ (hb'.trans (((Q6s V.heap.size V).alloc (Q6v _) _).mono hzV)) (fun j v' _ _ q => qz34 (i := 10) (by decide) j v' V _ q ((Q6s _ _).alloc (Q6v _) _)))
   generalize a.eval = ev at *
   go_simp
  | n + 11, ho' => omega
 intro L vs V hLall hb' hG
 obtain ⟨s, g, n, r, g9, O⟩ := (show ∃ s g n r, vs 9 = .agg (qza (qz27 W.A h false (k : Int)) s g n r (qz18 x y z u W.A h qz3u false (k : Int) (W.now + 1)).2.1 (qz18 x y z u W.A h qz3u false (k : Int) (W.now + 1)).2.2.1 (qz18 x y z u W.A h qz3u false (k : Int) (W.now + 1)).2.2.2).toArray /\ qz1t Q6y V s g n r (qz18 x y z u W.A h qz3u false (k : Int) (W.now + 1)).1 from hG 9 (by decide))
 obtain ⟨b8, cur, g10, hb0, hb1, T8, hcur⟩ := (show ∃ b cur, vs 10 = .pointer (some ⟨b, 0, none⟩) /\ Q6y <= b /\ b < V.heap.size /\ V.there b 0 33 /\ V.heap[b]? = some (.cells cur 60) from hG 10 (by decide))
 have hnb := qzd1 O hcur
 generalize hl : laid _ vs _ _ _ = A'
 have hA' : A' = { tmps := #[.agg Q03, .int .i64 (k : Int), .pointer (some ⟨Q6o, 0, none⟩), undef, .pointer (some ⟨Q6o + 1, 0, none⟩), .bool false, .pointer (some ⟨Q6o + 1 + 1, 0, none⟩), .int .i64 (W.now + 1), vs 10, undef, .pointer (some ⟨Q6o, 9, none⟩), .slice (some ⟨hb, ho, none⟩) Q76 c4, .int .i64 (k : Int), .pointer (some ⟨hb, ho + k * 22, none⟩), .agg (hdC h).toArray, .pointer (some ⟨Q6o + 1 + 1, 0, none⟩), .int .i64 h.at_, .bool false, .bool false, .pointer (some ⟨Q6o, 13, none⟩), .int .i64 W.now, .bool false, .bool false, undef, .pointer (some ⟨Q6o, 13, none⟩), .int .i64 W.now, .int .i64 (W.now + 1), vs 0, vs 1, vs 2, vs 3, vs 4, vs 5, vs 6, vs 7, vs 8, vs 9, undef, undef, undef, undef, undef, undef, undef, undef, undef, undef, undef, undef, undef, undef, undef, undef, undef, undef, undef, undef, undef, undef, undef, undef, undef, undef, undef, undef, undef, undef, undef, undef, undef, undef, undef, undef, undef, undef, undef, undef, undef, undef, undef, undef, undef, undef, undef, undef, undef, undef, undef, undef, undef, undef, undef, undef, undef, undef, undef, undef, undef, undef, undef, undef, undef], defers := [] } := by
  rw [<- hl]
  kernel_rfl
 subst hA'
 rw [g9, g10]
 clear hl hG g9 g10 hLall
 have hcm : (qz27 W.A h false (k : Int)) = (qz18 x y z u W.A h qz3u false (k : Int) (W.now + 1)).1.camera := (qz9h x y z u W.A h qz3u false (k : Int) (W.now + 1)).symm
 rw [hcm]
 clear hcm
 obtain ⟨As, Hn, En, Tn, hS⟩ : ∃ As Hn En Tn, Hid ((qz18 x y z u W.A h qz3u false (k : Int) (W.now + 1)) = (As, Hn, En, Tn)) := ⟨_, _, _, _, rfl⟩
 rw [hS.out] at O
 rw [hS.out]
 dsimp only at O
 obtain ⟨sa, sc, rfl⟩ := qzf O.rs
 obtain ⟨ga, gc, rfl⟩ := qzf O.rg
 obtain ⟨na, nc, rfl⟩ := qzf O.rn
 obtain ⟨ra, rc, rfl⟩ := qzf O.rr
 generalize hsl : As.slots.length = sl0 at *
 generalize hgl : As.guides.length = gl0 at *
 generalize hnl : As.nodes.length = nl0 at *
 generalize hrl : As.vers.length = rl0 at *
 have K5 : Below Q6y w1 (V.setCells b8 0 Q1m) := Below.setCells hb0 _ _ _ hb'
 have D5 : (V.setCells b8 0 Q1m).rangeAt b8 0 Q1m := Q6u _ _ _ _ T8
 have O5 := O.kept (But.of_only (S := fun q => q = b8) (qze b8 Q1m 0 V) rfl) (fun q hq e => hnb (e ▸ hq))
 have z5 : b8 < (V.setCells b8 0 Q1m).heap.size := by rw [qzp]; exact hb1
 go_upto_region 6 with (refine Q6t rfl 60 (.tmp 8) (.tmp 36) rfl b8 0 (Q1m).toArray ?sx8 ?sy8 ?st8 ?si8 ?so8 ?_)
 try (case sx8 => rfl)
 try (case sy8 => rfl)
 case st8 => exact T8
 case si8 => exact qzs _ _ _ _ _ _ _ _
 case so8 => exact qz11 _ _ _ _ _ _ _ _ _ _ _ _ _ _ _ _
 clear T8 hcur hnb O hb1 hb'
 generalize V.setCells b8 0 Q1m = w5 at *
 have X5 := qz0 X1 K5 (by omega)
 have F5 := qz5 F1 K5 (by omega)
 have H5 := qz0 H1 K5 (by omega)
 have I5 := I1.below (K5.mono (by omega))
 have KK := K1.trans (K5.mono (by omega))
 have hz5 := K5.size
 clear X1 F1 H1 I1 K1 K5
 go_wp2_with (refine Q6z rfl 50 (.tmp 2) rfl Q6o 0 rfl Q0o _ ?hc6 Q7e rfl qzn ?_)
 case hc6 => exact X5
 refine (qz7p B x y z u W a0 a1 a2 a3 (some ⟨hb, ho, none⟩) a5 a6 a7 c0 c1 c2 c3 c4 c5 c6 c7 w5 (by omega) (by omega) I5 (by have := R.m1; omega) (by omega) (by omega) (by omega)).mono ?_
 rintro e w6 ⟨s6, g6, n6, r6, hs6, cs6, ds6, ts6, rfl, O6, b6⟩
 obtain ⟨sa6, sc6, rfl⟩ := qzf O6.ar.rs
 obtain ⟨ga6, gc6, rfl⟩ := qzf O6.ar.rg
 obtain ⟨na6, nc6, rfl⟩ := qzf O6.ar.rn
 obtain ⟨ra6, rc6, rfl⟩ := qzf O6.ar.rr
 obtain ⟨hg, hcap, rfl⟩ : ∃ hg hcap, hs6 = .slice (some ⟨hg, 0, none⟩) Q76 hcap := by
  rcases O6.h.2 with ⟨rfl, h0⟩ | ⟨g, cap, cur, rfl, _⟩
  ·omega
  ·exact ⟨g, cap, rfl⟩
 obtain ⟨ca, cc, rfl⟩ := qzf O6.c
 obtain ⟨da, dc, rfl⟩ := qzf O6.d
 obtain ⟨ta, tc, rfl⟩ := qzf O6.t
 have hset9 : (w6.alloc (.cells Q04 50)).setCells w6.heap.size 0 (Q0s).toArray.toList = w6.alloc (.cells Q0f 50) := qz1c w6 50 Q0s [] Q2l rfl
 have FA9 := qzg w6 Q04 50 14 (by decide)
 have S7 : Und Q7i w5 (w6.alloc (.cells Q0f 50)) w6.heap.size Q23 Q2y Q37 Q33 W.hands W.calls W.deeds W.ticks Q0k :=
  ⟨qz6 w6 Q0k 50, qzg w6 Q0f 50 14 (by simp), b6.size, by simp, qz1o O6.h ((Q6s _ _).alloc (Q6v _) _), qz1o O6.c ((Q6s _ _).alloc (Q6v _) _), qz1o O6.d ((Q6s _ _).alloc (Q6v _) _), qz1o O6.t ((Q6s _ _).alloc (Q6v _) _),
   fun q e => by have := qz2d O6.h e; omega, fun q e => by have := qz2d O6.c e; omega, fun q e => by have := qz2d O6.d e; omega, fun q e => by have := qz2d O6.t e; omega, b6.alloc b6.size _⟩
 go_upto_region 7 with (refine wpList_store_mid rfl 50 (.tmp 9) (.tmp 38) rfl w6.heap.size 0 _ rfl rfl FA9 qzn (by simp [wdC, Value.oneCell']) ?_; rw [hset9])
 clear hset9 FA9
 have hb9 := b6.size
 generalize w6.alloc (.cells Q0f 50) = w7 at *
 generalize hb9' : w6.heap.size = b9 at *
 clear hb9' O6 b6 I5
 have y13 := S7.cell 13 rfl
 have v13 := S7.free 13 (by decide)
 go_upto_region 8 with fail
 have S8 : Und Q7i w5 (w7.setCell ⟨b9, 13, none⟩ (.int .i64 (W.now + 1))) b9 Q23 Q2y Q37 Q33 W.hands W.calls W.deeds W.ticks Q0r := S7.put 13 (by simp) (.int .i64 (W.now + 1))
 clear y13 v13 S7
 generalize w7.setCell ⟨b9, 13, none⟩ (.int .i64 (W.now + 1)) = w8 at *
 have D8 := (qzv (qz0 D5 S8.bel z5)).1
 have T8 := qz1d S8.th 4 5 (by decide)
 go_upto_region 9 with (first | (refine wpList_load_mid rfl 30 (.tmp 41) rfl b8 0 rfl Q45 _ ?hc8 Tryz.underlying30 rfl qz1n ?_) | (refine wpList_store_mid rfl 30 (.tmp 43) (.tmp 42) rfl b9 4 Q43 ?tx8 ?ty8 ?tt8 qz1n (by simp [Value.oneCell']) ?_))
 case hc8 => exact D8
 try (case tx8 => rfl)
 try (case ty8 => rfl)
 case tt8 => exact T8
 have S9 : Und Q7i w5 (w8.setCells b9 4 Q45) b9 Q23 Q2y Q37 Q33 W.hands W.calls W.deeds W.ticks Q1a := S8.puts Q0n [.int .i64 W.A.camera, .slice sa6 W.A.slots.length sc6, .slice ga6 W.A.guides.length gc6, .slice na6 W.A.nodes.length nc6, .slice ra6 W.A.vers.length rc6] [.slice (some ⟨hg, 0, none⟩) Q76 hcap, .slice ca Q79 cc, .slice da Q7c dc, .slice ta Q7a tc, .int .i64 (W.now + 1)] Q45 rfl rfl rfl
 clear S8 D8 T8
 generalize w8.setCells b9 4 Q45 = w9 at *
 have D9 := (qzv (qz0 D5 S9.bel z5)).2.1
 have y9 := S9.cell 9 rfl
 have T9 := qzb7 S9.h (k * 22) 22 (by have := Nat.mul_le_mul_right 22 (Nat.succ_le_of_lt hk); rw [Nat.succ_mul] at this; omega)
 go_upto_region 10 with (first | (refine Q6z rfl 56 (.tmp 47) rfl b8 5 rfl (hdC Hn) _ ?hc9 Q6x rfl (qz4 Hn) ?_) | (refine Q6t rfl 56 (.tmp 49) (.tmp 48) rfl hg (k * 22) (hdC Hn).toArray ?ux9 ?uy9 ?ut9 (qzc Hn) (qzk Hn) ?_))
 case hc9 => exact D9
 try (case ux9 => first | rfl | simp)
 try (case uy9 => rfl)
 case ut9 => exact T9
 have S10 : Und Q7i w5 (w9.setCells hg (k * 22) (hdC Hn)) b9 Q23 Q2y Q37 Q33 (W.hands.set k Hn) W.calls W.deeds W.ticks Q1a := by simpa using S9.hand k hk Hn
 clear S9 D9 y9 T9
 generalize w9.setCells hg (k * 22) (hdC Hn) = w10 at *
 have hdt := qz94 x y z u W.A h (k : Int) (W.now + 1)
 have htr := qz8t x y z u W.A h (k : Int) (W.now + 1)
 rw [hS.out] at hdt htr
 dsimp only at hdt htr
 have hdt' : Hid (En.kind ≠ 0 -> Tn = false) := hdt
 have htr' : Hid (Tn = true -> Hn.at_ = 0) := htr
 clear hdt htr
 have d27 : w10.cell? ⟨b8, 27, none⟩ = some (.int .i64 En.kind) := by simpa using (qzv (qz0 D5 S10.bel z5)).2.2.1 0 (.int .i64 En.kind) rfl
 by_cases ek : En.kind = 0
 case neg =>
  have b1 : (En.kind != 0) = true := by simp [ek]
  have y11 := S10.cell 11 rfl
  obtain ⟨i0, hi, hzr, hsz, hby⟩ := info_parts qzb9
  have OA := S10.d.alloc (.cells Q3y 58)
  have news := qz6 w10 Q4s 58
  have hN0 : Q7i <= w10.heap.size := Q77 S10.lo (Nat.le_of_lt S10.hi)
  go_wp2_with (first | (refine Q6z rfl 58 (.tmp 56) rfl b8 27 rfl Q4s _ ?ld1 Tryz.underlying58 rfl (qz5u En) ?_) | (at_builtin; refine wpList_append_own_at _ rfl _ _ 48 rfl Q7i 58 i0 _ 5 40 Tryz.underlying48 hi hzr hsz hby rfl (by decide) _ _ _ rfl OA ⟨w10.heap.size, 0, none⟩ 1 1 Q4s rfl rfl ?n11 ?n21 ?n31 ?n41 ?n51 ?_))
  case ld1 => exact (qzv (qz0 D5 S10.bel z5)).2.2.1
  try (case n11 => exact fun j v hj => by have := news j v hj; rw [Nat.zero_add] at this; by_cases e0 : j = 0; (· subst e0; simpa [Addr.add] using this); (· simpa [Addr.add, e0] using this))
  case n21 => exact qzfc En
  case n31 => unfold maxLen; omega
  case n41 => omega
  case n51 => simp; omega
  intro v2 wq hown hgrow _ hat
  obtain ⟨da2, dc2, rfl⟩ := qzf hown
  have SA := S10.below ((Q6s _ _).alloc (Q6v _) (.cells Q3y 58)) hN0
  have BB : But (fun q => Value.ownBlock Q37 = some q) (w10.alloc (.cells Q3y 58)) wq := ⟨hgrow.os, hgrow.tape, hgrow.output, hgrow.size, fun q hq hn => hgrow.block q hq (fun e => hn e.symm)⟩
  have SB := SA.grow_d (E' := W.deeds ++ [En]) (by simpa [qz1p, ddC] using hown) BB (hat.imp id (fun h => by rw [h]; simp))
  clear SA BB hown hgrow hat OA news hi hzr hsz hby y11 hN0
  have y11 := SB.cell 11 rfl
  have v11 := SB.free 11 (by decide)
  go_upto_region 12 with fail
  have S12 : Und Q7i w5 (wq.setCell ⟨b9, 11, none⟩ Q5w) b9 Q23 Q2y Q5w Q33 (W.hands.set k Hn) W.calls (W.deeds ++ [En]) W.ticks Q1k := SB.put 11 (by simp) Q5w
  clear SB y11 v11 S10
  generalize wq.setCell ⟨b9, 11, none⟩ Q5w = w12 at *
  clear d27 b1
  have d32 : w12.cell? ⟨b8, 32, none⟩ = some (.bool Tn) := (qzv (qz0 D5 S12.bel z5)).2.2.2
  have et0 : Tn = false := hdt'.out ek
  rw [et0] at d32
  have etf : Hid (Tn = false) := et0
  clear et0
  go_upto_region 14 with fail
  clear d32
  have d5 : w12.cell? ⟨b8, 5, none⟩ = some (.int .i64 Hn.at_) := by simpa using (qzv (qz0 D5 S12.bel z5)).2.1 0 (.int .i64 Hn.at_) rfl
  by_cases er : Hn.at_ = 0
  ·have b4 : (Hn.at_ == 0) = true := by simp [er]
   have er' : Hid (Hn.at_ = 0) := er
   clear er
   go_upto_region 15 with fail
   clear d5 b4
   have er : Hn.at_ = 0 := er'.out
   clear er'
   have er : Hid (Hn.at_ = 0) := er
   refine qz2o 26 (by kernel_rfl) (qzgu Q6o b8 b9 ca Q79 cc k h Hn (W.now + 1) w12.heap.size) (fun _ => false) (by kernel_rfl) (by kernel_rfl) (by kernel_rfl) (by kernel_rfl) (by rfl) (fun i v w w' _ h hb => qz6w i v w w' h hb) (fun i v w q hf h hq => by cases hf) ?step2 ?final2
   case step2 =>
    intro i o hik ho' a V hb' hnn hd K hK
    have SV := S12.below hb' (Q77 S12.lo (Nat.le_of_lt S12.hi))
    have HV := qz0 H5 SV.bel (by omega)
    have DV := (qzv (qz0 D5 SV.bel z5)).2.1
    have y10 := SV.cell 10 rfl
    have hzV := hb'.size
    have p2 : V.cell? ⟨Q6o + 1 + 1, 2, none⟩ = some (.int .i64 h.code) := by simpa using HV 2 (.int .i64 h.code) rfl
    have p3 : V.cell? ⟨Q6o + 1 + 1, 3, none⟩ = some (.int .i64 h.key) := by simpa using HV 3 (.int .i64 h.key) rfl
    have p4 : V.cell? ⟨Q6o + 1 + 1, 4, none⟩ = some (.int .i64 h.value) := by simpa using HV 4 (.int .i64 h.value) rfl
    have p5 : V.cell? ⟨Q6o + 1 + 1, 5, none⟩ = some (.int .i64 h.begin) := by simpa using HV 5 (.int .i64 h.begin) rfl
    have p9 : V.cell? ⟨Q6o + 1 + 1, 9, none⟩ = some (.int .i64 h.held) := by simpa using HV 9 (.int .i64 h.held) rfl
    have q11 : V.cell? ⟨b8, 11, none⟩ = some (.int .i64 Hn.reply) := by simpa using DV 6 (.int .i64 Hn.reply) rfl
    have q12 : V.cell? ⟨b8, 12, none⟩ = some (.int .i64 Hn.out) := by simpa using DV 7 (.int .i64 Hn.out) rfl
    have q13 : V.cell? ⟨b8, 13, none⟩ = some (.int .i64 Hn.sum) := by simpa using DV 8 (.int .i64 Hn.sum) rfl
    clear HV DV
    match i, ho' with
    | 0, ho' =>
     obtain rfl := Q6p ho'
     have e9 : a.eval (.tmp 9) = .pointer (some ⟨b9, 0, none⟩) := hnn 9 rfl
     refine qz1 (v := .pointer (some ⟨b9, 10, none⟩)) (w' := V) ?_ (hK _ _ rfl (Q6s _ _) (fun h => by cases h))
     generalize a.eval = ev at *
     go_simp
    | 1, ho' =>
     obtain rfl := Q6p ho'
     have e73 : a.eval (.tmp 73) = .pointer (some ⟨b9, 10, none⟩) := hd ⟨0, .data⟩ (by simp) rfl 73 rfl
     refine qz1 (v := .slice ca Q79 cc) (w' := V) ?_ (hK _ _ rfl (Q6s _ _) (fun h => by cases h))
     generalize a.eval = ev at *
     go_simp
    | 2, ho' =>
     obtain rfl := Q6p ho'
     have e1 : a.eval (.tmp 1) = .int .i64 (k : Int) := hnn 1 rfl
     refine qz1 (v := .int .i64 (k : Int)) (w' := V) ?_ (hK _ _ rfl (Q6s _ _) (fun h => by cases h))
     generalize a.eval = ev at *
     go_simp
    | 3, ho' =>
     obtain rfl := Q6p ho'
     have e6 : a.eval (.tmp 6) = .pointer (some ⟨Q6o + 1 + 1, 0, none⟩) := hnn 6 rfl
     refine qz1 (v := .pointer (some ⟨Q6o + 1 + 1, 2, none⟩)) (w' := V) ?_ (hK _ _ rfl (Q6s _ _) (fun h => by cases h))
     generalize a.eval = ev at *
     go_simp
    | 4, ho' =>
     obtain rfl := Q6p ho'
     have e76 : a.eval (.tmp 76) = .pointer (some ⟨Q6o + 1 + 1, 2, none⟩) := hd ⟨3, .data⟩ (by simp) rfl 76 rfl
     refine qz1 (v := .int .i64 h.code) (w' := V) ?_ (hK _ _ rfl (Q6s _ _) (fun h => by cases h))
     generalize a.eval = ev at *
     go_simp
    | 5, ho' =>
     obtain rfl := Q6p ho'
     have e6 : a.eval (.tmp 6) = .pointer (some ⟨Q6o + 1 + 1, 0, none⟩) := hnn 6 rfl
     refine qz1 (v := .pointer (some ⟨Q6o + 1 + 1, 3, none⟩)) (w' := V) ?_ (hK _ _ rfl (Q6s _ _) (fun h => by cases h))
     generalize a.eval = ev at *
     go_simp
    | 6, ho' =>
     obtain rfl := Q6p ho'
     have e78 : a.eval (.tmp 78) = .pointer (some ⟨Q6o + 1 + 1, 3, none⟩) := hd ⟨5, .data⟩ (by simp) rfl 78 rfl
     refine qz1 (v := .int .i64 h.key) (w' := V) ?_ (hK _ _ rfl (Q6s _ _) (fun h => by cases h))
     generalize a.eval = ev at *
     go_simp
    | 7, ho' =>
     obtain rfl := Q6p ho'
     have e6 : a.eval (.tmp 6) = .pointer (some ⟨Q6o + 1 + 1, 0, none⟩) := hnn 6 rfl
     refine qz1 (v := .pointer (some ⟨Q6o + 1 + 1, 4, none⟩)) (w' := V) ?_ (hK _ _ rfl (Q6s _ _) (fun h => by cases h))
     generalize a.eval = ev at *
     go_simp
    | 8, ho' =>
     obtain rfl := Q6p ho'
     have e80 : a.eval (.tmp 80) = .pointer (some ⟨Q6o + 1 + 1, 4, none⟩) := hd ⟨7, .data⟩ (by simp) rfl 80 rfl
     refine qz1 (v := .int .i64 h.value) (w' := V) ?_ (hK _ _ rfl (Q6s _ _) (fun h => by cases h))
     generalize a.eval = ev at *
     go_simp
    | 9, ho' =>
     obtain rfl := Q6p ho'
     have e6 : a.eval (.tmp 6) = .pointer (some ⟨Q6o + 1 + 1, 0, none⟩) := hnn 6 rfl
     refine qz1 (v := .pointer (some ⟨Q6o + 1 + 1, 5, none⟩)) (w' := V) ?_ (hK _ _ rfl (Q6s _ _) (fun h => by cases h))
     generalize a.eval = ev at *
     go_simp
    | 10, ho' =>
     obtain rfl := Q6p ho'
     have e82 : a.eval (.tmp 82) = .pointer (some ⟨Q6o + 1 + 1, 5, none⟩) := hd ⟨9, .data⟩ (by simp) rfl 82 rfl
     refine qz1 (v := .int .i64 h.begin) (w' := V) ?_ (hK _ _ rfl (Q6s _ _) (fun h => by cases h))
     generalize a.eval = ev at *
     go_simp
    | 21, ho' =>
     obtain rfl := Q6p ho'
     have e6 : a.eval (.tmp 6) = .pointer (some ⟨Q6o + 1 + 1, 0, none⟩) := hnn 6 rfl
     refine qz1 (v := .pointer (some ⟨Q6o + 1 + 1, 9, none⟩)) (w' := V) ?_ (hK _ _ rfl (Q6s _ _) (fun h => by cases h))
     generalize a.eval = ev at *
     go_simp
    | 22, ho' =>
     obtain rfl := Q6p ho'
     have e94 : a.eval (.tmp 94) = .pointer (some ⟨Q6o + 1 + 1, 9, none⟩) := hd ⟨21, .data⟩ (by simp) rfl 94 rfl
     refine qz1 (v := .int .i64 h.held) (w' := V) ?_ (hK _ _ rfl (Q6s _ _) (fun h => by cases h))
     generalize a.eval = ev at *
     go_simp
    | 11, ho' =>
     obtain rfl := Q6p ho'
     have e7 : a.eval (.tmp 7) = .int .i64 (W.now + 1) := hnn 7 rfl
     refine qz1 (v := .int .i64 (W.now + 1)) (w' := V) ?_ (hK _ _ rfl (Q6s _ _) (fun h => by cases h))
     generalize a.eval = ev at *
     go_simp
    | 12, ho' =>
     obtain rfl := Q6p ho'
     have e8 : a.eval (.tmp 8) = .pointer (some ⟨b8, 0, none⟩) := hnn 8 rfl
     refine qz1 (v := .pointer (some ⟨b8, 5, none⟩)) (w' := V) ?_ (hK _ _ rfl (Q6s _ _) (fun h => by cases h))
     generalize a.eval = ev at *
     go_simp
    | 13, ho' =>
     obtain rfl := Q6p ho'
     have e85 : a.eval (.tmp 85) = .pointer (some ⟨b8, 5, none⟩) := hd ⟨12, .data⟩ (by simp) rfl 85 rfl
     refine qz1 (v := .pointer (some ⟨b8, 11, none⟩)) (w' := V) ?_ (hK _ _ rfl (Q6s _ _) (fun h => by cases h))
     generalize a.eval = ev at *
     go_simp
    | 14, ho' =>
     obtain rfl := Q6p ho'
     have e86 : a.eval (.tmp 86) = .pointer (some ⟨b8, 11, none⟩) := hd ⟨13, .data⟩ (by simp) rfl 86 rfl
     refine qz1 (v := .int .i64 Hn.reply) (w' := V) ?_ (hK _ _ rfl (Q6s _ _) (fun h => by cases h))
     generalize a.eval = ev at *
     go_simp
    | 15, ho' =>
     obtain rfl := Q6p ho'
     have e8 : a.eval (.tmp 8) = .pointer (some ⟨b8, 0, none⟩) := hnn 8 rfl
     refine qz1 (v := .pointer (some ⟨b8, 5, none⟩)) (w' := V) ?_ (hK _ _ rfl (Q6s _ _) (fun h => by cases h))
     generalize a.eval = ev at *
     go_simp
    | 16, ho' =>
     obtain rfl := Q6p ho'
     have e88 : a.eval (.tmp 88) = .pointer (some ⟨b8, 5, none⟩) := hd ⟨15, .data⟩ (by simp) rfl 88 rfl
     refine qz1 (v := .pointer (some ⟨b8, 12, none⟩)) (w' := V) ?_ (hK _ _ rfl (Q6s _ _) (fun h => by cases h))
     generalize a.eval = ev at *
     go_simp
    | 17, ho' =>
     obtain rfl := Q6p ho'
     have e89 : a.eval (.tmp 89) = .pointer (some ⟨b8, 12, none⟩) := hd ⟨16, .data⟩ (by simp) rfl 89 rfl
     refine qz1 (v := .int .i64 Hn.out) (w' := V) ?_ (hK _ _ rfl (Q6s _ _) (fun h => by cases h))
     generalize a.eval = ev at *
     go_simp
    | 18, ho' =>
     obtain rfl := Q6p ho'
     have e8 : a.eval (.tmp 8) = .pointer (some ⟨b8, 0, none⟩) := hnn 8 rfl
     refine qz1 (v := .pointer (some ⟨b8, 5, none⟩)) (w' := V) ?_ (hK _ _ rfl (Q6s _ _) (fun h => by cases h))
     generalize a.eval = ev at *
     go_simp
    | 19, ho' =>
     obtain rfl := Q6p ho'
     have e91 : a.eval (.tmp 91) = .pointer (some ⟨b8, 5, none⟩) := hd ⟨18, .data⟩ (by simp) rfl 91 rfl
     refine qz1 (v := .pointer (some ⟨b8, 13, none⟩)) (w' := V) ?_ (hK _ _ rfl (Q6s _ _) (fun h => by cases h))
     generalize a.eval = ev at *
     go_simp
    | 20, ho' =>
     obtain rfl := Q6p ho'
     have e92 : a.eval (.tmp 92) = .pointer (some ⟨b8, 13, none⟩) := hd ⟨19, .data⟩ (by simp) rfl 92 rfl
     refine qz1 (v := .int .i64 Hn.sum) (w' := V) ?_ (hK _ _ rfl (Q6s _ _) (fun h => by cases h))
     generalize a.eval = ev at *
     go_simp
    | 23, ho' =>
     obtain rfl := Q6p ho'
     have e1 : a.eval (.tmp 95) = .int .i64 h.held := hd ⟨22, .data⟩ (by simp) rfl 95 rfl
     have ef : a.eval (.func 138) = .func (.func 138) #[] #[] := rfl
     have e2 : a.eval (.const (.int .i64 0)) = .int .i64 0 := rfl
     refine qz19 (f := 138) (args := #[.int .i64 h.held, .int .i64 0]) (R := fun v w' => v = .int .i64 (max h.held 0) /\ Below V.heap.size V w') ?_ ((qz1e h.held 0 V).mono (fun e w' h => ⟨_, h.1, rfl, by rw [h.2]; exact Q6s _ _⟩)) (fun v w' h => hK v w' h.1 h.2 (fun h => by cases h))
     generalize a.eval = ev at *
     go_simp
    | 24, ho' =>
     obtain rfl := Q6p ho'
     have e75 : a.eval (.tmp 75) = .int .i64 (k : Int) := hd ⟨2, .data⟩ (by simp) rfl 75 rfl
     have e77 : a.eval (.tmp 77) = .int .i64 h.code := hd ⟨4, .data⟩ (by simp) rfl 77 rfl
     have e79 : a.eval (.tmp 79) = .int .i64 h.key := hd ⟨6, .data⟩ (by simp) rfl 79 rfl
     have e81 : a.eval (.tmp 81) = .int .i64 h.value := hd ⟨8, .data⟩ (by simp) rfl 81 rfl
     have e83 : a.eval (.tmp 83) = .int .i64 h.begin := hd ⟨10, .data⟩ (by simp) rfl 83 rfl
     have e84 : a.eval (.tmp 84) = .int .i64 (W.now + 1) := hd ⟨11, .data⟩ (by simp) rfl 84 rfl
     have e87 : a.eval (.tmp 87) = .int .i64 Hn.reply := hd ⟨14, .data⟩ (by simp) rfl 87 rfl
     have e90 : a.eval (.tmp 90) = .int .i64 Hn.out := hd ⟨17, .data⟩ (by simp) rfl 90 rfl
     have e93 : a.eval (.tmp 93) = .int .i64 Hn.sum := hd ⟨20, .data⟩ (by simp) rfl 93 rfl
     have e96 : a.eval (.tmp 96) = .int .i64 (max h.held 0) := hd ⟨23, .data⟩ (by simp) rfl 96 rfl
     refine qz1 (v := .agg #[.int .i64 (k : Int), .int .i64 h.code, .int .i64 h.key, .int .i64 h.value, .int .i64 h.begin, .int .i64 (W.now + 1), .int .i64 Hn.reply, .int .i64 Hn.out, .int .i64 Hn.sum, .int .i64 (max h.held 0)]) (w' := V) ?_ (hK _ _ rfl (Q6s _ _) (fun h => by cases h))
     generalize a.eval = ev at *
     go_simp
    | 25, ho' =>
     obtain rfl := Q6p ho'
     have e1 : a.eval (.tmp 97) = .agg #[.int .i64 (k : Int), .int .i64 h.code, .int .i64 h.key, .int .i64 h.value, .int .i64 h.begin, .int .i64 (W.now + 1), .int .i64 Hn.reply, .int .i64 Hn.out, .int .i64 Hn.sum, .int .i64 (max h.held 0)] := hd ⟨24, .data⟩ (by simp) rfl 97 rfl
     refine qz1 (v := .slice (some ⟨V.heap.size, 0, none⟩) 1 1) (w' := V.alloc (.cells #[.int .i64 (k : Int), .int .i64 h.code, .int .i64 h.key, .int .i64 h.value, .int .i64 h.begin, .int .i64 (W.now + 1), .int .i64 Hn.reply, .int .i64 Hn.out, .int .i64 Hn.sum, .int .i64 (max h.held 0)] 163)) ?_ (hK _ _ ⟨_, rfl, hzV, by simp, qz6 V (clC Q4y) 163⟩ ((Q6s _ _).alloc (Q6v _) _) (fun h => by cases h))
     generalize a.eval = ev at *
     go_simp
    | n + 26, ho' => omega
   intro vt V2 hb2 hG2 _
   have SV := S12.below hb2 (Q77 S12.lo (Nat.le_of_lt S12.hi))
   have g1 : vt 1 = .slice ca Q79 cc := hG2 1 (by decide)
   obtain ⟨qc, g25, hq0, hq1, news⟩ := (show ∃ q, vt 25 = .slice (some ⟨q, 0, none⟩) 1 1 /\ w12.heap.size <= q /\ q < V2.heap.size /\ V2.rangeAt q 0 (clC Q4y) from hG2 25 (by decide))
   generalize hl : laid _ vt _ _ _ = A'
   have hA2 : A' = { tmps := #[.agg Q03, .int .i64 (k : Int), .pointer (some ⟨Q6o, 0, none⟩), undef, .pointer (some ⟨Q6o + 1, 0, none⟩), .bool false, .pointer (some ⟨Q6o + 1 + 1, 0, none⟩), .int .i64 (W.now + 1), .pointer (some ⟨b8, 0, none⟩), .pointer (some ⟨b9, 0, none⟩), .pointer (some ⟨Q6o, 9, none⟩), .slice (some ⟨hb, ho, none⟩) Q76 c4, .int .i64 (k : Int), .pointer (some ⟨hb, ho + k * 22, none⟩), .agg (hdC h).toArray, .pointer (some ⟨Q6o + 1 + 1, 0, none⟩), .int .i64 h.at_, .bool false, .bool false, .pointer (some ⟨Q6o, 13, none⟩), .int .i64 W.now, .bool false, .bool false, undef, .pointer (some ⟨Q6o, 13, none⟩), .int .i64 W.now, .int .i64 (W.now + 1), vs 0, vs 1, vs 2, vs 3, vs 4, vs 5, vs 6, vs 7, vs 8, .agg (Q1m).toArray, .agg Q03, .agg (Q0s).toArray, .int .i64 (W.now + 1), .pointer (some ⟨b9, 13, none⟩), .pointer (some ⟨b8, 0, none⟩), .agg Q43, .pointer (some ⟨b9, 4, none⟩), .pointer (some ⟨b9, 9, none⟩), .slice (some ⟨hg, 0, none⟩) Q76 hcap, .int .i64 (k : Int), .pointer (some ⟨b8, 5, none⟩), .agg (hdC Hn).toArray, .pointer (some ⟨hg, k * 22, none⟩), .pointer (some ⟨b8, 27, none⟩), .pointer (some ⟨b8, 27, none⟩), .int .i64 En.kind, .bool true, .pointer (some ⟨b9, 11, none⟩), .slice da Q7c dc, .pointer (some ⟨b8, 27, none⟩), .agg Q3y, .slice (some ⟨w10.heap.size, 0, none⟩) 1 1, .slice da2 (Q7c + 1) dc2, .pointer (some ⟨b9, 11, none⟩), .pointer (some ⟨b8, 32, none⟩), .bool false, undef, undef, undef, undef, undef, undef, .pointer (some ⟨b8, 5, none⟩), .pointer (some ⟨b8, 5, none⟩), .int .i64 Hn.at_, .bool true, vt 0, vt 1, vt 2, vt 3, vt 4, vt 5, vt 6, vt 7, vt 8, vt 9, vt 10, vt 11, vt 12, vt 13, vt 14, vt 15, vt 16, vt 17, vt 18, vt 19, vt 20, vt 21, vt 22, vt 23, vt 24, vt 25, undef, undef, undef], defers := [] } := by
    rw [<- hl]
    kernel_rfl
   subst hA2
   rw [g1, g25]
   clear hl hG2 g1 g25
   have hN0 : Q7i <= V2.heap.size := Q77 SV.lo (Nat.le_of_lt SV.hi)
   obtain ⟨i0, hi, hzr, hsz, hby⟩ := info_parts qz6g
   refine wpList_append_own_at _ rfl _ _ 47 rfl Q7i 163 i0 _ 10 80 Tryz.underlying47 hi hzr hsz hby rfl (by decide) _ _ _ rfl SV.c ⟨qc, 0, none⟩ 1 1 (clC Q4y) rfl rfl ?n12 ?n22 ?n32 ?n42 ?n52 ?_
   case n12 => exact fun j v hj => by have := news j v hj; rw [Nat.zero_add] at this; by_cases e0 : j = 0; (· subst e0; simpa [Addr.add] using this); (· simpa [Addr.add, e0] using this)
   case n22 => exact qzb8 _
   case n32 => unfold maxLen; omega
   case n42 => omega
   case n52 => exact hN0
   intro v2 wq hown hgrow _ hat
   obtain ⟨ca2, cc2, rfl⟩ := qzf hown
   have BB : But (fun q => Value.ownBlock Q2y = some q) V2 wq := ⟨hgrow.os, hgrow.tape, hgrow.output, hgrow.size, fun q hq hn => hgrow.block q hq (fun e => hn e.symm)⟩
   have SB := SV.grow_c (C' := W.calls ++ [qz6b k h Hn (W.now + 1)]) (by simpa [qz1p] using hown) BB hat
   clear BB hown hgrow hat hi hzr hsz hby SV S12 news
   have y10 := SB.cell 10 rfl
   have v10 := SB.free 10 (by decide)
   go_upto_region 16 with fail
   have S15 : Und Q7i w5 (wq.setCell ⟨b9, 10, none⟩ Q2u) b9 Q23 Q2u Q5w Q33 (W.hands.set k Hn) (W.calls ++ [qz6b k h Hn (W.now + 1)]) (W.deeds ++ [En]) W.ticks Q1g := SB.put 10 (by simp) Q2u
   clear SB y10 v10
   generalize wq.setCell ⟨b9, 10, none⟩ Q2u = w15 at *
   have FF := qz5 F5 S15.bel (by omega)
   have RR := S15.row
   go_wp2_with (first | (refine wpList_load_mid rfl 50 (.tmp 9) rfl b9 0 rfl Q1g _ ?lf3 Tryz.underlying50 rfl qzn ?_) | (refine wpList_store_mid rfl 50 (.tmp 4) (.tmp 101) rfl (w.heap.size + 1) 0 Q38 ?fx3 ?fy3 ?ft3 qzn (by simp [Value.oneCell']) ?_))
   try (case lf3 => exact RR)
   try (case fx3 => rfl)
   try (case fy3 => rfl)
   try (case ft3 => exact FF)
   have hSW : qz98 x y z u W k h = ⟨As, W.hands.set k Hn, (W.calls ++ [qz6b k h Hn (W.now + 1)]), (W.deeds ++ [En]), W.ticks, W.now + 1⟩ := by
    unfold qz98
    rw [hS.out]
    dsimp only
    simp only [ek, etf.out, er.out, ne_eq, not_true_eq_false, not_false_eq_true, if_true, if_false, Bool.false_eq_true]
   rw [hSW]
   refine bodyPost_ret (v := .tuple #[.agg Q38, .bool true]) ?_ rfl ⟨.slice sa sl0 sc, .slice ga gl0 gc, .slice na nl0 nc, .slice ra rl0 rc, .slice (some ⟨hg, 0, none⟩) Q76 hcap, .slice ca2 (Q79 + 1) cc2, .slice da2 (Q7c + 1) dc2, .slice ta Q7a tc, rfl, ?_, ?_⟩
   ·exact qzl Tryz.results111 _ _ (Q6o + 1) 0 rfl Q1g _ (Q6u _ _ _ _ FF) Q7e rfl qzn
   ·have hO := qze (Q6o + 1) Q1g 0 w15
    have g1 := qzm S15.h hO (fun j e => by have := qz1g S15.h e; omega)
    have g2 := qzm S15.c hO (fun j e => by have := qz1g S15.c e; omega)
    have g3 := qzm S15.d hO (fun j e => by have := qz1g S15.d e; omega)
    have g4 := qzm S15.t hO (fun j e => by have := qz1g S15.t e; omega)
    exact ⟨((O5.below S15.bel).only hO (by omega)).lo (by omega), by simpa using qz26 g1 (base' := Q6o) (by omega), by simpa using qz26 g2 (base' := Q6o) (by omega), by simpa using qz26 g3 (base' := Q6o) (by omega), by simpa using qz26 g4 (base' := Q6o) (by omega)⟩
   ·exact Below.setCells (by omega) _ _ _ (KK.trans (S15.bel.mono (by omega)))
  have b4 : (Hn.at_ == 0) = false := by simp [er]
  go_upto_region 16 with fail
  clear d5 b4
  have FF := qz5 F5 S12.bel (by omega)
  have RR := S12.row
  go_wp2_with (first | (refine wpList_load_mid rfl 50 (.tmp 9) rfl b9 0 rfl Q1k _ ?lf4 Tryz.underlying50 rfl qzn ?_) | (refine wpList_store_mid rfl 50 (.tmp 4) (.tmp 101) rfl (w.heap.size + 1) 0 Q3i ?fx4 ?fy4 ?ft4 qzn (by simp [Value.oneCell']) ?_))
  try (case lf4 => exact RR)
  try (case fx4 => rfl)
  try (case fy4 => rfl)
  try (case ft4 => exact FF)
  have hSW : qz98 x y z u W k h = ⟨As, W.hands.set k Hn, W.calls, (W.deeds ++ [En]), W.ticks, W.now + 1⟩ := by
   unfold qz98
   rw [hS.out]
   dsimp only
   simp only [ek, etf.out, er, ne_eq, not_true_eq_false, not_false_eq_true, if_true, if_false, Bool.false_eq_true]
  rw [hSW]
  refine bodyPost_ret (v := .tuple #[.agg Q3i, .bool true]) ?_ rfl ⟨.slice sa sl0 sc, .slice ga gl0 gc, .slice na nl0 nc, .slice ra rl0 rc, .slice (some ⟨hg, 0, none⟩) Q76 hcap, .slice ca Q79 cc, .slice da2 (Q7c + 1) dc2, .slice ta Q7a tc, rfl, ?_, ?_⟩
  ·exact qzl Tryz.results111 _ _ (Q6o + 1) 0 rfl Q1k _ (Q6u _ _ _ _ FF) Q7e rfl qzn
  ·have hO := qze (Q6o + 1) Q1k 0 w12
   have g1 := qzm S12.h hO (fun j e => by have := qz1g S12.h e; omega)
   have g2 := qzm S12.c hO (fun j e => by have := qz1g S12.c e; omega)
   have g3 := qzm S12.d hO (fun j e => by have := qz1g S12.d e; omega)
   have g4 := qzm S12.t hO (fun j e => by have := qz1g S12.t e; omega)
   exact ⟨((O5.below S12.bel).only hO (by omega)).lo (by omega), by simpa using qz26 g1 (base' := Q6o) (by omega), by simpa using qz26 g2 (base' := Q6o) (by omega), by simpa using qz26 g3 (base' := Q6o) (by omega), by simpa using qz26 g4 (base' := Q6o) (by omega)⟩
  ·exact Below.setCells (by omega) _ _ _ (KK.trans (S12.bel.mono (by omega)))
 have b1 : (En.kind != 0) = false := by simp [ek]
 have ek' : Hid (En.kind = 0) := ek
 clear ek
 go_upto_region 12 with fail
 clear d27 b1
 have d32 : w10.cell? ⟨b8, 32, none⟩ = some (.bool Tn) := (qzv (qz0 D5 S10.bel z5)).2.2.2
 by_cases et : Tn = true
 case pos =>
  rw [et] at d32
  have hr0 := htr'.out et
  have hr : Hid (Hn.at_ = 0) := hr0
  have ett : Hid (Tn = true) := et
  clear hr0 et
  have y12 := S10.cell 12 rfl
  obtain ⟨i0, hi, hzr, hsz, hby⟩ := info_parts qzg1
  have OA := S10.t.alloc (.cells #[.int .i64 (W.now + 1)] 2)
  have news := qz6 w10 [.int .i64 (W.now + 1)] 2
  have hN0 : Q7i <= w10.heap.size := Q77 S10.lo (Nat.le_of_lt S10.hi)
  go_wp2_with (at_builtin; refine wpList_append_own_at _ rfl _ _ 26 rfl Q7i 2 i0 _ 1 8 Tryz.underlying26 hi hzr hsz hby rfl (by decide) _ _ _ rfl OA ⟨w10.heap.size, 0, none⟩ 1 1 [.int .i64 (W.now + 1)] rfl rfl ?n15 ?n25 ?n35 ?n45 ?n55 ?_)
  try (case n15 => exact fun j v hj => by have := news j v hj; rw [Nat.zero_add] at this; by_cases e0 : j = 0; (· subst e0; simpa [Addr.add] using this); (· simpa [Addr.add, e0] using this))
  case n25 => exact qzdc (W.now + 1)
  case n35 => unfold maxLen; omega
  case n45 => omega
  case n55 => simp; omega
  intro v2 wq hown hgrow _ hat
  obtain ⟨ta2, tc2, rfl⟩ := qzf hown
  have SA := S10.below ((Q6s _ _).alloc (Q6v _) (.cells #[.int .i64 (W.now + 1)] 2)) hN0
  have BB : But (fun q => Value.ownBlock Q33 = some q) (w10.alloc (.cells #[.int .i64 (W.now + 1)] 2)) wq := ⟨hgrow.os, hgrow.tape, hgrow.output, hgrow.size, fun q hq hn => hgrow.block q hq (fun e => hn e.symm)⟩
  have SB := SA.grow_t (T' := W.ticks ++ [W.now + 1]) (by simpa [qz1p, intC] using hown) BB (hat.imp id (fun h => by rw [h]; simp))
  clear SA BB hown hgrow hat OA news hi hzr hsz hby y12 hN0
  have y12 := SB.cell 12 rfl
  have v12 := SB.free 12 (by decide)
  go_upto_region 14 with fail
  have S13 : Und Q7i w5 (wq.setCell ⟨b9, 12, none⟩ Q5v) b9 Q23 Q2y Q37 Q5v (W.hands.set k Hn) W.calls W.deeds (W.ticks ++ [W.now + 1]) [.int .i64 x, .int .i64 y, .int .i64 z, .int .i64 u, .int .i64 As.camera, .slice sa sl0 sc, .slice ga gl0 gc, .slice na nl0 nc, .slice ra rl0 rc, .slice (some ⟨hg, 0, none⟩) Q76 hcap, .slice ca Q79 cc, .slice da Q7c dc, .slice ta2 (Q7a + 1) tc2, .int .i64 (W.now + 1)] := SB.put 12 (by simp) Q5v
  clear SB y12 v12 S10
  generalize wq.setCell ⟨b9, 12, none⟩ Q5v = w13 at *
  clear d32
  have d5 : w13.cell? ⟨b8, 5, none⟩ = some (.int .i64 Hn.at_) := by simpa using (qzv (qz0 D5 S13.bel z5)).2.1 0 (.int .i64 Hn.at_) rfl
  have er : Hn.at_ = 0 := hr.out
  have b4 : (Hn.at_ == 0) = true := by simp [er]
  have er' : Hid (Hn.at_ = 0) := er
  clear er
  go_upto_region 15 with fail
  clear d5 b4
  have er : Hn.at_ = 0 := er'.out
  clear er'
  have er : Hid (Hn.at_ = 0) := er
  refine qz2o 26 (by kernel_rfl) (qzgu Q6o b8 b9 ca Q79 cc k h Hn (W.now + 1) w13.heap.size) (fun _ => false) (by kernel_rfl) (by kernel_rfl) (by kernel_rfl) (by kernel_rfl) (by rfl) (fun i v w w' _ h hb => qz6w i v w w' h hb) (fun i v w q hf h hq => by cases hf) ?step6 ?final6
  case step6 =>
   intro i o hik ho' a V hb' hnn hd K hK
   have SV := S13.below hb' (Q77 S13.lo (Nat.le_of_lt S13.hi))
   have HV := qz0 H5 SV.bel (by omega)
   have DV := (qzv (qz0 D5 SV.bel z5)).2.1
   have y10 := SV.cell 10 rfl
   have hzV := hb'.size
   have p2 : V.cell? ⟨Q6o + 1 + 1, 2, none⟩ = some (.int .i64 h.code) := by simpa using HV 2 (.int .i64 h.code) rfl
   have p3 : V.cell? ⟨Q6o + 1 + 1, 3, none⟩ = some (.int .i64 h.key) := by simpa using HV 3 (.int .i64 h.key) rfl
   have p4 : V.cell? ⟨Q6o + 1 + 1, 4, none⟩ = some (.int .i64 h.value) := by simpa using HV 4 (.int .i64 h.value) rfl
   have p5 : V.cell? ⟨Q6o + 1 + 1, 5, none⟩ = some (.int .i64 h.begin) := by simpa using HV 5 (.int .i64 h.begin) rfl
   have p9 : V.cell? ⟨Q6o + 1 + 1, 9, none⟩ = some (.int .i64 h.held) := by simpa using HV 9 (.int .i64 h.held) rfl
   have q11 : V.cell? ⟨b8, 11, none⟩ = some (.int .i64 Hn.reply) := by simpa using DV 6 (.int .i64 Hn.reply) rfl
   have q12 : V.cell? ⟨b8, 12, none⟩ = some (.int .i64 Hn.out) := by simpa using DV 7 (.int .i64 Hn.out) rfl
   have q13 : V.cell? ⟨b8, 13, none⟩ = some (.int .i64 Hn.sum) := by simpa using DV 8 (.int .i64 Hn.sum) rfl
   clear HV DV
   match i, ho' with
   | 0, ho' =>
    obtain rfl := Q6p ho'
    have e9 : a.eval (.tmp 9) = .pointer (some ⟨b9, 0, none⟩) := hnn 9 rfl
    refine qz1 (v := .pointer (some ⟨b9, 10, none⟩)) (w' := V) ?_ (hK _ _ rfl (Q6s _ _) (fun h => by cases h))
    generalize a.eval = ev at *
    go_simp
   | 1, ho' =>
    obtain rfl := Q6p ho'
    have e73 : a.eval (.tmp 73) = .pointer (some ⟨b9, 10, none⟩) := hd ⟨0, .data⟩ (by simp) rfl 73 rfl
    refine qz1 (v := .slice ca Q79 cc) (w' := V) ?_ (hK _ _ rfl (Q6s _ _) (fun h => by cases h))
    generalize a.eval = ev at *
    go_simp
   | 2, ho' =>
    obtain rfl := Q6p ho'
    have e1 : a.eval (.tmp 1) = .int .i64 (k : Int) := hnn 1 rfl
    refine qz1 (v := .int .i64 (k : Int)) (w' := V) ?_ (hK _ _ rfl (Q6s _ _) (fun h => by cases h))
    generalize a.eval = ev at *
    go_simp
   | 3, ho' =>
    obtain rfl := Q6p ho'
    have e6 : a.eval (.tmp 6) = .pointer (some ⟨Q6o + 1 + 1, 0, none⟩) := hnn 6 rfl
    refine qz1 (v := .pointer (some ⟨Q6o + 1 + 1, 2, none⟩)) (w' := V) ?_ (hK _ _ rfl (Q6s _ _) (fun h => by cases h))
    generalize a.eval = ev at *
    go_simp
   | 4, ho' =>
    obtain rfl := Q6p ho'
    have e76 : a.eval (.tmp 76) = .pointer (some ⟨Q6o + 1 + 1, 2, none⟩) := hd ⟨3, .data⟩ (by simp) rfl 76 rfl
    refine qz1 (v := .int .i64 h.code) (w' := V) ?_ (hK _ _ rfl (Q6s _ _) (fun h => by cases h))
    generalize a.eval = ev at *
    go_simp
   | 5, ho' =>
    obtain rfl := Q6p ho'
    have e6 : a.eval (.tmp 6) = .pointer (some ⟨Q6o + 1 + 1, 0, none⟩) := hnn 6 rfl
    refine qz1 (v := .pointer (some ⟨Q6o + 1 + 1, 3, none⟩)) (w' := V) ?_ (hK _ _ rfl (Q6s _ _) (fun h => by cases h))
    generalize a.eval = ev at *
    go_simp
   | 6, ho' =>
    obtain rfl := Q6p ho'
    have e78 : a.eval (.tmp 78) = .pointer (some ⟨Q6o + 1 + 1, 3, none⟩) := hd ⟨5, .data⟩ (by simp) rfl 78 rfl
    refine qz1 (v := .int .i64 h.key) (w' := V) ?_ (hK _ _ rfl (Q6s _ _) (fun h => by cases h))
    generalize a.eval = ev at *
    go_simp
   | 7, ho' =>
    obtain rfl := Q6p ho'
    have e6 : a.eval (.tmp 6) = .pointer (some ⟨Q6o + 1 + 1, 0, none⟩) := hnn 6 rfl
    refine qz1 (v := .pointer (some ⟨Q6o + 1 + 1, 4, none⟩)) (w' := V) ?_ (hK _ _ rfl (Q6s _ _) (fun h => by cases h))
    generalize a.eval = ev at *
    go_simp
   | 8, ho' =>
    obtain rfl := Q6p ho'
    have e80 : a.eval (.tmp 80) = .pointer (some ⟨Q6o + 1 + 1, 4, none⟩) := hd ⟨7, .data⟩ (by simp) rfl 80 rfl
    refine qz1 (v := .int .i64 h.value) (w' := V) ?_ (hK _ _ rfl (Q6s _ _) (fun h => by cases h))
    generalize a.eval = ev at *
    go_simp
   | 9, ho' =>
    obtain rfl := Q6p ho'
    have e6 : a.eval (.tmp 6) = .pointer (some ⟨Q6o + 1 + 1, 0, none⟩) := hnn 6 rfl
    refine qz1 (v := .pointer (some ⟨Q6o + 1 + 1, 5, none⟩)) (w' := V) ?_ (hK _ _ rfl (Q6s _ _) (fun h => by cases h))
    generalize a.eval = ev at *
    go_simp
   | 10, ho' =>
    obtain rfl := Q6p ho'
    have e82 : a.eval (.tmp 82) = .pointer (some ⟨Q6o + 1 + 1, 5, none⟩) := hd ⟨9, .data⟩ (by simp) rfl 82 rfl
    refine qz1 (v := .int .i64 h.begin) (w' := V) ?_ (hK _ _ rfl (Q6s _ _) (fun h => by cases h))
    generalize a.eval = ev at *
    go_simp
   | 21, ho' =>
    obtain rfl := Q6p ho'
    have e6 : a.eval (.tmp 6) = .pointer (some ⟨Q6o + 1 + 1, 0, none⟩) := hnn 6 rfl
    refine qz1 (v := .pointer (some ⟨Q6o + 1 + 1, 9, none⟩)) (w' := V) ?_ (hK _ _ rfl (Q6s _ _) (fun h => by cases h))
    generalize a.eval = ev at *
    go_simp
   | 22, ho' =>
    obtain rfl := Q6p ho'
    have e94 : a.eval (.tmp 94) = .pointer (some ⟨Q6o + 1 + 1, 9, none⟩) := hd ⟨21, .data⟩ (by simp) rfl 94 rfl
    refine qz1 (v := .int .i64 h.held) (w' := V) ?_ (hK _ _ rfl (Q6s _ _) (fun h => by cases h))
    generalize a.eval = ev at *
    go_simp
   | 11, ho' =>
    obtain rfl := Q6p ho'
    have e7 : a.eval (.tmp 7) = .int .i64 (W.now + 1) := hnn 7 rfl
    refine qz1 (v := .int .i64 (W.now + 1)) (w' := V) ?_ (hK _ _ rfl (Q6s _ _) (fun h => by cases h))
    generalize a.eval = ev at *
    go_simp
   | 12, ho' =>
    obtain rfl := Q6p ho'
    have e8 : a.eval (.tmp 8) = .pointer (some ⟨b8, 0, none⟩) := hnn 8 rfl
    refine qz1 (v := .pointer (some ⟨b8, 5, none⟩)) (w' := V) ?_ (hK _ _ rfl (Q6s _ _) (fun h => by cases h))
    generalize a.eval = ev at *
    go_simp
   | 13, ho' =>
    obtain rfl := Q6p ho'
    have e85 : a.eval (.tmp 85) = .pointer (some ⟨b8, 5, none⟩) := hd ⟨12, .data⟩ (by simp) rfl 85 rfl
    refine qz1 (v := .pointer (some ⟨b8, 11, none⟩)) (w' := V) ?_ (hK _ _ rfl (Q6s _ _) (fun h => by cases h))
    generalize a.eval = ev at *
    go_simp
   | 14, ho' =>
    obtain rfl := Q6p ho'
    have e86 : a.eval (.tmp 86) = .pointer (some ⟨b8, 11, none⟩) := hd ⟨13, .data⟩ (by simp) rfl 86 rfl
    refine qz1 (v := .int .i64 Hn.reply) (w' := V) ?_ (hK _ _ rfl (Q6s _ _) (fun h => by cases h))
    generalize a.eval = ev at *
    go_simp
   | 15, ho' =>
    obtain rfl := Q6p ho'
    have e8 : a.eval (.tmp 8) = .pointer (some ⟨b8, 0, none⟩) := hnn 8 rfl
    refine qz1 (v := .pointer (some ⟨b8, 5, none⟩)) (w' := V) ?_ (hK _ _ rfl (Q6s _ _) (fun h => by cases h))
    generalize a.eval = ev at *
    go_simp
   | 16, ho' =>
    obtain rfl := Q6p ho'
    have e88 : a.eval (.tmp 88) = .pointer (some ⟨b8, 5, none⟩) := hd ⟨15, .data⟩ (by simp) rfl 88 rfl
    refine qz1 (v := .pointer (some ⟨b8, 12, none⟩)) (w' := V) ?_ (hK _ _ rfl (Q6s _ _) (fun h => by cases h))
    generalize a.eval = ev at *
    go_simp
   | 17, ho' =>
    obtain rfl := Q6p ho'
    have e89 : a.eval (.tmp 89) = .pointer (some ⟨b8, 12, none⟩) := hd ⟨16, .data⟩ (by simp) rfl 89 rfl
    refine qz1 (v := .int .i64 Hn.out) (w' := V) ?_ (hK _ _ rfl (Q6s _ _) (fun h => by cases h))
    generalize a.eval = ev at *
    go_simp
   | 18, ho' =>
    obtain rfl := Q6p ho'
    have e8 : a.eval (.tmp 8) = .pointer (some ⟨b8, 0, none⟩) := hnn 8 rfl
    refine qz1 (v := .pointer (some ⟨b8, 5, none⟩)) (w' := V) ?_ (hK _ _ rfl (Q6s _ _) (fun h => by cases h))
    generalize a.eval = ev at *
    go_simp
   | 19, ho' =>
    obtain rfl := Q6p ho'
    have e91 : a.eval (.tmp 91) = .pointer (some ⟨b8, 5, none⟩) := hd ⟨18, .data⟩ (by simp) rfl 91 rfl
    refine qz1 (v := .pointer (some ⟨b8, 13, none⟩)) (w' := V) ?_ (hK _ _ rfl (Q6s _ _) (fun h => by cases h))
    generalize a.eval = ev at *
    go_simp
   | 20, ho' =>
    obtain rfl := Q6p ho'
    have e92 : a.eval (.tmp 92) = .pointer (some ⟨b8, 13, none⟩) := hd ⟨19, .data⟩ (by simp) rfl 92 rfl
    refine qz1 (v := .int .i64 Hn.sum) (w' := V) ?_ (hK _ _ rfl (Q6s _ _) (fun h => by cases h))
    generalize a.eval = ev at *
    go_simp
   | 23, ho' =>
    obtain rfl := Q6p ho'
    have e1 : a.eval (.tmp 95) = .int .i64 h.held := hd ⟨22, .data⟩ (by simp) rfl 95 rfl
    have ef : a.eval (.func 138) = .func (.func 138) #[] #[] := rfl
    have e2 : a.eval (.const (.int .i64 0)) = .int .i64 0 := rfl
    refine qz19 (f := 138) (args := #[.int .i64 h.held, .int .i64 0]) (R := fun v w' => v = .int .i64 (max h.held 0) /\ Below V.heap.size V w') ?_ ((qz1e h.held 0 V).mono (fun e w' h => ⟨_, h.1, rfl, by rw [h.2]; exact Q6s _ _⟩)) (fun v w' h => hK v w' h.1 h.2 (fun h => by cases h))
    generalize a.eval = ev at *
    go_simp
   | 24, ho' =>
    obtain rfl := Q6p ho'
    have e75 : a.eval (.tmp 75) = .int .i64 (k : Int) := hd ⟨2, .data⟩ (by simp) rfl 75 rfl
    have e77 : a.eval (.tmp 77) = .int .i64 h.code := hd ⟨4, .data⟩ (by simp) rfl 77 rfl
    have e79 : a.eval (.tmp 79) = .int .i64 h.key := hd ⟨6, .data⟩ (by simp) rfl 79 rfl
    have e81 : a.eval (.tmp 81) = .int .i64 h.value := hd ⟨8, .data⟩ (by simp) rfl 81 rfl
    have e83 : a.eval (.tmp 83) = .int .i64 h.begin := hd ⟨10, .data⟩ (by simp) rfl 83 rfl
    have e84 : a.eval (.tmp 84) = .int .i64 (W.now + 1) := hd ⟨11, .data⟩ (by simp) rfl 84 rfl
    have e87 : a.eval (.tmp 87) = .int .i64 Hn.reply := hd ⟨14, .data⟩ (by simp) rfl 87 rfl
    have e90 : a.eval (.tmp 90) = .int .i64 Hn.out := hd ⟨17, .data⟩ (by simp) rfl 90 rfl
    have e93 : a.eval (.tmp 93) = .int .i64 Hn.sum := hd ⟨20, .data⟩ (by simp) rfl 93 rfl
    have e96 : a.eval (.tmp 96) = .int .i64 (max h.held 0) := hd ⟨23, .data⟩ (by simp) rfl 96 rfl
    refine qz1 (v := .agg #[.int .i64 (k : Int), .int .i64 h.code, .int .i64 h.key, .int .i64 h.value, .int .i64 h.begin, .int .i64 (W.now + 1), .int .i64 Hn.reply, .int .i64 Hn.out, .int .i64 Hn.sum, .int .i64 (max h.held 0)]) (w' := V) ?_ (hK _ _ rfl (Q6s _ _) (fun h => by cases h))
    generalize a.eval = ev at *
    go_simp
   | 25, ho' =>
    obtain rfl := Q6p ho'
    have e1 : a.eval (.tmp 97) = .agg #[.int .i64 (k : Int), .int .i64 h.code, .int .i64 h.key, .int .i64 h.value, .int .i64 h.begin, .int .i64 (W.now + 1), .int .i64 Hn.reply, .int .i64 Hn.out, .int .i64 Hn.sum, .int .i64 (max h.held 0)] := hd ⟨24, .data⟩ (by simp) rfl 97 rfl
    refine qz1 (v := .slice (some ⟨V.heap.size, 0, none⟩) 1 1) (w' := V.alloc (.cells #[.int .i64 (k : Int), .int .i64 h.code, .int .i64 h.key, .int .i64 h.value, .int .i64 h.begin, .int .i64 (W.now + 1), .int .i64 Hn.reply, .int .i64 Hn.out, .int .i64 Hn.sum, .int .i64 (max h.held 0)] 163)) ?_ (hK _ _ ⟨_, rfl, hzV, by simp, qz6 V (clC Q4y) 163⟩ ((Q6s _ _).alloc (Q6v _) _) (fun h => by cases h))
    generalize a.eval = ev at *
    go_simp
   | n + 26, ho' => omega
  intro vt V2 hb2 hG2 _
  have SV := S13.below hb2 (Q77 S13.lo (Nat.le_of_lt S13.hi))
  have g1 : vt 1 = .slice ca Q79 cc := hG2 1 (by decide)
  obtain ⟨qc, g25, hq0, hq1, news⟩ := (show ∃ q, vt 25 = .slice (some ⟨q, 0, none⟩) 1 1 /\ w13.heap.size <= q /\ q < V2.heap.size /\ V2.rangeAt q 0 (clC Q4y) from hG2 25 (by decide))
  generalize hl : laid _ vt _ _ _ = A'
  have hA2 : A' = { tmps := #[.agg Q03, .int .i64 (k : Int), .pointer (some ⟨Q6o, 0, none⟩), undef, .pointer (some ⟨Q6o + 1, 0, none⟩), .bool false, .pointer (some ⟨Q6o + 1 + 1, 0, none⟩), .int .i64 (W.now + 1), .pointer (some ⟨b8, 0, none⟩), .pointer (some ⟨b9, 0, none⟩), .pointer (some ⟨Q6o, 9, none⟩), .slice (some ⟨hb, ho, none⟩) Q76 c4, .int .i64 (k : Int), .pointer (some ⟨hb, ho + k * 22, none⟩), .agg (hdC h).toArray, .pointer (some ⟨Q6o + 1 + 1, 0, none⟩), .int .i64 h.at_, .bool false, .bool false, .pointer (some ⟨Q6o, 13, none⟩), .int .i64 W.now, .bool false, .bool false, undef, .pointer (some ⟨Q6o, 13, none⟩), .int .i64 W.now, .int .i64 (W.now + 1), vs 0, vs 1, vs 2, vs 3, vs 4, vs 5, vs 6, vs 7, vs 8, .agg (Q1m).toArray, .agg Q03, .agg (Q0s).toArray, .int .i64 (W.now + 1), .pointer (some ⟨b9, 13, none⟩), .pointer (some ⟨b8, 0, none⟩), .agg Q43, .pointer (some ⟨b9, 4, none⟩), .pointer (some ⟨b9, 9, none⟩), .slice (some ⟨hg, 0, none⟩) Q76 hcap, .int .i64 (k : Int), .pointer (some ⟨b8, 5, none⟩), .agg (hdC Hn).toArray, .pointer (some ⟨hg, k * 22, none⟩), .pointer (some ⟨b8, 27, none⟩), .pointer (some ⟨b8, 27, none⟩), .int .i64 En.kind, .bool false, undef, undef, undef, undef, undef, undef, undef, .pointer (some ⟨b8, 32, none⟩), .bool true, .pointer (some ⟨b9, 12, none⟩), .slice ta Q7a tc, .int .i64 (W.now + 1), .slice (some ⟨w10.heap.size, 0, none⟩) 1 1, .slice ta2 (Q7a + 1) tc2, .pointer (some ⟨b9, 12, none⟩), .pointer (some ⟨b8, 5, none⟩), .pointer (some ⟨b8, 5, none⟩), .int .i64 Hn.at_, .bool true, vt 0, vt 1, vt 2, vt 3, vt 4, vt 5, vt 6, vt 7, vt 8, vt 9, vt 10, vt 11, vt 12, vt 13, vt 14, vt 15, vt 16, vt 17, vt 18, vt 19, vt 20, vt 21, vt 22, vt 23, vt 24, vt 25, undef, undef, undef], defers := [] } := by
   rw [<- hl]
   kernel_rfl
  subst hA2
  rw [g1, g25]
  clear hl hG2 g1 g25
  have hN0 : Q7i <= V2.heap.size := Q77 SV.lo (Nat.le_of_lt SV.hi)
  obtain ⟨i0, hi, hzr, hsz, hby⟩ := info_parts qz6g
  refine wpList_append_own_at _ rfl _ _ 47 rfl Q7i 163 i0 _ 10 80 Tryz.underlying47 hi hzr hsz hby rfl (by decide) _ _ _ rfl SV.c ⟨qc, 0, none⟩ 1 1 (clC Q4y) rfl rfl ?n16 ?n26 ?n36 ?n46 ?n56 ?_
  case n16 => exact fun j v hj => by have := news j v hj; rw [Nat.zero_add] at this; by_cases e0 : j = 0; (· subst e0; simpa [Addr.add] using this); (· simpa [Addr.add, e0] using this)
  case n26 => exact qzb8 _
  case n36 => unfold maxLen; omega
  case n46 => omega
  case n56 => exact hN0
  intro v2 wq hown hgrow _ hat
  obtain ⟨ca2, cc2, rfl⟩ := qzf hown
  have BB : But (fun q => Value.ownBlock Q2y = some q) V2 wq := ⟨hgrow.os, hgrow.tape, hgrow.output, hgrow.size, fun q hq hn => hgrow.block q hq (fun e => hn e.symm)⟩
  have SB := SV.grow_c (C' := W.calls ++ [qz6b k h Hn (W.now + 1)]) (by simpa [qz1p] using hown) BB hat
  clear BB hown hgrow hat hi hzr hsz hby SV S13 news
  have y10 := SB.cell 10 rfl
  have v10 := SB.free 10 (by decide)
  go_upto_region 16 with fail
  have S15 : Und Q7i w5 (wq.setCell ⟨b9, 10, none⟩ Q2u) b9 Q23 Q2u Q37 Q5v (W.hands.set k Hn) (W.calls ++ [qz6b k h Hn (W.now + 1)]) W.deeds (W.ticks ++ [W.now + 1]) Q1h := SB.put 10 (by simp) Q2u
  clear SB y10 v10
  generalize wq.setCell ⟨b9, 10, none⟩ Q2u = w15 at *
  have FF := qz5 F5 S15.bel (by omega)
  have RR := S15.row
  go_wp2_with (first | (refine wpList_load_mid rfl 50 (.tmp 9) rfl b9 0 rfl Q1h _ ?lf7 Tryz.underlying50 rfl qzn ?_) | (refine wpList_store_mid rfl 50 (.tmp 4) (.tmp 101) rfl (w.heap.size + 1) 0 Q39 ?fx7 ?fy7 ?ft7 qzn (by simp [Value.oneCell']) ?_))
  try (case lf7 => exact RR)
  try (case fx7 => rfl)
  try (case fy7 => rfl)
  try (case ft7 => exact FF)
  have hSW : qz98 x y z u W k h = ⟨As, W.hands.set k Hn, (W.calls ++ [qz6b k h Hn (W.now + 1)]), W.deeds, (W.ticks ++ [W.now + 1]), W.now + 1⟩ := by
   unfold qz98
   rw [hS.out]
   dsimp only
   simp only [ek'.out, ett.out, er.out, ne_eq, not_true_eq_false, not_false_eq_true, if_true, if_false, Bool.false_eq_true]
  rw [hSW]
  refine bodyPost_ret (v := .tuple #[.agg Q39, .bool true]) ?_ rfl ⟨.slice sa sl0 sc, .slice ga gl0 gc, .slice na nl0 nc, .slice ra rl0 rc, .slice (some ⟨hg, 0, none⟩) Q76 hcap, .slice ca2 (Q79 + 1) cc2, .slice da Q7c dc, .slice ta2 (Q7a + 1) tc2, rfl, ?_, ?_⟩
  ·exact qzl Tryz.results111 _ _ (Q6o + 1) 0 rfl Q1h _ (Q6u _ _ _ _ FF) Q7e rfl qzn
  ·have hO := qze (Q6o + 1) Q1h 0 w15
   have g1 := qzm S15.h hO (fun j e => by have := qz1g S15.h e; omega)
   have g2 := qzm S15.c hO (fun j e => by have := qz1g S15.c e; omega)
   have g3 := qzm S15.d hO (fun j e => by have := qz1g S15.d e; omega)
   have g4 := qzm S15.t hO (fun j e => by have := qz1g S15.t e; omega)
   exact ⟨((O5.below S15.bel).only hO (by omega)).lo (by omega), by simpa using qz26 g1 (base' := Q6o) (by omega), by simpa using qz26 g2 (base' := Q6o) (by omega), by simpa using qz26 g3 (base' := Q6o) (by omega), by simpa using qz26 g4 (base' := Q6o) (by omega)⟩
  ·exact Below.setCells (by omega) _ _ _ (KK.trans (S15.bel.mono (by omega)))
 have et0 : Tn = false := by simpa using et
 rw [et0] at d32
 have etf : Hid (Tn = false) := et0
 clear et0
 clear et
 go_upto_region 14 with fail
 clear d32
 have d5 : w10.cell? ⟨b8, 5, none⟩ = some (.int .i64 Hn.at_) := by simpa using (qzv (qz0 D5 S10.bel z5)).2.1 0 (.int .i64 Hn.at_) rfl
 by_cases er : Hn.at_ = 0
 ·have b4 : (Hn.at_ == 0) = true := by simp [er]
  have er' : Hid (Hn.at_ = 0) := er
  clear er
  go_upto_region 15 with fail
  clear d5 b4
  have er : Hn.at_ = 0 := er'.out
  clear er'
  have er : Hid (Hn.at_ = 0) := er
  refine qz2o 26 (by kernel_rfl) (qzgu Q6o b8 b9 ca Q79 cc k h Hn (W.now + 1) w10.heap.size) (fun _ => false) (by kernel_rfl) (by kernel_rfl) (by kernel_rfl) (by kernel_rfl) (by rfl) (fun i v w w' _ h hb => qz6w i v w w' h hb) (fun i v w q hf h hq => by cases hf) ?step8 ?final8
  case step8 =>
   intro i o hik ho' a V hb' hnn hd K hK
   have SV := S10.below hb' (Q77 S10.lo (Nat.le_of_lt S10.hi))
   have HV := qz0 H5 SV.bel (by omega)
   have DV := (qzv (qz0 D5 SV.bel z5)).2.1
   have y10 := SV.cell 10 rfl
   have hzV := hb'.size
   have p2 : V.cell? ⟨Q6o + 1 + 1, 2, none⟩ = some (.int .i64 h.code) := by simpa using HV 2 (.int .i64 h.code) rfl
   have p3 : V.cell? ⟨Q6o + 1 + 1, 3, none⟩ = some (.int .i64 h.key) := by simpa using HV 3 (.int .i64 h.key) rfl
   have p4 : V.cell? ⟨Q6o + 1 + 1, 4, none⟩ = some (.int .i64 h.value) := by simpa using HV 4 (.int .i64 h.value) rfl
   have p5 : V.cell? ⟨Q6o + 1 + 1, 5, none⟩ = some (.int .i64 h.begin) := by simpa using HV 5 (.int .i64 h.begin) rfl
   have p9 : V.cell? ⟨Q6o + 1 + 1, 9, none⟩ = some (.int .i64 h.held) := by simpa using HV 9 (.int .i64 h.held) rfl
   have q11 : V.cell? ⟨b8, 11, none⟩ = some (.int .i64 Hn.reply) := by simpa using DV 6 (.int .i64 Hn.reply) rfl
   have q12 : V.cell? ⟨b8, 12, none⟩ = some (.int .i64 Hn.out) := by simpa using DV 7 (.int .i64 Hn.out) rfl
   have q13 : V.cell? ⟨b8, 13, none⟩ = some (.int .i64 Hn.sum) := by simpa using DV 8 (.int .i64 Hn.sum) rfl
   clear HV DV
   match i, ho' with
   | 0, ho' =>
    obtain rfl := Q6p ho'
    have e9 : a.eval (.tmp 9) = .pointer (some ⟨b9, 0, none⟩) := hnn 9 rfl
    refine qz1 (v := .pointer (some ⟨b9, 10, none⟩)) (w' := V) ?_ (hK _ _ rfl (Q6s _ _) (fun h => by cases h))
    generalize a.eval = ev at *
    go_simp
   | 1, ho' =>
    obtain rfl := Q6p ho'
    have e73 : a.eval (.tmp 73) = .pointer (some ⟨b9, 10, none⟩) := hd ⟨0, .data⟩ (by simp) rfl 73 rfl
    refine qz1 (v := .slice ca Q79 cc) (w' := V) ?_ (hK _ _ rfl (Q6s _ _) (fun h => by cases h))
    generalize a.eval = ev at *
    go_simp
   | 2, ho' =>
    obtain rfl := Q6p ho'
    have e1 : a.eval (.tmp 1) = .int .i64 (k : Int) := hnn 1 rfl
    refine qz1 (v := .int .i64 (k : Int)) (w' := V) ?_ (hK _ _ rfl (Q6s _ _) (fun h => by cases h))
    generalize a.eval = ev at *
    go_simp
   | 3, ho' =>
    obtain rfl := Q6p ho'
    have e6 : a.eval (.tmp 6) = .pointer (some ⟨Q6o + 1 + 1, 0, none⟩) := hnn 6 rfl
    refine qz1 (v := .pointer (some ⟨Q6o + 1 + 1, 2, none⟩)) (w' := V) ?_ (hK _ _ rfl (Q6s _ _) (fun h => by cases h))
    generalize a.eval = ev at *
    go_simp
   | 4, ho' =>
    obtain rfl := Q6p ho'
    have e76 : a.eval (.tmp 76) = .pointer (some ⟨Q6o + 1 + 1, 2, none⟩) := hd ⟨3, .data⟩ (by simp) rfl 76 rfl
    refine qz1 (v := .int .i64 h.code) (w' := V) ?_ (hK _ _ rfl (Q6s _ _) (fun h => by cases h))
    generalize a.eval = ev at *
    go_simp
   | 5, ho' =>
    obtain rfl := Q6p ho'
    have e6 : a.eval (.tmp 6) = .pointer (some ⟨Q6o + 1 + 1, 0, none⟩) := hnn 6 rfl
    refine qz1 (v := .pointer (some ⟨Q6o + 1 + 1, 3, none⟩)) (w' := V) ?_ (hK _ _ rfl (Q6s _ _) (fun h => by cases h))
    generalize a.eval = ev at *
    go_simp
   | 6, ho' =>
    obtain rfl := Q6p ho'
    have e78 : a.eval (.tmp 78) = .pointer (some ⟨Q6o + 1 + 1, 3, none⟩) := hd ⟨5, .data⟩ (by simp) rfl 78 rfl
    refine qz1 (v := .int .i64 h.key) (w' := V) ?_ (hK _ _ rfl (Q6s _ _) (fun h => by cases h))
    generalize a.eval = ev at *
    go_simp
   | 7, ho' =>
    obtain rfl := Q6p ho'
    have e6 : a.eval (.tmp 6) = .pointer (some ⟨Q6o + 1 + 1, 0, none⟩) := hnn 6 rfl
    refine qz1 (v := .pointer (some ⟨Q6o + 1 + 1, 4, none⟩)) (w' := V) ?_ (hK _ _ rfl (Q6s _ _) (fun h => by cases h))
    generalize a.eval = ev at *
    go_simp
   | 8, ho' =>
    obtain rfl := Q6p ho'
    have e80 : a.eval (.tmp 80) = .pointer (some ⟨Q6o + 1 + 1, 4, none⟩) := hd ⟨7, .data⟩ (by simp) rfl 80 rfl
    refine qz1 (v := .int .i64 h.value) (w' := V) ?_ (hK _ _ rfl (Q6s _ _) (fun h => by cases h))
    generalize a.eval = ev at *
    go_simp
   | 9, ho' =>
    obtain rfl := Q6p ho'
    have e6 : a.eval (.tmp 6) = .pointer (some ⟨Q6o + 1 + 1, 0, none⟩) := hnn 6 rfl
    refine qz1 (v := .pointer (some ⟨Q6o + 1 + 1, 5, none⟩)) (w' := V) ?_ (hK _ _ rfl (Q6s _ _) (fun h => by cases h))
    generalize a.eval = ev at *
    go_simp
   | 10, ho' =>
    obtain rfl := Q6p ho'
    have e82 : a.eval (.tmp 82) = .pointer (some ⟨Q6o + 1 + 1, 5, none⟩) := hd ⟨9, .data⟩ (by simp) rfl 82 rfl
    refine qz1 (v := .int .i64 h.begin) (w' := V) ?_ (hK _ _ rfl (Q6s _ _) (fun h => by cases h))
    generalize a.eval = ev at *
    go_simp
   | 21, ho' =>
    obtain rfl := Q6p ho'
    have e6 : a.eval (.tmp 6) = .pointer (some ⟨Q6o + 1 + 1, 0, none⟩) := hnn 6 rfl
    refine qz1 (v := .pointer (some ⟨Q6o + 1 + 1, 9, none⟩)) (w' := V) ?_ (hK _ _ rfl (Q6s _ _) (fun h => by cases h))
    generalize a.eval = ev at *
    go_simp
   | 22, ho' =>
    obtain rfl := Q6p ho'
    have e94 : a.eval (.tmp 94) = .pointer (some ⟨Q6o + 1 + 1, 9, none⟩) := hd ⟨21, .data⟩ (by simp) rfl 94 rfl
    refine qz1 (v := .int .i64 h.held) (w' := V) ?_ (hK _ _ rfl (Q6s _ _) (fun h => by cases h))
    generalize a.eval = ev at *
    go_simp
   | 11, ho' =>
    obtain rfl := Q6p ho'
    have e7 : a.eval (.tmp 7) = .int .i64 (W.now + 1) := hnn 7 rfl
    refine qz1 (v := .int .i64 (W.now + 1)) (w' := V) ?_ (hK _ _ rfl (Q6s _ _) (fun h => by cases h))
    generalize a.eval = ev at *
    go_simp
   | 12, ho' =>
    obtain rfl := Q6p ho'
    have e8 : a.eval (.tmp 8) = .pointer (some ⟨b8, 0, none⟩) := hnn 8 rfl
    refine qz1 (v := .pointer (some ⟨b8, 5, none⟩)) (w' := V) ?_ (hK _ _ rfl (Q6s _ _) (fun h => by cases h))
    generalize a.eval = ev at *
    go_simp
   | 13, ho' =>
    obtain rfl := Q6p ho'
    have e85 : a.eval (.tmp 85) = .pointer (some ⟨b8, 5, none⟩) := hd ⟨12, .data⟩ (by simp) rfl 85 rfl
    refine qz1 (v := .pointer (some ⟨b8, 11, none⟩)) (w' := V) ?_ (hK _ _ rfl (Q6s _ _) (fun h => by cases h))
    generalize a.eval = ev at *
    go_simp
   | 14, ho' =>
    obtain rfl := Q6p ho'
    have e86 : a.eval (.tmp 86) = .pointer (some ⟨b8, 11, none⟩) := hd ⟨13, .data⟩ (by simp) rfl 86 rfl
    refine qz1 (v := .int .i64 Hn.reply) (w' := V) ?_ (hK _ _ rfl (Q6s _ _) (fun h => by cases h))
    generalize a.eval = ev at *
    go_simp
   | 15, ho' =>
    obtain rfl := Q6p ho'
    have e8 : a.eval (.tmp 8) = .pointer (some ⟨b8, 0, none⟩) := hnn 8 rfl
    refine qz1 (v := .pointer (some ⟨b8, 5, none⟩)) (w' := V) ?_ (hK _ _ rfl (Q6s _ _) (fun h => by cases h))
    generalize a.eval = ev at *
    go_simp
   | 16, ho' =>
    obtain rfl := Q6p ho'
    have e88 : a.eval (.tmp 88) = .pointer (some ⟨b8, 5, none⟩) := hd ⟨15, .data⟩ (by simp) rfl 88 rfl
    refine qz1 (v := .pointer (some ⟨b8, 12, none⟩)) (w' := V) ?_ (hK _ _ rfl (Q6s _ _) (fun h => by cases h))
    generalize a.eval = ev at *
    go_simp
   | 17, ho' =>
    obtain rfl := Q6p ho'
    have e89 : a.eval (.tmp 89) = .pointer (some ⟨b8, 12, none⟩) := hd ⟨16, .data⟩ (by simp) rfl 89 rfl
    refine qz1 (v := .int .i64 Hn.out) (w' := V) ?_ (hK _ _ rfl (Q6s _ _) (fun h => by cases h))
    generalize a.eval = ev at *
    go_simp
   | 18, ho' =>
    obtain rfl := Q6p ho'
    have e8 : a.eval (.tmp 8) = .pointer (some ⟨b8, 0, none⟩) := hnn 8 rfl
    refine qz1 (v := .pointer (some ⟨b8, 5, none⟩)) (w' := V) ?_ (hK _ _ rfl (Q6s _ _) (fun h => by cases h))
    generalize a.eval = ev at *
    go_simp
   | 19, ho' =>
    obtain rfl := Q6p ho'
    have e91 : a.eval (.tmp 91) = .pointer (some ⟨b8, 5, none⟩) := hd ⟨18, .data⟩ (by simp) rfl 91 rfl
    refine qz1 (v := .pointer (some ⟨b8, 13, none⟩)) (w' := V) ?_ (hK _ _ rfl (Q6s _ _) (fun h => by cases h))
    generalize a.eval = ev at *
    go_simp
   | 20, ho' =>
    obtain rfl := Q6p ho'
    have e92 : a.eval (.tmp 92) = .pointer (some ⟨b8, 13, none⟩) := hd ⟨19, .data⟩ (by simp) rfl 92 rfl
    refine qz1 (v := .int .i64 Hn.sum) (w' := V) ?_ (hK _ _ rfl (Q6s _ _) (fun h => by cases h))
    generalize a.eval = ev at *
    go_simp
   | 23, ho' =>
    obtain rfl := Q6p ho'
    have e1 : a.eval (.tmp 95) = .int .i64 h.held := hd ⟨22, .data⟩ (by simp) rfl 95 rfl
    have ef : a.eval (.func 138) = .func (.func 138) #[] #[] := rfl
    have e2 : a.eval (.const (.int .i64 0)) = .int .i64 0 := rfl
    refine qz19 (f := 138) (args := #[.int .i64 h.held, .int .i64 0]) (R := fun v w' => v = .int .i64 (max h.held 0) /\ Below V.heap.size V w') ?_ ((qz1e h.held 0 V).mono (fun e w' h => ⟨_, h.1, rfl, by rw [h.2]; exact Q6s _ _⟩)) (fun v w' h => hK v w' h.1 h.2 (fun h => by cases h))
    generalize a.eval = ev at *
    go_simp
   | 24, ho' =>
    obtain rfl := Q6p ho'
    have e75 : a.eval (.tmp 75) = .int .i64 (k : Int) := hd ⟨2, .data⟩ (by simp) rfl 75 rfl
    have e77 : a.eval (.tmp 77) = .int .i64 h.code := hd ⟨4, .data⟩ (by simp) rfl 77 rfl
    have e79 : a.eval (.tmp 79) = .int .i64 h.key := hd ⟨6, .data⟩ (by simp) rfl 79 rfl
    have e81 : a.eval (.tmp 81) = .int .i64 h.value := hd ⟨8, .data⟩ (by simp) rfl 81 rfl
    have e83 : a.eval (.tmp 83) = .int .i64 h.begin := hd ⟨10, .data⟩ (by simp) rfl 83 rfl
    have e84 : a.eval (.tmp 84) = .int .i64 (W.now + 1) := hd ⟨11, .data⟩ (by simp) rfl 84 rfl
    have e87 : a.eval (.tmp 87) = .int .i64 Hn.reply := hd ⟨14, .data⟩ (by simp) rfl 87 rfl
    have e90 : a.eval (.tmp 90) = .int .i64 Hn.out := hd ⟨17, .data⟩ (by simp) rfl 90 rfl
    have e93 : a.eval (.tmp 93) = .int .i64 Hn.sum := hd ⟨20, .data⟩ (by simp) rfl 93 rfl
    have e96 : a.eval (.tmp 96) = .int .i64 (max h.held 0) := hd ⟨23, .data⟩ (by simp) rfl 96 rfl
    refine qz1 (v := .agg #[.int .i64 (k : Int), .int .i64 h.code, .int .i64 h.key, .int .i64 h.value, .int .i64 h.begin, .int .i64 (W.now + 1), .int .i64 Hn.reply, .int .i64 Hn.out, .int .i64 Hn.sum, .int .i64 (max h.held 0)]) (w' := V) ?_ (hK _ _ rfl (Q6s _ _) (fun h => by cases h))
    generalize a.eval = ev at *
    go_simp
   | 25, ho' =>
    obtain rfl := Q6p ho'
    have e1 : a.eval (.tmp 97) = .agg #[.int .i64 (k : Int), .int .i64 h.code, .int .i64 h.key, .int .i64 h.value, .int .i64 h.begin, .int .i64 (W.now + 1), .int .i64 Hn.reply, .int .i64 Hn.out, .int .i64 Hn.sum, .int .i64 (max h.held 0)] := hd ⟨24, .data⟩ (by simp) rfl 97 rfl
    refine qz1 (v := .slice (some ⟨V.heap.size, 0, none⟩) 1 1) (w' := V.alloc (.cells #[.int .i64 (k : Int), .int .i64 h.code, .int .i64 h.key, .int .i64 h.value, .int .i64 h.begin, .int .i64 (W.now + 1), .int .i64 Hn.reply, .int .i64 Hn.out, .int .i64 Hn.sum, .int .i64 (max h.held 0)] 163)) ?_ (hK _ _ ⟨_, rfl, hzV, by simp, qz6 V (clC Q4y) 163⟩ ((Q6s _ _).alloc (Q6v _) _) (fun h => by cases h))
    generalize a.eval = ev at *
    go_simp
   | n + 26, ho' => omega
  intro vt V2 hb2 hG2 _
  have SV := S10.below hb2 (Q77 S10.lo (Nat.le_of_lt S10.hi))
  have g1 : vt 1 = .slice ca Q79 cc := hG2 1 (by decide)
  obtain ⟨qc, g25, hq0, hq1, news⟩ := (show ∃ q, vt 25 = .slice (some ⟨q, 0, none⟩) 1 1 /\ w10.heap.size <= q /\ q < V2.heap.size /\ V2.rangeAt q 0 (clC Q4y) from hG2 25 (by decide))
  generalize hl : laid _ vt _ _ _ = A'
  have hA2 : A' = { tmps := #[.agg Q03, .int .i64 (k : Int), .pointer (some ⟨Q6o, 0, none⟩), undef, .pointer (some ⟨Q6o + 1, 0, none⟩), .bool false, .pointer (some ⟨Q6o + 1 + 1, 0, none⟩), .int .i64 (W.now + 1), .pointer (some ⟨b8, 0, none⟩), .pointer (some ⟨b9, 0, none⟩), .pointer (some ⟨Q6o, 9, none⟩), .slice (some ⟨hb, ho, none⟩) Q76 c4, .int .i64 (k : Int), .pointer (some ⟨hb, ho + k * 22, none⟩), .agg (hdC h).toArray, .pointer (some ⟨Q6o + 1 + 1, 0, none⟩), .int .i64 h.at_, .bool false, .bool false, .pointer (some ⟨Q6o, 13, none⟩), .int .i64 W.now, .bool false, .bool false, undef, .pointer (some ⟨Q6o, 13, none⟩), .int .i64 W.now, .int .i64 (W.now + 1), vs 0, vs 1, vs 2, vs 3, vs 4, vs 5, vs 6, vs 7, vs 8, .agg (Q1m).toArray, .agg Q03, .agg (Q0s).toArray, .int .i64 (W.now + 1), .pointer (some ⟨b9, 13, none⟩), .pointer (some ⟨b8, 0, none⟩), .agg Q43, .pointer (some ⟨b9, 4, none⟩), .pointer (some ⟨b9, 9, none⟩), .slice (some ⟨hg, 0, none⟩) Q76 hcap, .int .i64 (k : Int), .pointer (some ⟨b8, 5, none⟩), .agg (hdC Hn).toArray, .pointer (some ⟨hg, k * 22, none⟩), .pointer (some ⟨b8, 27, none⟩), .pointer (some ⟨b8, 27, none⟩), .int .i64 En.kind, .bool false, undef, undef, undef, undef, undef, undef, undef, .pointer (some ⟨b8, 32, none⟩), .bool false, undef, undef, undef, undef, undef, undef, .pointer (some ⟨b8, 5, none⟩), .pointer (some ⟨b8, 5, none⟩), .int .i64 Hn.at_, .bool true, vt 0, vt 1, vt 2, vt 3, vt 4, vt 5, vt 6, vt 7, vt 8, vt 9, vt 10, vt 11, vt 12, vt 13, vt 14, vt 15, vt 16, vt 17, vt 18, vt 19, vt 20, vt 21, vt 22, vt 23, vt 24, vt 25, undef, undef, undef], defers := [] } := by
   rw [<- hl]
   kernel_rfl
  subst hA2
  rw [g1, g25]
  clear hl hG2 g1 g25
  have hN0 : Q7i <= V2.heap.size := Q77 SV.lo (Nat.le_of_lt SV.hi)
  obtain ⟨i0, hi, hzr, hsz, hby⟩ := info_parts qz6g
  refine wpList_append_own_at _ rfl _ _ 47 rfl Q7i 163 i0 _ 10 80 Tryz.underlying47 hi hzr hsz hby rfl (by decide) _ _ _ rfl SV.c ⟨qc, 0, none⟩ 1 1 (clC Q4y) rfl rfl ?n18 ?n28 ?n38 ?n48 ?n58 ?_
  case n18 => exact fun j v hj => by have := news j v hj; rw [Nat.zero_add] at this; by_cases e0 : j = 0; (· subst e0; simpa [Addr.add] using this); (· simpa [Addr.add, e0] using this)
  case n28 => exact qzb8 _
  case n38 => unfold maxLen; omega
  case n48 => omega
  case n58 => exact hN0
  intro v2 wq hown hgrow _ hat
  obtain ⟨ca2, cc2, rfl⟩ := qzf hown
  have BB : But (fun q => Value.ownBlock Q2y = some q) V2 wq := ⟨hgrow.os, hgrow.tape, hgrow.output, hgrow.size, fun q hq hn => hgrow.block q hq (fun e => hn e.symm)⟩
  have SB := SV.grow_c (C' := W.calls ++ [qz6b k h Hn (W.now + 1)]) (by simpa [qz1p] using hown) BB hat
  clear BB hown hgrow hat hi hzr hsz hby SV S10 news
  have y10 := SB.cell 10 rfl
  have v10 := SB.free 10 (by decide)
  go_upto_region 16 with fail
  have S15 : Und Q7i w5 (wq.setCell ⟨b9, 10, none⟩ Q2u) b9 Q23 Q2u Q37 Q33 (W.hands.set k Hn) (W.calls ++ [qz6b k h Hn (W.now + 1)]) W.deeds W.ticks Q1j := SB.put 10 (by simp) Q2u
  clear SB y10 v10
  generalize wq.setCell ⟨b9, 10, none⟩ Q2u = w15 at *
  have FF := qz5 F5 S15.bel (by omega)
  have RR := S15.row
  go_wp2_with (first | (refine wpList_load_mid rfl 50 (.tmp 9) rfl b9 0 rfl Q1j _ ?lf9 Tryz.underlying50 rfl qzn ?_) | (refine wpList_store_mid rfl 50 (.tmp 4) (.tmp 101) rfl (w.heap.size + 1) 0 Q3h ?fx9 ?fy9 ?ft9 qzn (by simp [Value.oneCell']) ?_))
  try (case lf9 => exact RR)
  try (case fx9 => rfl)
  try (case fy9 => rfl)
  try (case ft9 => exact FF)
  have hSW : qz98 x y z u W k h = ⟨As, W.hands.set k Hn, (W.calls ++ [qz6b k h Hn (W.now + 1)]), W.deeds, W.ticks, W.now + 1⟩ := by
   unfold qz98
   rw [hS.out]
   dsimp only
   simp only [ek'.out, etf.out, er.out, ne_eq, not_true_eq_false, not_false_eq_true, if_true, if_false, Bool.false_eq_true]
  rw [hSW]
  refine bodyPost_ret (v := .tuple #[.agg Q3h, .bool true]) ?_ rfl ⟨.slice sa sl0 sc, .slice ga gl0 gc, .slice na nl0 nc, .slice ra rl0 rc, .slice (some ⟨hg, 0, none⟩) Q76 hcap, .slice ca2 (Q79 + 1) cc2, .slice da Q7c dc, .slice ta Q7a tc, rfl, ?_, ?_⟩
  ·exact qzl Tryz.results111 _ _ (Q6o + 1) 0 rfl Q1j _ (Q6u _ _ _ _ FF) Q7e rfl qzn
  ·have hO := qze (Q6o + 1) Q1j 0 w15
   have g1 := qzm S15.h hO (fun j e => by have := qz1g S15.h e; omega)
   have g2 := qzm S15.c hO (fun j e => by have := qz1g S15.c e; omega)
   have g3 := qzm S15.d hO (fun j e => by have := qz1g S15.d e; omega)
   have g4 := qzm S15.t hO (fun j e => by have := qz1g S15.t e; omega)
   exact ⟨((O5.below S15.bel).only hO (by omega)).lo (by omega), by simpa using qz26 g1 (base' := Q6o) (by omega), by simpa using qz26 g2 (base' := Q6o) (by omega), by simpa using qz26 g3 (base' := Q6o) (by omega), by simpa using qz26 g4 (base' := Q6o) (by omega)⟩
  ·exact Below.setCells (by omega) _ _ _ (KK.trans (S15.bel.mono (by omega)))
 have b4 : (Hn.at_ == 0) = false := by simp [er]
 go_upto_region 16 with fail
 clear d5 b4
 have FF := qz5 F5 S10.bel (by omega)
 have RR := S10.row
 go_wp2_with (first | (refine wpList_load_mid rfl 50 (.tmp 9) rfl b9 0 rfl Q1a _ ?lf10 Tryz.underlying50 rfl qzn ?_) | (refine wpList_store_mid rfl 50 (.tmp 4) (.tmp 101) rfl (w.heap.size + 1) 0 Q3m ?fx10 ?fy10 ?ft10 qzn (by simp [Value.oneCell']) ?_))
 try (case lf10 => exact RR)
 try (case fx10 => rfl)
 try (case fy10 => rfl)
 try (case ft10 => exact FF)
 have hSW : qz98 x y z u W k h = ⟨As, W.hands.set k Hn, W.calls, W.deeds, W.ticks, W.now + 1⟩ := by
  unfold qz98
  rw [hS.out]
  dsimp only
  simp only [ek'.out, etf.out, er, ne_eq, not_true_eq_false, not_false_eq_true, if_true, if_false, Bool.false_eq_true]
 rw [hSW]
 refine bodyPost_ret (v := .tuple #[.agg Q3m, .bool true]) ?_ rfl ⟨.slice sa sl0 sc, .slice ga gl0 gc, .slice na nl0 nc, .slice ra rl0 rc, .slice (some ⟨hg, 0, none⟩) Q76 hcap, .slice ca Q79 cc, .slice da Q7c dc, .slice ta Q7a tc, rfl, ?_, ?_⟩
 ·exact qzl Tryz.results111 _ _ (Q6o + 1) 0 rfl Q1a _ (Q6u _ _ _ _ FF) Q7e rfl qzn
 ·have hO := qze (Q6o + 1) Q1a 0 w10
  have g1 := qzm S10.h hO (fun j e => by have := qz1g S10.h e; omega)
  have g2 := qzm S10.c hO (fun j e => by have := qz1g S10.c e; omega)
  have g3 := qzm S10.d hO (fun j e => by have := qz1g S10.d e; omega)
  have g4 := qzm S10.t hO (fun j e => by have := qz1g S10.t e; omega)
  exact ⟨((O5.below S10.bel).only hO (by omega)).lo (by omega), by simpa using qz26 g1 (base' := Q6o) (by omega), by simpa using qz26 g2 (base' := Q6o) (by omega), by simpa using qz26 g3 (base' := Q6o) (by omega), by simpa using qz26 g4 (base' := Q6o) (by omega)⟩
 ·exact Below.setCells (by omega) _ _ _ (KK.trans (S10.bel.mono (by omega)))
end
end Go.Proofs.YthjkdnlmopafkaaGreatDoor
