/-
  What the law's proof goes by, part 38.
-/
import Derived.Deep.Cut
import Derived.Test.YtclkglkhhnapiaaGreatFnWent00
import Derived.Test.YtclkglkhhnapiaaGreatFnWent10
import Derived.Test.YtclkglkhhnapiaaGreatFnWent33
import Derived.Test.YtclkglkhhnapiaaGreatFnWent35
import Derived.Test.YtclkglkhhnapiaaGreatFnWent36
namespace Go.Proofs.YtclkglkhhnapiaaGreat
open Go.ChangeShapes Go.WideShapes Go.ChangeAt Go.RowKit
set_option maxRecDepth 100000
set_option maxHeartbeats 16000000
set_option linter.unusedVariables false
set_option linter.unusedSimpArgs false
set_option linter.unnecessarySimpa false
set_option linter.unusedSectionVars false
section
attribute [local go_sem ↓] Go.wp_at_zero Go.wp_at_succ
def qz63 (A : Ar) (s g n r : Value) (q : Nat) : Prop := (0 < A.slots.length /\ qz42 s = some q) ∨ (0 < A.guides.length /\ qz42 g = some q) ∨ (0 < A.nodes.length /\ qz42 n = some q) ∨ (0 < A.vers.length /\ qz42 r = some q)
theorem qzr.farN {B c : Nat} {w w' : World} {s g n r : Value} {A : Ar} (I : qzr B w s g n r A) (hO : Only c w w') (hB : B <= w.heap.size) (hne : ∀ q, qz63 A s g n r q -> q ≠ c) : qzr B w' s g n r A :=
 ⟨qz2u I.s hO hB (fun q e => hne q (Or.inl e)), qz2u I.g hO hB (fun q e => hne q (Or.inr (Or.inl e))), qz2u I.n hO hB (fun q e => hne q (Or.inr (Or.inr (Or.inl e)))), qz2u I.r hO hB (fun q e => hne q (Or.inr (Or.inr (Or.inr e))))⟩
theorem qz5p {S : Nat -> Prop} {B : Nat} {w w' : World} {v : Value} {n : Nat} {cs : List Value} (I : qzt B w v n cs) (hO : But S w w') (hB : B <= w.heap.size) (hne : ∀ q, 0 < n /\ qz42 v = some q -> ¬ S q) : qzt B w' v n cs := by
 obtain ⟨a', cap', rfl, h⟩ := I
 refine ⟨a', cap', rfl, ?_⟩
 rcases Nat.eq_zero_or_pos n with h0 | h0
 ·exact Or.inl h0
 ·rcases h with h | ⟨bb, off, rfl, lt, R⟩
  ·omega
  ·exact Or.inr ⟨bb, off, rfl, lt, hO.range R (by omega) (hne bb ⟨h0, rfl⟩)⟩
theorem qzr.butN {S : Nat -> Prop} {B : Nat} {w w' : World} {s g n r : Value} {A : Ar} (I : qzr B w s g n r A) (hO : But S w w') (hB : B <= w.heap.size) (hne : ∀ q, qz63 A s g n r q -> ¬ S q) : qzr B w' s g n r A :=
 ⟨qz5p I.s hO hB (fun q e => hne q (Or.inl e)), qz5p I.g hO hB (fun q e => hne q (Or.inr (Or.inl e))), qz5p I.n hO hB (fun q e => hne q (Or.inr (Or.inr (Or.inl e)))), qz5p I.r hO hB (fun q e => hne q (Or.inr (Or.inr (Or.inr e))))⟩
theorem qz6p {P : Program} {fn : Func} {p q r s t : Tmp} {t1 t2 t3 : TypeId} (h : fn.results = #[.cell p t1, .cell q t2, .tmp r, .cell s t3, .tmp t]) (tmps : Array Value) (w : World) (b1 b2 b3 : Nat) (h1 : tmps.getD p undef = .pointer (some ⟨b1, 0, none⟩)) (h2 : tmps.getD q undef = .pointer (some ⟨b2, 0, none⟩)) (h3 : tmps.getD s undef = .pointer (some ⟨b3, 0, none⟩))
  (c1 c2 c3 : List Value) (d1 d2 d3 : TypeDesc) (r1 : w.rangeAt b1 0 c1) (r2 : w.rangeAt b2 0 c2) (r3 : w.rangeAt b3 0 c3) (u1 : P.underlying t1 = some d1) (k1 : d1.isRow = true) (i1 : (P.info? t1).map (·.size) = some c1.length) (u2 : P.underlying t2 = some d2) (k2 : d2.isRow = true) (i2 : (P.info? t2).map (·.size) = some c2.length) (u3 : P.underlying t3 = some d3) (k3 : d3.isRow = true) (i3 : (P.info? t3).map (·.size) = some c3.length) :
  (results fn tmps).run P w = .ok (.tuple #[.agg c1.toArray, .agg c2.toArray, tmps.getD r undef, .agg c3.toArray, tmps.getD t undef]) w := by
 have l1 := run_loadVar_mid (P := P) w b1 0 t1 c1 d1 r1 u1 k1 i1
 have l2 := run_loadVar_mid (P := P) w b2 0 t2 c2 d2 r2 u2 k2 i2
 have l3 := run_loadVar_mid (P := P) w b3 0 t3 c3 d3 r3 u3 k3 i3
 rw [Array.getD_eq_getD_getElem?] at h1 h2 h3
 simp [results, h, h1, h2, h3, asAddr, Result.andThen, l1, l2, l3]
def qzf4 (B b : Nat) (w : World) (a : Option Addr) (len cap : Nat) (e : Ending) (w' : World) : Prop :=
 ∃ (x y z u : Int) (A : Ar) (a0 a1 a2 a3 : Option Addr) (c0 c1 c2 c3 : Nat) (k : Int) (hd : Hd) (clk : Int), e = .returned (.tuple #[.agg Q05, .agg Q01, .int .i64 k, .agg (hdC hd).toArray, .int .i64 clk]) /\ A.size <= 1000000 /\ (1 <= x /\ x <= 8) /\ A.nodes.length <= 60 /\ A.vers.length <= 400 /\ qzr w'.heap.size w' Q0u Q0s Q0w Q14 A /\ (∀ q, qz63 A Q0u Q0s Q0w Q14 q -> w.heap.size <= q) /\ (∃ i' h', qz1s .i64 w' b a len cap i' h') /\ qz1h B w' a len /\ Only b w w'
def qzfr (b3 : Nat) (x y z u : Int) (W : Wd) (a0 a1 a2 a3 : Option Addr) (hb ho c0 c1 c2 c3 c4 j : Nat) (hd : Hd) : Nat -> Value -> Prop
 | 0, v => v = .pointer (some ⟨b3, 0, none⟩)
 | 1, v => v = .agg Q05
 | 2, v => v = .pointer (some ⟨b3, 4, none⟩)
 | 3, v => v = .agg Q1d
 | 4, v => v = .int .i64 (j : Int)
 | 5, v => v = .pointer (some ⟨b3, 9, none⟩)
 | 6, v => v = .slice (some ⟨hb, ho, none⟩) W.hands.length c4
 | 7, v => v = .int .i64 (j : Int)
 | 8, v => v = .pointer (some ⟨hb, ho + j * 22, none⟩)
 | 9, v => v = .agg (hdC hd).toArray
 | 10, v => v = .pointer (some ⟨b3, 13, none⟩)
 | 11, v => v = .int .i64 W.now
 | 12, v => v = .int .i64 (W.now + 1)
 | 13, v => v = .int .i64 (min (W.now + 1) 20000)
 | 16, v => v = .int .i64 (j : Int)
 | 18, v => v = .int .i64 (min (W.now + 1) 20000)
 | _, _ => True
structure qz9a (wr : World) (b3 p q s : Nat) (x y z u : Int) (W : Wd) (a0 a1 a2 a3 : Option Addr) (hb ho c0 c1 c2 c3 c4 j : Nat) (hd : Hd) (L : Nat -> Bool) (V : World) : Prop where
 k1 : V.rangeAt b3 0 Q0n
 k2 : V.rangeAt b3 4 Q1f
 k3 : V.cell? ⟨b3, 9, none⟩ = some (.slice (some ⟨hb, ho, none⟩) W.hands.length c4)
 k4 : V.cell? ⟨b3, 13, none⟩ = some (.int .i64 W.now)
 k5 : V.rangeAt hb (ho + j * 22) (hdC hd)
 k6 : V.there p 0 4
 k7 : V.there q 0 5
 k8 : V.there s 0 22
 k9 : L 14 = true -> V.rangeAt p 0 Q0n
 k10 : L 15 = true -> V.rangeAt q 0 Q1f
 k11 : L 17 = true -> V.rangeAt s 0 (hdC hd)
 k12 : But (fun c => c = p ∨ c = q ∨ c = s) wr V
section
variable {wr : World} {b3 p q s : Nat} {x y z u : Int} {W : Wd} {a0 a1 a2 a3 : Option Addr} {hb ho c0 c1 c2 c3 c4 j : Nat} {hd : Hd} {L : Nat -> Bool} {V : World}
theorem qz2c {L : Nat -> Bool} {i m : Nat} (h : i ≠ m) (hm : onAt L i m = true) : L m = true := by
 simp only [onAt] at hm
 rwa [if_neg (fun e => h e.symm)] at hm
theorem qz9a.on (J : qz9a wr b3 p q s x y z u W a0 a1 a2 a3 hb ho c0 c1 c2 c3 c4 j hd L V) (i : Nat) (h1 : i ≠ 14) (h2 : i ≠ 15) (h3 : i ≠ 17) : qz9a wr b3 p q s x y z u W a0 a1 a2 a3 hb ho c0 c1 c2 c3 c4 j hd (onAt L i) V :=
 ⟨J.k1, J.k2, J.k3, J.k4, J.k5, J.k6, J.k7, J.k8, fun h => J.k9 (qz2c h1 h), fun h => J.k10 (qz2c h2 h), fun h => J.k11 (qz2c h3 h), J.k12⟩
theorem qz9a.put (J : qz9a wr b3 p q s x y z u W a0 a1 a2 a3 hb ho c0 c1 c2 c3 c4 j hd L V) (c : Nat) (vs : List Value) (hc : c = p ∨ c = q ∨ c = s) (hb3 : b3 ≠ c) (hhb : hb ≠ c) (i : Nat) (h9 : onAt L i 14 = true -> (V.setCells c 0 vs).rangeAt p 0 Q0n) (h10 : onAt L i 15 = true -> (V.setCells c 0 vs).rangeAt q 0 Q1f) (h11 : onAt L i 17 = true -> (V.setCells c 0 vs).rangeAt s 0 (hdC hd)) : qz9a wr b3 p q s x y z u W a0 a1 a2 a3 hb ho c0 c1 c2 c3 c4 j hd (onAt L i) (V.setCells c 0 vs) :=
 ⟨World.rangeAt_setCells_apart J.k1 _ _ _ (Or.inl hb3), World.rangeAt_setCells_apart J.k2 _ _ _ (Or.inl hb3), (World.cell?_setCells_out c vs 0 V ⟨b3, 9, none⟩ (fun e => absurd e hb3)).trans J.k3, (World.cell?_setCells_out c vs 0 V ⟨b3, 13, none⟩ (fun e => absurd e hb3)).trans J.k4, World.rangeAt_setCells_apart J.k5 _ _ _ (Or.inl hhb), World.there_setCells J.k6 _ _ _, World.there_setCells J.k7 _ _ _, World.there_setCells J.k8 _ _ _, h9, h10, h11, J.k12.trans (But.of_only (qzj c vs 0 V) hc)⟩
theorem qz9a.st0 (J : qz9a wr b3 p q s x y z u W a0 a1 a2 a3 hb ho c0 c1 c2 c3 c4 j hd L V) (h1 : p < q /\ q < s) (h2 : s < b3) (h3 : s < hb) : qz9a wr b3 p q s x y z u W a0 a1 a2 a3 hb ho c0 c1 c2 c3 c4 j hd (onAt L 14) (V.setCells p 0 Q0n) :=
 J.put p _ (Or.inl rfl) (by omega) (by omega) 14 (fun _ => World.rangeAt_setCells_same _ _ _ _ J.k6) (fun h => World.rangeAt_setCells_apart (J.k10 (qz2c (by decide) h)) _ _ _ (Or.inl (by omega))) (fun h => World.rangeAt_setCells_apart (J.k11 (qz2c (by decide) h)) _ _ _ (Or.inl (by omega)))
theorem qz9a.st1 (J : qz9a wr b3 p q s x y z u W a0 a1 a2 a3 hb ho c0 c1 c2 c3 c4 j hd L V) (h1 : p < q /\ q < s) (h2 : s < b3) (h3 : s < hb) : qz9a wr b3 p q s x y z u W a0 a1 a2 a3 hb ho c0 c1 c2 c3 c4 j hd (onAt L 15) (V.setCells q 0 Q1f) :=
 J.put q _ (Or.inr (Or.inl rfl)) (by omega) (by omega) 15 (fun h => World.rangeAt_setCells_apart (J.k9 (qz2c (by decide) h)) _ _ _ (Or.inl (by omega))) (fun _ => World.rangeAt_setCells_same _ _ _ _ J.k7) (fun h => World.rangeAt_setCells_apart (J.k11 (qz2c (by decide) h)) _ _ _ (Or.inl (by omega)))
theorem qz9a.st2 (J : qz9a wr b3 p q s x y z u W a0 a1 a2 a3 hb ho c0 c1 c2 c3 c4 j hd L V) (h1 : p < q /\ q < s) (h2 : s < b3) (h3 : s < hb) : qz9a wr b3 p q s x y z u W a0 a1 a2 a3 hb ho c0 c1 c2 c3 c4 j hd (onAt L 17) (V.setCells s 0 (hdC hd)) :=
 J.put s _ (Or.inr (Or.inr rfl)) (by omega) (by omega) 17 (fun h => World.rangeAt_setCells_apart (J.k9 (qz2c (by decide) h)) _ _ _ (Or.inl (by omega))) (fun h => World.rangeAt_setCells_apart (J.k10 (qz2c (by decide) h)) _ _ _ (Or.inl (by omega))) (fun _ => World.rangeAt_setCells_same _ _ _ _ J.k8)
end
theorem qz2e : (Tryz.prog.info? 25).map (fun i => i.size) = some 4 := by kernel_rfl
theorem qz1x : (Tryz.prog.info? 30).map (fun i => i.size) = some 5 := by kernel_rfl
theorem qzc1 (B b : Nat) (a : Option Addr) (len cap : Nat) (i h : Int) (lo hi : Int) (w : World) (hB : B <= b) (hlen : len <= 4096) (D : qz1s .i64 w b a len cap i h) (C : qz1h B w a len) :
  Calls Tryz.prog 80 #[.pointer (some ⟨b, 0, none⟩), .int .i64 lo, .int .i64 hi] w fun e w' => qzf4 B b w a len cap e w' := by
 have hbw := D.blk
 have RP := World.there_alloc (World.there_alloc (qz8 w Q2r 25 4 (by decide)) (.cells Q0c 30)) (.cells Q00 32)
 have RA := World.there_alloc (qz8 (w.alloc Q0q) Q0c 30 5 (by decide)) (.cells Q00 32)
 have RH := qz8 ((w.alloc Q0q).alloc (.cells Q0c 30)) Q00 32 22 (by decide)
 have D0 := ((D.alloc Q0q).alloc (.cells Q0c 30)).alloc (.cells Q00 32)
 have C0 := ((C.alloc (by omega) Q0q).alloc (by simp; omega) (.cells Q0c 30)).alloc (by simp; omega) (.cells Q00 32)
 have O0 := (((Only.refl b w).alloc Q0q).alloc (.cells Q0c 30)).alloc (.cells Q00 32)
 have hz0 : (((w.alloc Q0q).alloc (.cells Q0c 30)).alloc (.cells Q00 32)).heap.size = w.heap.size + 1 + 1 + 1 := by simp
 simp only [World.size_alloc] at RA RH
 go_enter Tryz.func80, Tryz.ntmps80
 go_upto_region 1 with fail
 generalize hw0 : ((w.alloc Q0q).alloc (.cells Q0c 30)).alloc (.cells Q00 32) = w0 at *
 clear hw0
 have hz0' : w.heap.size + 1 + 1 < w0.heap.size := by omega
 have hbw0 : b < w0.heap.size := by omega
 replace hz0 : w.heap.size <= w0.heap.size := by omega
 go_wp2_with fail
 refine (qzb6 B b a len cap i h w0 hB hlen D0 C0).mono ?_
 rintro e w1 ⟨x, y, z, u, s, g, n, r, hs, cs, ds, ts, W, rfl, V1, hnow, I1, far1, ⟨i1, h1, D1⟩, C1, O1⟩
 obtain ⟨a0, c0, rfl, -⟩ := id I1.ar.s
 obtain ⟨a1, c1, rfl, -⟩ := id I1.ar.g
 obtain ⟨a2, c2, rfl, -⟩ := id I1.ar.n
 obtain ⟨a3, c3, rfl, -⟩ := id I1.ar.r
 obtain ⟨a4, c4, rfl, -⟩ := id I1.h
 obtain ⟨a5, c5, rfl, -⟩ := id I1.c
 obtain ⟨a6, c6, rfl, -⟩ := id I1.d
 obtain ⟨a7, c7, rfl, -⟩ := id I1.t
 have al0 := (Below.refl w1.heap.size w1).alloc (Nat.le_refl _) (.cells Q03 59)
 have T1 := qz8 w1 Q03 59 14 (by decide)
 have al := Below.setCells (Nat.le_refl _) Q0o 0 _ al0
 have hz1 := O1.size
 have P1 : qz98 B b w1.heap.size w0 ((w1.alloc (.cells Q03 59)).setCells w1.heap.size 0 Q0o) a len cap x y z u (.slice a0 W.A.slots.length c0) (.slice a1 W.A.guides.length c1) (.slice a2 W.A.nodes.length c2) (.slice a3 W.A.vers.length c3) (.slice a4 W.hands.length c4) (.slice a5 W.calls.length c5) (.slice a6 W.deeds.length c6) (.slice a7 W.ticks.length c7) W :=
  ⟨⟨i1, h1, D1.below al⟩, C1.below (al.mono (by have := D1.blk; omega)), World.rangeAt_setCells_same _ _ _ _ T1, World.there_setCells T1 _ _ _, (I1.below al).weaken al.size, fun q e => ⟨far1 q e.all, Nat.ne_of_lt (I1.lt e)⟩, O1.trans (Only.of_below al), hz1, by rw [qzl]; simp⟩
 go_upto_region 2 with (refine wpList_store_mid rfl 59 (.tmp 11) (.tmp 19) rfl w1.heap.size 0 (Q0o).toArray ?sx ?sy ?st qzh (by simp [wdC, Value.oneCell']) ?_)
 try (case sx => rfl)
 try (case sy => rfl)
 try (case st => exact T1)
 generalize hw2 : (w1.alloc (.cells Q03 59)).setCells w1.heap.size 0 Q0o = w2 at *
 obtain ⟨b3, hb3⟩ : ∃ b3, b3 = w1.heap.size := ⟨_, rfl⟩
 rw [<- hb3] at P1 ⊢
 clear hw2 al al0 T1 I1 far1 D1 C1 O1 D0 C0 hb3 hz1
 have hxr := V1.plan.1
 have y0 : w2.cell? ⟨b3, 0, none⟩ = some (.int .i64 x) := P1.cell 0 rfl
 obtain ⟨i2, h2, D2⟩ := P1.dice
 go_wp2_with fail
 refine (qz10 B b a len cap i2 h2 x w2 hB hlen D2 P1.bytes (by omega) (by omega)).mono ?_
 rintro e w3 ⟨nI, i3, h3, rfl, n0, n1, D3, C3, O3⟩
 have P3 := P1.draw hbw0 D3 C3 O3
 clear y0 D2 D3 C3 O3 P1
 obtain ⟨nk, rfl⟩ : ∃ k : Nat, nI = k := ⟨nI.toNat, by omega⟩
 have y0 : w3.cell? ⟨b3, 0, none⟩ = some (.int .i64 x) := P3.cell 0 rfl
 have y9 : w3.cell? ⟨b3, 9, none⟩ = some (.slice a4 W.hands.length c4) := P3.cell 9 rfl
 have hhl := V1.hl
 obtain ⟨hb, ho, e9, -, Rh⟩ := qzt.at P3.is.h (by omega)
 cases e9
 go_wp2
 go_loopw [12, 13] (fun n' i' wr => ∃ (j k : Nat), n' = .int .i64 j /\ i' = .int .i64 k /\ (j : Int) < x /\ (k : Int) <= x /\ wr = w3) (fun n' i' _ => (x - intOf i').toNat)
 case atStart => exact ⟨nk, 0, rfl, rfl, n1, by omega, rfl⟩
 case round =>
  obtain ⟨j, k, rfl, rfl, hj, hk, hwr⟩ := hrel
  obtain rfl := hwr.symm
  by_cases hlt : (k : Int) < x
  ·have hkl : k < W.hands.length := by omega
   have Eh := qzi (f := hdC) (sz := 22) (fun _ => rfl) Rh k hkl
   have e0 : w3.cell? ⟨hb, ho + k * 22, none⟩ = some (.int .i64 W.hands[k].at_) := by have := Eh 0 (.int .i64 W.hands[k].at_) rfl; simpa using this
   have hk1 : (k : Int) < (W.hands.length : Int) := by omega
   have hk0 : (0 : Int) <= (k : Int) := by omega
   clear Eh
   cases hin : inB W.hands[k].at_ lo hi
   ·go_wp2_with (go_at_call 61; refine (qze _ _ _ _).mono ?_; rintro e w' ⟨rfl, hw⟩; obtain rfl := hw.symm)
    go_roundw
    case rel => exact ⟨j, k + 1, by first | rfl | go_num, by go_num, hj, by omega, by first | rfl | trivial⟩
    case measure => simp [intOf]; omega
   ·go_wp2_with (go_at_call 61; refine (qze _ _ _ _).mono ?_; rintro e w' ⟨rfl, hw⟩; obtain rfl := hw.symm)
    go_roundw
    case rel => exact ⟨k, k + 1, by first | rfl | go_num, by go_num, by omega, by omega, by first | rfl | trivial⟩
    case measure => simp [intOf]; omega
  ·have hend : ¬ ((k : Int) < x) := hlt
   have hkx : (k : Int) = x := by omega
   clear Rh hk hlt hkx
   go_wp2
   rename_i K1 h1
   have fin : ∀ (v15 v16 v17 v18 v19 v20 v21 v22 v23 v24 v25 v26 v27 v28 v29 v30 v31 v32 v33 v34 v35 v36 v37 v38 v39 v40 v41 v42 v43 v44 v45 v46 v47 v48 v49 v50 v51 v52 v53 v54 v55 v56 v57 v58 v59 v60 v61 v62 v63 v64 v65 v66 v67 v68 v69 v70 v71 v72 v73 v74 v75 v76 v77 v78 v79 v80 v81 v82 v83 v84 v85 v86 v87 v88 v89 v90 : Value) (ck : Int) (W : Wd) (a0 a1 a2 a3 a4 a5 a6 a7 : Option Addr) (c0 c1 c2 c3 c4 c5 c6 c7 : Nat) (hd : Hd) (wr : World) (hb ho : Nat), a4 = some ⟨hb, ho, none⟩ -> WInv x y z u W -> qz98 B b b3 w0 wr a len cap x y z u (.slice a0 W.A.slots.length c0) (.slice a1 W.A.guides.length c1) (.slice a2 W.A.nodes.length c2) (.slice a3 W.A.vers.length c3) (.slice a4 W.hands.length c4) (.slice a5 W.calls.length c5) (.slice a6 W.deeds.length c6) (.slice a7 W.ticks.length c7) W -> (∀ hjl : j < W.hands.length, W.hands[j] = hd) -> W.now <= 2800 -> wr.rangeAt hb (ho + j * 22) (hdC hd) ->
     K1 { tmps := #[.pointer (some ⟨b, 0, none⟩), .int .i64 lo, .int .i64 hi, undef, undef, undef, .pointer (some ⟨w.heap.size, 0, none⟩), .pointer (some ⟨w.heap.size + 1, 0, none⟩), .int .i64 0, .pointer (some ⟨w.heap.size + 1 + 1, 0, none⟩), .int .i64 0, .pointer (some ⟨b3, 0, none⟩), .int .i64 (j : Int), .int .i64 (k : Int), .int .i64 ck, v15, v16, v17, v18, v19, v20, v21, v22, v23, v24, v25, v26, v27, v28, v29, v30, v31, v32, v33, v34, v35, v36, v37, v38, v39, v40, v41, v42, v43, v44, v45, v46, v47, v48, v49, v50, v51, v52, v53, v54, v55, v56, v57, v58, v59, v60, v61, v62, v63, v64, v65, v66, v67, v68, v69, v70, v71, v72, v73, v74, v75, v76, v77, v78, v79, v80, v81, v82, v83, v84, v85, v86, v87, v88, v89, v90, undef, undef, undef, undef, undef, undef, undef, undef, undef, undef, undef, undef, undef, undef], defers := [] } wr := by
    intro v15 v16 v17 v18 v19 v20 v21 v22 v23 v24 v25 v26 v27 v28 v29 v30 v31 v32 v33 v34 v35 v36 v37 v38 v39 v40 v41 v42 v43 v44 v45 v46 v47 v48 v49 v50 v51 v52 v53 v54 v55 v56 v57 v58 v59 v60 v61 v62 v63 v64 v65 v66 v67 v68 v69 v70 v71 v72 v73 v74 v75 v76 v77 v78 v79 v80 v81 v82 v83 v84 v85 v86 v87 v88 v89 v90 ck W a0 a1 a2 a3 a4 a5 a6 a7 c0 c1 c2 c3 c4 c5 c6 c7 hd wr hb ho ha4 hinv P hhd hnow Eh
    subst ha4
    refine h1 _ _ ?_
    clear h1
    go_wp2_with fail
    have hjl9 : j < W.hands.length := by have := hinv.hl; omega
    have hlo := P.lo
    have hhi := P.hi
    have hsz := P.only.size
    have hhb : w0.heap.size <= hb := (P.far hb (by have := hinv.hl; exact Or.inr (Or.inr (Or.inr (Or.inr (Or.inl ⟨by omega, rfl⟩)))))).1
    have hw0 := P.only
    have hnw := hinv.nw
    have ROW : wr.rangeAt b3 0 (Q0n ++ (Q1f ++ [.slice (some ⟨hb, ho, none⟩) W.hands.length c4, .slice a5 W.calls.length c5, .slice a6 W.deeds.length c6, .slice a7 W.ticks.length c7, .int .i64 W.now])) := P.row
    obtain ⟨RO1, RO2⟩ := qz2m ROW
    obtain ⟨RO3, RO4⟩ := qz2m RO2
    replace RO3 : wr.rangeAt b3 4 Q1f := RO3
    have cH : wr.cell? ⟨b3, 9, none⟩ = some (.slice (some ⟨hb, ho, none⟩) W.hands.length c4) := P.cell 9 rfl
    have cN : wr.cell? ⟨b3, 13, none⟩ = some (.int .i64 W.now) := P.cell 13 rfl
    have TP := qzx RP hw0 (by omega) (by omega)
    have TA := qzx RA hw0 (by omega) (by omega)
    have TH := qzx RH hw0 (by omega) (by omega)
    refine qz4o 19 (by kernel_rfl) (qz9a wr b3 (w.heap.size) (w.heap.size + 1) (w.heap.size + 1 + 1) x y z u W a0 a1 a2 a3 hb ho c0 c1 c2 c3 c4 j hd) ⟨RO1, RO3, cH, cN, Eh, TP, TA, TH, (fun h => by cases h), (fun h => by cases h), (fun h => by cases h), ⟨rfl, rfl, rfl, Nat.le_refl _, fun _ _ _ => rfl⟩⟩ (fun _ i v _ => qzfr b3 x y z u W a0 a1 a2 a3 hb ho c0 c1 c2 c3 c4 j hd i v) (by kernel_rfl) (by kernel_rfl) (by kernel_rfl) (by kernel_rfl) (by rfl) ?step ?final
    case step =>
     intro i o hik ho' L aa V hLi hLk hcl J hnn hd' K hK
     obtain ⟨j1, j2, j3, j4, j5, j6, j7, j8, j9, j10, j11, j12⟩ := id J
     match i, ho' with
     | 0, ho' =>
      obtain rfl := Option.some.inj ho'
      have e11 : aa.eval (.tmp 11) = .pointer (some ⟨b3, 0, none⟩) := hnn 11 rfl
      refine qz4 (v := .pointer (some ⟨b3, 0, none⟩)) (w' := V) ?_ (hK _ _ rfl (J.on 0 (by decide) (by decide) (by decide)) (fun j v' _ _ q => q))
      clear J j1 j2 j5 j6 j7 j8 j9 j10 j11 j12
      generalize aa.eval = ev at *
      go_simp
     | 1, ho' =>
      obtain rfl := Option.some.inj ho'
      exact qz1w 25 (.tmp 91) rfl b3 0 (hd' ⟨0, .data⟩ (by simp) rfl 91 rfl).2 Q0n _ j1 Tryz.underlying25 rfl qz2e (hK _ _ rfl (J.on 1 (by decide) (by decide) (by decide)) (fun j v' _ _ q => q))
     | 2, ho' =>
      obtain rfl := Option.some.inj ho'
      have e11 : aa.eval (.tmp 11) = .pointer (some ⟨b3, 0, none⟩) := hnn 11 rfl
      refine qz4 (v := .pointer (some ⟨b3, 4, none⟩)) (w' := V) ?_ (hK _ _ rfl (J.on 2 (by decide) (by decide) (by decide)) (fun j v' _ _ q => q))
      clear J j1 j2 j5 j6 j7 j8 j9 j10 j11 j12
      generalize aa.eval = ev at *
      go_simp
     | 3, ho' =>
      obtain rfl := Option.some.inj ho'
      exact qz1w 30 (.tmp 93) rfl b3 4 (hd' ⟨2, .data⟩ (by simp) rfl 93 rfl).2 Q1f _ j2 Tryz.underlying30 rfl qz1x (hK _ _ rfl (J.on 3 (by decide) (by decide) (by decide)) (fun j v' _ _ q => q))
     | 4, ho' =>
      obtain rfl := Option.some.inj ho'
      have e12 : aa.eval (.tmp 12) = .int .i64 (j : Int) := hnn 12 rfl
      refine qz4 (v := .int .i64 (j : Int)) (w' := V) ?_ (hK _ _ rfl (J.on 4 (by decide) (by decide) (by decide)) (fun j v' _ _ q => q))
      clear J j1 j2 j5 j6 j7 j8 j9 j10 j11 j12
      generalize aa.eval = ev at *
      go_simp
     | 5, ho' =>
      obtain rfl := Option.some.inj ho'
      have e11 : aa.eval (.tmp 11) = .pointer (some ⟨b3, 0, none⟩) := hnn 11 rfl
      refine qz4 (v := .pointer (some ⟨b3, 9, none⟩)) (w' := V) ?_ (hK _ _ rfl (J.on 5 (by decide) (by decide) (by decide)) (fun j v' _ _ q => q))
      clear J j1 j2 j5 j6 j7 j8 j9 j10 j11 j12
      generalize aa.eval = ev at *
      go_simp
     | 6, ho' =>
      obtain rfl := Option.some.inj ho'
      have e96 : aa.eval (.tmp 96) = .pointer (some ⟨b3, 9, none⟩) := (hd' ⟨5, .data⟩ (by simp) rfl 96 rfl).2
      refine qz4 (v := .slice (some ⟨hb, ho, none⟩) W.hands.length c4) (w' := V) ?_ (hK _ _ rfl (J.on 6 (by decide) (by decide) (by decide)) (fun j v' _ _ q => q))
      clear J j1 j2 j5 j6 j7 j8 j9 j10 j11 j12
      generalize aa.eval = ev at *
      go_simp
     | 7, ho' =>
      obtain rfl := Option.some.inj ho'
      have e12 : aa.eval (.tmp 12) = .int .i64 (j : Int) := hnn 12 rfl
      refine qz4 (v := .int .i64 (j : Int)) (w' := V) ?_ (hK _ _ rfl (J.on 7 (by decide) (by decide) (by decide)) (fun j v' _ _ q => q))
      clear J j1 j2 j5 j6 j7 j8 j9 j10 j11 j12
      generalize aa.eval = ev at *
      go_simp
     | 8, ho' =>
      obtain rfl := Option.some.inj ho'
      have e97 : aa.eval (.tmp 97) = .slice (some ⟨hb, ho, none⟩) W.hands.length c4 := (hd' ⟨6, .data⟩ (by simp) rfl 97 rfl).2
      have e98 : aa.eval (.tmp 98) = .int .i64 (j : Int) := (hd' ⟨7, .data⟩ (by simp) rfl 98 rfl).2
      have hk1 : (j : Int) < (W.hands.length : Int) := by omega
      have hk0 : (0 : Int) <= (j : Int) := by omega
      refine qz4 (v := .pointer (some ⟨hb, ho + j * 22, none⟩)) (w' := V) ?_ (hK _ _ rfl (J.on 8 (by decide) (by decide) (by decide)) (fun j v' _ _ q => q))
      clear J j1 j2 j5 j6 j7 j8 j9 j10 j11 j12
      generalize aa.eval = ev at *
      go_simp
     | 9, ho' =>
      obtain rfl := Option.some.inj ho'
      exact qz1w 32 (.tmp 99) rfl hb (ho + j * 22) (hd' ⟨8, .data⟩ (by simp) rfl 99 rfl).2 (hdC hd) _ j5 Tryz.underlying32 rfl (qz1 hd) (hK _ _ rfl (J.on 9 (by decide) (by decide) (by decide)) (fun j v' _ _ q => q))
     | 10, ho' =>
      obtain rfl := Option.some.inj ho'
      have e11 : aa.eval (.tmp 11) = .pointer (some ⟨b3, 0, none⟩) := hnn 11 rfl
      refine qz4 (v := .pointer (some ⟨b3, 13, none⟩)) (w' := V) ?_ (hK _ _ rfl (J.on 10 (by decide) (by decide) (by decide)) (fun j v' _ _ q => q))
      clear J j1 j2 j5 j6 j7 j8 j9 j10 j11 j12
      generalize aa.eval = ev at *
      go_simp
     | 11, ho' =>
      obtain rfl := Option.some.inj ho'
      have e101 : aa.eval (.tmp 101) = .pointer (some ⟨b3, 13, none⟩) := (hd' ⟨10, .data⟩ (by simp) rfl 101 rfl).2
      refine qz4 (v := .int .i64 W.now) (w' := V) ?_ (hK _ _ rfl (J.on 11 (by decide) (by decide) (by decide)) (fun j v' _ _ q => q))
      clear J j1 j2 j5 j6 j7 j8 j9 j10 j11 j12
      generalize aa.eval = ev at *
      go_simp
     | 12, ho' =>
      obtain rfl := Option.some.inj ho'
      have e102 : aa.eval (.tmp 102) = .int .i64 W.now := (hd' ⟨11, .data⟩ (by simp) rfl 102 rfl).2
      have ec : aa.eval (.const (.int .i64 1)) = .int .i64 1 := rfl
      have wr1 : IntKind.i64.wrap (W.now + 1) = W.now + 1 := IntWalk.i64_in _ (by omega)
      refine qz4 (v := .int .i64 (W.now + 1)) (w' := V) ?_ (hK _ _ rfl (J.on 12 (by decide) (by decide) (by decide)) (fun j v' _ _ q => q))
      clear J j1 j2 j5 j6 j7 j8 j9 j10 j11 j12
      generalize aa.eval = ev at *
      go_simp
     | 13, ho' =>
      obtain rfl := Option.some.inj ho'
      have e1 : aa.eval (.tmp 103) = .int .i64 (W.now + 1) := (hd' ⟨12, .data⟩ (by simp) rfl 103 rfl).2
      have ec : aa.eval (.const (.int .i64 20000)) = .int .i64 20000 := rfl
      have ef : aa.eval (.func 75) = .func (.func 75) #[] #[] := rfl
      refine qz2d (f := 75) (args := #[.int .i64 (W.now + 1), .int .i64 20000]) (R := fun v w' => v = .int .i64 (min (W.now + 1) 20000) /\ w' = V) ?_ ((qz84 _ _ V).mono (fun e w' h => ⟨_, h.1, rfl, h.2⟩)) (fun v w' h => by obtain ⟨e, rfl⟩ := h; exact hK v w' e (J.on 13 (by decide) (by decide) (by decide)) (fun j v' _ _ q => q))
      clear J j1 j2 j5 j6 j7 j8 j9 j10 j11 j12
      generalize aa.eval = ev at *
      go_simp
     | 14, ho' =>
      obtain rfl := Option.some.inj ho'
      refine wp_store_mid 25 (.tmp 6) (.tmp 92) rfl (w.heap.size) 0 Q05 (hnn 6 rfl) (hd' ⟨1, .data⟩ (by simp) rfl 92 rfl).2 j6 qz2e (by simp [Value.oneCell']) ?_
      exact hK _ _ trivial (J.st0 (by omega) (by omega) (by omega)) (fun j v' _ _ q => q)
     | 15, ho' =>
      obtain rfl := Option.some.inj ho'
      refine wp_store_mid 30 (.tmp 7) (.tmp 94) rfl (w.heap.size + 1) 0 Q1d (hnn 7 rfl) (hd' ⟨3, .data⟩ (by simp) rfl 94 rfl).2 j7 qz1x (by simp [Value.oneCell']) ?_
      exact hK _ _ trivial (J.st1 (by omega) (by omega) (by omega)) (fun j v' _ _ q => q)
     | 16, ho' =>
      obtain rfl := Option.some.inj ho'
      have e95 : aa.eval (.tmp 95) = .int .i64 (j : Int) := (hd' ⟨4, .data⟩ (by simp) rfl 95 rfl).2
      refine qz4 (v := .int .i64 (j : Int)) (w' := V) ?_ (hK _ _ rfl (J.on 16 (by decide) (by decide) (by decide)) (fun j v' _ _ q => q))
      clear J j1 j2 j5 j6 j7 j8 j9 j10 j11 j12
      generalize aa.eval = ev at *
      go_simp
     | 17, ho' =>
      obtain rfl := Option.some.inj ho'
      refine wp_store_mid 32 (.tmp 9) (.tmp 100) rfl (w.heap.size + 1 + 1) 0 (hdC hd).toArray (hnn 9 rfl) (hd' ⟨9, .data⟩ (by simp) rfl 100 rfl).2 j8 (qz7 hd) (qzb hd) ?_
      exact hK _ _ trivial (J.st2 (by omega) (by omega) (by omega)) (fun j v' _ _ q => q)
     | 18, ho' =>
      obtain rfl := Option.some.inj ho'
      have e104 : aa.eval (.tmp 104) = .int .i64 (min (W.now + 1) 20000) := (hd' ⟨13, .data⟩ (by simp) rfl 104 rfl).2
      refine qz4 (v := .int .i64 (min (W.now + 1) 20000)) (w' := V) ?_ (hK _ _ rfl (J.on 18 (by decide) (by decide) (by decide)) (fun j v' _ _ q => q))
      clear J j1 j2 j5 j6 j7 j8 j9 j10 j11 j12
      generalize aa.eval = ev at *
      go_simp
     | n + 19, ho' => omega
    case final =>
     intro L vs V hLall J hG
     have g16 : vs 16 = .int .i64 (j : Int) := hG 16 (by decide)
     have g18 : vs 18 = .int .i64 (min (W.now + 1) 20000) := hG 18 (by decide)
     have r1 := J.k9 (hLall 14 (by decide))
     have r2 := J.k10 (hLall 15 (by decide))
     have r3 := J.k11 (hLall 17 (by decide))
     generalize hl : laid _ vs _ _ _ = A'
     have hA' : A' = { tmps := #[.pointer (some ⟨b, 0, none⟩), .int .i64 lo, .int .i64 hi, undef, undef, undef, .pointer (some ⟨w.heap.size, 0, none⟩), .pointer (some ⟨w.heap.size + 1, 0, none⟩), vs 16, .pointer (some ⟨w.heap.size + 1 + 1, 0, none⟩), vs 18, .pointer (some ⟨b3, 0, none⟩), .int .i64 (j : Int), .int .i64 (k : Int), .int .i64 ck, v15, v16, v17, v18, v19, v20, v21, v22, v23, v24, v25, v26, v27, v28, v29, v30, v31, v32, v33, v34, v35, v36, v37, v38, v39, v40, v41, v42, v43, v44, v45, v46, v47, v48, v49, v50, v51, v52, v53, v54, v55, v56, v57, v58, v59, v60, v61, v62, v63, v64, v65, v66, v67, v68, v69, v70, v71, v72, v73, v74, v75, v76, v77, v78, v79, v80, v81, v82, v83, v84, v85, v86, v87, v88, v89, v90, vs 0, vs 1, vs 2, vs 3, vs 4, vs 5, vs 6, vs 7, vs 8, vs 9, vs 10, vs 11, vs 12, vs 13], defers := [] } := by
      rw [<- hl]
      kernel_rfl
     subst hA'
     rw [g16, g18]
     clear hl hG g16 g18
     simp only [List.drop_succ_cons, List.drop_zero]
     have hBt := J.k12
     have bel : Below w.heap.size wr V := hBt.below (by omega) (fun q hq => by omega)
     obtain ⟨ii, hh, Dd⟩ := P.dice
     have farA : ∀ q, qz63 W.A (.slice a0 W.A.slots.length c0) (.slice a1 W.A.guides.length c1) (.slice a2 W.A.nodes.length c2) (.slice a3 W.A.vers.length c3) q -> w0.heap.size <= q := fun q e => (P.far q (by rcases e with e | e | e | e; exact Or.inl e; exact Or.inr (Or.inl e); exact Or.inr (Or.inr (Or.inl e)); exact Or.inr (Or.inr (Or.inr (Or.inl e))))).1
     have IV : qzr V.heap.size V (.slice a0 W.A.slots.length c0) (.slice a1 W.A.guides.length c1) (.slice a2 W.A.nodes.length c2) (.slice a3 W.A.vers.length c3) W.A := (P.is.ar.butN hBt (Nat.le_refl _) (fun q e h => by have := farA q e; omega)).weaken hBt.size
     have DV : qz1s .i64 V b a len cap ii hh := ⟨(bel.cell (p := ⟨b, 0, none⟩) hbw).trans Dd.c0, (bel.cell (p := ⟨b, 1, none⟩) hbw).trans Dd.c1, (bel.cell (p := ⟨b, 2, none⟩) hbw).trans Dd.c2, (bel.frozen (p := ⟨b, 1, none⟩) hbw).trans Dd.f1, (bel.frozen (p := ⟨b, 2, none⟩) hbw).trans Dd.f2, Dd.lo, Dd.hi, Nat.lt_of_lt_of_le Dd.blk hBt.size⟩
     have OV : Only b w V := ⟨bel.os.trans (P.only.os.trans O0.os), bel.tape.trans (P.only.tape.trans O0.tape), bel.output.trans (P.only.output.trans O0.output), by have := hBt.size; omega, fun q hq hn => (bel.block q hq).trans ((P.only.block q (by omega) hn).trans (O0.block q hq hn))⟩
     have CV := P.bytes.below (bel.mono (by omega))
     have hAs : W.A.size <= 1000000 := by have := hinv.small; unfold Wd.size at this; omega
     have hlen9 := qz2j ((qz8h x y z u W.A).2 hinv.ar)
     go_wp2_with fail
     refine bodyPost_ret (v := .tuple #[.agg (Q05 : Array Value), .agg Q1d, .int .i64 (j : Int), .agg (hdC hd).toArray, .int .i64 (min (W.now + 1) 20000)]) ?_ rfl ⟨x, y, z, u, W.A, a0, a1, a2, a3, c0, c1, c2, c3, j, hd, _, rfl, hAs, hinv.plan.1, hlen9.2.2.2.2.1, hlen9.2.2.2.2.2, IV, fun q e => by have := farA q e; omega, ⟨ii, hh, DV⟩, CV, OV⟩
     exact qz6p Tryz.results80 _ V (w.heap.size) (w.heap.size + 1) (w.heap.size + 1 + 1) rfl rfl rfl Q0n Q1f (hdC hd) _ _ _ r1 r2 r3 Tryz.underlying25 rfl qz2e Tryz.underlying30 rfl qz1x Tryz.underlying32 rfl (qz1 hd)
   go_loopw [14] (fun i' wr => ∃ (ck : Int) (s g n r hs cs ds ts : Value) (W : Wd), i' = .int .i64 ck /\ 0 <= ck /\ (ck <= 60 /\ W.now + (60 - ck) <= 2751) /\ WInv x y z u W /\ qz98 B b b3 w0 wr a len cap x y z u s g n r hs cs ds ts W) (fun i' _ => (60 - intOf i').toNat)
   case atStart => exact ⟨0, _, _, _, _, _, _, _, _, W, rfl, by omega, ⟨by omega, by omega⟩, V1, P3⟩
   case round =>
    clear y0 y9 P3 V1 hnow
    obtain ⟨ck, s, g, n, r, hs, cs, ds, ts, W, rfl, ck0, ⟨ck1, hnow⟩, V1, P⟩ := hrel
    have hnw := V1.nw
    have hhl := V1.hl
    have hjl : j < W.hands.length := by omega
    obtain ⟨a0, a1, a2, a3, a4, a5, a6, a7, c0, c1, c2, c3, c4, c5, c6, c7, rfl, rfl, rfl, rfl, rfl, rfl, rfl, rfl⟩ := P.slices
    obtain ⟨hb, ho, rfl, hbl, Rh⟩ := qzt.at P.is.h (by omega)
    have Eh := qzi (f := hdC) (sz := 22) (fun _ => rfl) Rh j hjl
    have y9 : wr.cell? ⟨b3, 9, none⟩ = some (.slice (some ⟨hb, ho, none⟩) W.hands.length c4) := P.cell 9 rfl
    have e0 : wr.cell? ⟨hb, ho + j * 22, none⟩ = some (.int .i64 W.hands[j].at_) := by have := Eh 0 (.int .i64 W.hands[j].at_) rfl; simpa using this
    have hk1 : (j : Int) < (W.hands.length : Int) := by omega
    have hk0 : (0 : Int) <= (j : Int) := by omega
    clear Rh
    obtain ⟨hd, hhd⟩ : ∃ hd, Hid (W.hands[j] = hd) := ⟨W.hands[j], (rfl : W.hands[j] = W.hands[j])⟩
    rw [hhd.out] at Eh e0
    by_cases hpos : ck < 60
    case neg =>
     have hlast : ¬ (ck < 60) := hpos
     go_wp2_with fail
     exact fin _ _ _ _ _ _ _ _ _ _ _ _ _ _ _ _ _ _ _ _ _ _ _ _ _ _ _ _ _ _ _ _ _ _ _ _ _ _ _ _ _ _ _ _ _ _ _ _ _ _ _ _ _ _ _ _ _ _ _ _ _ _ _ _ _ _ _ _ _ _ _ _ _ _ _ _ ck W _ _ _ _ _ _ _ _ _ _ _ _ _ _ _ _ hd wr hb ho rfl V1 P (fun _ => hhd.out) (by omega) Eh
    cases hin : inB hd.at_ lo hi
    case true =>
     go_wp2_with (go_at_call 61; refine (qze _ _ _ _).mono ?_; rintro e w' ⟨rfl, hw⟩; obtain rfl := hw.symm)
     exact fin _ _ _ _ _ _ _ _ _ _ _ _ _ _ _ _ _ _ _ _ _ _ _ _ _ _ _ _ _ _ _ _ _ _ _ _ _ _ _ _ _ _ _ _ _ _ _ _ _ _ _ _ _ _ _ _ _ _ _ _ _ _ _ _ _ _ _ _ _ _ _ _ _ _ _ _ ck W _ _ _ _ _ _ _ _ _ _ _ _ _ _ _ _ hd wr hb ho rfl V1 P (fun _ => hhd.out) (by omega) Eh
    go_upto_region 11 with (go_at_call 61; refine (qze _ _ _ _).mono ?_; rintro e w' ⟨rfl, hw⟩; obtain rfl := hw.symm)
    by_cases hat : hd.at_ = 0
    ·rw [hat] at e0
     go_wp2_with (refine wpList_load_mid rfl 32 (.tmp 70) rfl hb (ho + j * 22) rfl (hdC hd) _ ?lh Tryz.underlying32 rfl (qz1 hd) ?_)
     try (case lh => exact Eh)
     obtain ⟨i5, h5, D5⟩ := P.dice
     refine (qz5q B b a len cap i5 h5 hd wr hB hlen D5 P.bytes).mono ?_
     rintro e wc ⟨qc, qk, qv, i6, h6, rfl, D6, C6, O6⟩
     have Pc := P.draw hbw0 D6 C6 O6
     clear y9 e0 Eh D5 D6 C6 O6 P
     go_wp2_with (refine wpList_load_mid rfl 59 (.tmp 11) rfl b3 0 rfl Q2d _ ?lw Tryz.underlying59 rfl qzh ?_)
     try (case lw => exact Pc.row)
     refine (qzac wc.heap.size x y z u W a0 a1 a2 a3 (some ⟨hb, ho, none⟩) a5 a6 a7 c0 c1 c2 c3 c4 c5 c6 c7 j hd qc qk qv wc (Nat.le_refl _) V1.small Pc.is (V1.right (by omega)) hjl hhd.out).mono ?_
     rintro e wd ⟨s2, g2, n2, r2, hs2, cs2, ds2, ts2, cd, rfl, Oa, ba⟩
     have V2 := V1.ask hjl qc qk qv
     rw [hhd.out] at V2
     have hn2 := qzbk x y z u W j hd qc qk qv
     have hA2 : (askW x y z u W j hd qc qk qv).A = W.A := qz7g x y z u W j hd qc qk qv
     have Pd := Pc.store hB hbw0 ba Oa
     have Pt := qz2 Pc.th ba Pc.hi
     rw [<- congrArg Ar.camera hA2]
     generalize askW x y z u W j hd qc qk qv = W2 at *
     clear hA2
     obtain ⟨sa, sc', rfl⟩ := qzg Oa.ar.rs
     obtain ⟨ga, gc', rfl⟩ := qzg Oa.ar.rg
     obtain ⟨na, nc', rfl⟩ := qzg Oa.ar.rn
     obtain ⟨ra, rc', rfl⟩ := qzg Oa.ar.rr
     obtain ⟨ha, hc', rfl⟩ := qzg Oa.h
     obtain ⟨ca, cc', rfl⟩ := qzg Oa.c
     obtain ⟨da, dc', rfl⟩ := qzg Oa.d
     obtain ⟨ta, tc', rfl⟩ := qzg Oa.t
     clear Oa ba Pc
     go_wp2_with (refine wpList_store_mid rfl 59 (.tmp 11) (.tmp 83) rfl b3 0 (Q0g).toArray ?sx1 ?sy1 ?st1 qzh (by simp [wdC, Value.oneCell']) ?_)
     try (case sx1 => rfl)
     try (case sy1 => rfl)
     try (case st1 => exact Pt)
     go_roundw
     case rel => exact ⟨ck + 1, _, _, _, _, _, _, _, _, W2, by go_num, by omega, ⟨by omega, by omega⟩, V2, Pd⟩
     case measure => simp [intOf]; omega
    ·have bat : (hd.at_ == 0) = false := by simp [hat]
     go_wp2_with (refine wpList_load_mid rfl 59 (.tmp 11) rfl b3 0 rfl Q2d _ ?lw2 Tryz.underlying59 rfl qzh ?_)
     try (case lw2 => exact P.row)
     refine (qzak wr.heap.size x y z u W a0 a1 a2 a3 (some ⟨hb, ho, none⟩) a5 a6 a7 c0 c1 c2 c3 c4 c5 c6 c7 j hd wr (Nat.le_refl _) P.is V1 (by omega) hjl hhd.out).mono ?_
     rintro e wd ⟨s2, g2, n2, r2, hs2, cs2, ds2, ts2, W2, is, rfl, Oa, V2, hn2, -, -, ba⟩
     have Pd := P.store hB hbw0 ba Oa
     have Pt := qz2 P.th ba P.hi
     clear y9 e0 Eh
     obtain ⟨sa, sc', rfl⟩ := qzg Oa.ar.rs
     obtain ⟨ga, gc', rfl⟩ := qzg Oa.ar.rg
     obtain ⟨na, nc', rfl⟩ := qzg Oa.ar.rn
     obtain ⟨ra, rc', rfl⟩ := qzg Oa.ar.rr
     obtain ⟨ha, hc', rfl⟩ := qzg Oa.h
     obtain ⟨ca, cc', rfl⟩ := qzg Oa.c
     obtain ⟨da, dc', rfl⟩ := qzg Oa.d
     obtain ⟨ta, tc', rfl⟩ := qzg Oa.t
     clear Oa ba P bat
     go_wp2_with (refine wpList_store_mid rfl 59 (.tmp 11) (.tmp 89) rfl b3 0 (Q0g).toArray ?sx2 ?sy2 ?st2 qzh (by simp [wdC, Value.oneCell']) ?_)
     try (case sx2 => rfl)
     try (case sy2 => rfl)
     try (case st2 => exact Pt)
     go_roundw
     case rel => exact ⟨ck + 1, _, _, _, _, _, _, _, _, W2, by go_num, by omega, ⟨by omega, by omega⟩, V2, Pd⟩
     case measure => simp [intOf]; omega
end
end Go.Proofs.YtclkglkhhnapiaaGreat
