/-
  What the law's proof goes by, part 39.
-/
import Derived.Deep.Cut
import Derived.Test.YthjkdnlmopafkaaGreatFnSealed00
import Derived.Test.YthjkdnlmopafkaaGreatFnSealed11
import Derived.Test.YthjkdnlmopafkaaGreatFnSealed34
import Derived.Test.YthjkdnlmopafkaaGreatFnSealed36
import Derived.Test.YthjkdnlmopafkaaGreatFnSealed37
namespace Go.Proofs.YthjkdnlmopafkaaGreat
open Go.ChangeShapes Go.WideShapes Go.ChangeAt Go.RowKit
set_option maxRecDepth 100000
set_option maxHeartbeats 16000000
set_option linter.unusedVariables false
set_option linter.unusedSimpArgs false
set_option linter.unnecessarySimpa false
set_option linter.unusedSectionVars false
section
attribute [local go_sem ↓] Go.wp_at_zero Go.wp_at_succ
def qz90 (A : Ar) (s g n r : Value) (q : Nat) : Prop := (0 < Q7w /\ qz32 s = some q) ∨ (0 < Q7v /\ qz32 g = some q) ∨ (0 < Q7f /\ qz32 n = some q) ∨ (0 < Q7h /\ qz32 r = some q)
theorem qzv.farN {B c : Nat} {w w' : World} {s g n r : Value} {A : Ar} (I : qzv B w s g n r A) (hO : Only c w w') (hB : B <= Q7b) (hne : ∀ q, qz90 A s g n r q -> q ≠ c) : qzv B w' s g n r A :=
 ⟨qz2y I.s hO hB (fun q e => hne q (Or.inl e)), qz2y I.g hO hB (fun q e => hne q (Or.inr (Or.inl e))), qz2y I.n hO hB (fun q e => hne q (Or.inr (Or.inr (Or.inl e)))), qz2y I.r hO hB (fun q e => hne q (Or.inr (Or.inr (Or.inr e))))⟩
theorem qz62 {S : Nat -> Prop} {B : Nat} {w w' : World} {v : Value} {n : Nat} {cs : List Value} (I : qzq B w v n cs) (hO : But S w w') (hB : B <= Q7b) (hne : ∀ q, 0 < n /\ qz32 v = some q -> ¬ S q) : qzq B w' v n cs := by
 obtain ⟨a', cap', rfl, h⟩ := I
 refine ⟨a', cap', rfl, ?_⟩
 rcases Nat.eq_zero_or_pos n with h0 | h0
 ·exact Or.inl h0
 ·rcases h with h | ⟨bb, off, rfl, lt, R⟩
  ·omega
  ·exact Or.inr ⟨bb, off, rfl, lt, hO.range R (by omega) (hne bb ⟨h0, rfl⟩)⟩
theorem qzv.butN {S : Nat -> Prop} {B : Nat} {w w' : World} {s g n r : Value} {A : Ar} (I : qzv B w s g n r A) (hO : But S w w') (hB : B <= Q7b) (hne : ∀ q, qz90 A s g n r q -> ¬ S q) : qzv B w' s g n r A :=
 ⟨qz62 I.s hO hB (fun q e => hne q (Or.inl e)), qz62 I.g hO hB (fun q e => hne q (Or.inr (Or.inl e))), qz62 I.n hO hB (fun q e => hne q (Or.inr (Or.inr (Or.inl e)))), qz62 I.r hO hB (fun q e => hne q (Or.inr (Or.inr (Or.inr e))))⟩
theorem qz5p {P : Program} {fn : Func} {p q r s t : Tmp} {t1 t2 t3 : TypeId} (h : fn.results = #[.cell p t1, .cell q t2, .tmp r, .cell s t3, .tmp t]) (tmps : Array Value) (w : World) (b1 b2 b3 : Nat) (h1 : tmps.getD p undef = .pointer (some ⟨b1, 0, none⟩)) (h2 : tmps.getD q undef = .pointer (some ⟨b2, 0, none⟩)) (h3 : tmps.getD s undef = .pointer (some ⟨b3, 0, none⟩))
  (c1 c2 c3 : List Value) (d1 d2 d3 : TypeDesc) (r1 : w.rangeAt b1 0 c1) (r2 : w.rangeAt b2 0 c2) (r3 : w.rangeAt b3 0 c3) (u1 : P.underlying t1 = some d1) (k1 : d1.isRow = true) (i1 : (P.info? t1).map (·.size) = some c1.length) (u2 : P.underlying t2 = some d2) (k2 : d2.isRow = true) (i2 : (P.info? t2).map (·.size) = some c2.length) (u3 : P.underlying t3 = some d3) (k3 : d3.isRow = true) (i3 : (P.info? t3).map (·.size) = some c3.length) :
  (results fn tmps).run P w = .ok (.tuple #[.agg c1.toArray, .agg c2.toArray, tmps.getD r undef, .agg c3.toArray, tmps.getD t undef]) w := by
 have l1 := run_loadVar_mid (P := P) w b1 0 t1 c1 d1 r1 u1 k1 i1
 have l2 := run_loadVar_mid (P := P) w b2 0 t2 c2 d2 r2 u2 k2 i2
 have l3 := run_loadVar_mid (P := P) w b3 0 t3 c3 d3 r3 u3 k3 i3
 rw [Array.getD_eq_getD_getElem?] at h1 h2 h3
 simp [results, h, h1, h2, h3, asAddr, Result.andThen, l1, l2, l3]
def qzgn (B b : Nat) (w : World) (a : Option Addr) (len cap : Nat) (e : Ending) (w' : World) : Prop :=
 ∃ (x y z u : Int) (A : Ar) (a0 a1 a2 a3 : Option Addr) (c0 c1 c2 c3 : Nat) (k : Int) (hd : Hd) (clk : Int), e = .returned (.tuple Q54) /\ A.size <= 1000000 /\ (1 <= x /\ x <= 8) /\ Q7f <= 60 /\ Q7h <= 400 /\ qzv w'.heap.size w' Q0u Q0s Q0v Q14 A /\ (∀ q, qz90 A Q0u Q0s Q0v Q14 q -> Q7b <= q) /\ (∃ i' h', qz20 .i64 w' b a len cap i' h') /\ qz1p B w' a len /\ Only b w w'
def qzhp (b3 : Nat) (x y z u : Int) (W : Wd) (a0 a1 a2 a3 : Option Addr) (hb ho c0 c1 c2 c3 c4 j : Nat) (hd : Hd) : Nat -> Value -> Prop
 | 0, v => v = .pointer (some ⟨b3, 0, none⟩)
 | 1, v => v = .agg Q06
 | 2, v => v = .pointer (some ⟨b3, 4, none⟩)
 | 3, v => v = .agg Q1g
 | 4, v => v = .int .i64 (j : Int)
 | 5, v => v = .pointer (some ⟨b3, 9, none⟩)
 | 6, v => v = .slice (some ⟨hb, ho, none⟩) Q7s c4
 | 7, v => v = .int .i64 (j : Int)
 | 8, v => v = .pointer (some ⟨hb, ho + j * 22, none⟩)
 | 9, v => v = .agg (hdC hd).toArray
 | 10, v => v = .pointer (some ⟨b3, 13, none⟩)
 | 11, v => v = .int .i64 W.now
 | 12, v => v = .int .i64 (W.now + 1)
 | 13, v => v = .int .i64 (min (W.now + 1) 20000)
 | 16, v => v = .int .i64 (j : Int)
 | 18, v => v = .int .i64 (min (W.now + 1) 20000)
 | _, _ => True
structure qzaj (wr : World) (b3 p q s : Nat) (x y z u : Int) (W : Wd) (a0 a1 a2 a3 : Option Addr) (hb ho c0 c1 c2 c3 c4 j : Nat) (hd : Hd) (L : Nat -> Bool) (V : World) : Prop where
 k1 : V.rangeAt b3 0 Q0q
 k2 : V.rangeAt b3 4 Q25
 k3 : V.cell? ⟨b3, 9, none⟩ = some Q5a
 k4 : V.cell? ⟨b3, 13, none⟩ = some (.int .i64 W.now)
 k5 : V.rangeAt hb (ho + j * 22) (hdC hd)
 k6 : V.there p 0 4
 k7 : V.there q 0 5
 k8 : V.there s 0 22
 k9 : L 14 = true -> V.rangeAt p 0 Q0q
 k10 : L 15 = true -> V.rangeAt q 0 Q25
 k11 : L 17 = true -> V.rangeAt s 0 (hdC hd)
 k12 : But (fun c => c = p ∨ c = q ∨ c = s) wr V
section
variable {wr : World} {b3 p q s : Nat} {x y z u : Int} {W : Wd} {a0 a1 a2 a3 : Option Addr} {hb ho c0 c1 c2 c3 c4 j : Nat} {hd : Hd} {L : Nat -> Bool} {V : World}
theorem qz3v {L : Nat -> Bool} {i m : Nat} (h : i ≠ m) (hm : onAt L i m = true) : L m = true := by
 simp only [onAt] at hm
 rwa [if_neg (fun e => h e.symm)] at hm
theorem qzaj.on (J : qzaj wr b3 p q s x y z u W a0 a1 a2 a3 hb ho c0 c1 c2 c3 c4 j hd L V) (i : Nat) (h1 : i ≠ 14) (h2 : i ≠ 15) (h3 : i ≠ 17) : qzaj wr b3 p q s x y z u W a0 a1 a2 a3 hb ho c0 c1 c2 c3 c4 j hd (onAt L i) V :=
 ⟨J.k1, J.k2, J.k3, J.k4, J.k5, J.k6, J.k7, J.k8, fun h => J.k9 (qz3v h1 h), fun h => J.k10 (qz3v h2 h), fun h => J.k11 (qz3v h3 h), J.k12⟩
theorem qzaj.put (J : qzaj wr b3 p q s x y z u W a0 a1 a2 a3 hb ho c0 c1 c2 c3 c4 j hd L V) (c : Nat) (vs : List Value) (hc : c = p ∨ c = q ∨ c = s) (hb3 : b3 ≠ c) (hhb : hb ≠ c) (i : Nat) (h9 : onAt L i 14 = true -> (V.setCells c 0 vs).rangeAt p 0 Q0q) (h10 : onAt L i 15 = true -> (V.setCells c 0 vs).rangeAt q 0 Q25) (h11 : onAt L i 17 = true -> (V.setCells c 0 vs).rangeAt s 0 (hdC hd)) : qzaj wr b3 p q s x y z u W a0 a1 a2 a3 hb ho c0 c1 c2 c3 c4 j hd (onAt L i) (V.setCells c 0 vs) :=
 ⟨Q7t J.k1 _ _ _ (Or.inl hb3), Q7t J.k2 _ _ _ (Or.inl hb3), (World.cell?_setCells_out c vs 0 V ⟨b3, 9, none⟩ (fun e => absurd e hb3)).trans J.k3, (World.cell?_setCells_out c vs 0 V ⟨b3, 13, none⟩ (fun e => absurd e hb3)).trans J.k4, Q7t J.k5 _ _ _ (Or.inl hhb), Q81 J.k6 _ _ _, Q81 J.k7 _ _ _, Q81 J.k8 _ _ _, h9, h10, h11, J.k12.trans (But.of_only (qzi c vs 0 V) hc)⟩
theorem qzaj.st0 (J : qzaj wr b3 p q s x y z u W a0 a1 a2 a3 hb ho c0 c1 c2 c3 c4 j hd L V) (h1 : p < q /\ q < s) (h2 : s < b3) (h3 : s < hb) : qzaj wr b3 p q s x y z u W a0 a1 a2 a3 hb ho c0 c1 c2 c3 c4 j hd (onAt L 14) (V.setCells p 0 Q0q) :=
 J.put p _ (Or.inl rfl) (by omega) (by omega) 14 (fun _ => Q7c _ _ _ _ J.k6) (fun h => Q7t (J.k10 (qz3v (by decide) h)) _ _ _ (Or.inl (by omega))) (fun h => Q7t (J.k11 (qz3v (by decide) h)) _ _ _ (Or.inl (by omega)))
theorem qzaj.st1 (J : qzaj wr b3 p q s x y z u W a0 a1 a2 a3 hb ho c0 c1 c2 c3 c4 j hd L V) (h1 : p < q /\ q < s) (h2 : s < b3) (h3 : s < hb) : qzaj wr b3 p q s x y z u W a0 a1 a2 a3 hb ho c0 c1 c2 c3 c4 j hd (onAt L 15) (V.setCells q 0 Q25) :=
 J.put q _ (Or.inr (Or.inl rfl)) (by omega) (by omega) 15 (fun h => Q7t (J.k9 (qz3v (by decide) h)) _ _ _ (Or.inl (by omega))) (fun _ => Q7c _ _ _ _ J.k7) (fun h => Q7t (J.k11 (qz3v (by decide) h)) _ _ _ (Or.inl (by omega)))
theorem qzaj.st2 (J : qzaj wr b3 p q s x y z u W a0 a1 a2 a3 hb ho c0 c1 c2 c3 c4 j hd L V) (h1 : p < q /\ q < s) (h2 : s < b3) (h3 : s < hb) : qzaj wr b3 p q s x y z u W a0 a1 a2 a3 hb ho c0 c1 c2 c3 c4 j hd (onAt L 17) (V.setCells s 0 (hdC hd)) :=
 J.put s _ (Or.inr (Or.inr rfl)) (by omega) (by omega) 17 (fun h => Q7t (J.k9 (qz3v (by decide) h)) _ _ _ (Or.inl (by omega))) (fun h => Q7t (J.k10 (qz3v (by decide) h)) _ _ _ (Or.inl (by omega))) (fun _ => Q7c _ _ _ _ J.k8)
end
theorem qz3g : (Tryz.prog.info? 28).map (fun i => i.size) = some 4 := by kernel_rfl
theorem qz2x : (Tryz.prog.info? 33).map (fun i => i.size) = some 5 := by kernel_rfl
theorem qzds (B b : Nat) (a : Option Addr) (len cap : Nat) (i h : Int) (lo hi : Int) (w : World) (hB : B <= b) (hlen : len <= 4096) (D : qz20 .i64 w b a len cap i h) (C : qz1p B w a len) :
  Calls Tryz.prog 88 Q6p w fun e w' => qzgn B b w a len cap e w' := by
 have hbw := D.blk
 have RP := Q80 (Q80 (qza w Q4o 28 4 (by decide)) (.cells Q0h 33)) (.cells Q00 53)
 have RA := Q80 (qza (w.alloc Q15) Q0h 33 5 (by decide)) (.cells Q00 53)
 have RH := qza Q5p Q00 53 22 (by decide)
 have D0 := ((D.alloc Q15).alloc (.cells Q0h 33)).alloc (.cells Q00 53)
 have C0 := ((C.alloc (by omega) Q15).alloc (by simp; omega) (.cells Q0h 33)).alloc (by simp; omega) (.cells Q00 53)
 have O0 := (((Only.refl b w).alloc Q15).alloc (.cells Q0h 33)).alloc (.cells Q00 53)
 have hz0 : ((Q5p).alloc (.cells Q00 53)).heap.size = Q7b + 1 + 1 + 1 := by simp
 simp only [World.size_alloc] at RA RH
 go_enter Tryz.func88, Tryz.ntmps88
 go_upto_region 1 with fail
 generalize hw0 : (Q5p).alloc (.cells Q00 53) = w0 at *
 clear hw0
 have hz0' : Q7b + 1 + 1 < Q7r := by omega
 have hbw0 : b < Q7r := by omega
 replace hz0 : Q7b <= Q7r := by omega
 go_wp2_with fail
 refine (qzcq B b a len cap i h w0 hB hlen D0 C0).mono ?_
 rintro e w1 ⟨x, y, z, u, s, g, n, r, hs, cs, ds, ts, W, rfl, V1, hnow, I1, far1, ⟨i1, h1, D1⟩, C1, O1⟩
 obtain ⟨a0, c0, rfl, -⟩ := id I1.ar.s
 obtain ⟨a1, c1, rfl, -⟩ := id I1.ar.g
 obtain ⟨a2, c2, rfl, -⟩ := id I1.ar.n
 obtain ⟨a3, c3, rfl, -⟩ := id I1.ar.r
 obtain ⟨a4, c4, rfl, -⟩ := id I1.h
 obtain ⟨a5, c5, rfl, -⟩ := id I1.c
 obtain ⟨a6, c6, rfl, -⟩ := id I1.d
 obtain ⟨a7, c7, rfl, -⟩ := id I1.t
 have al0 := (Q7g Q7k w1).alloc (Q7l _) (.cells Q03 38)
 have T1 := qza w1 Q03 38 14 (by decide)
 have al := Below.setCells (Q7l _) Q0n 0 _ al0
 have hz1 := O1.size
 have P1 : qzag B b Q7k w0 ((w1.alloc (.cells Q03 38)).setCells Q7k 0 Q0n) a len cap x y z u Q4b Q46 Q4a Q4h Q55 Q5h Q5g Q5f W :=
  ⟨⟨i1, h1, D1.below al⟩, C1.below (al.mono (by have := D1.blk; omega)), World.rangeAt_setCells_same _ _ _ _ T1, World.there_setCells T1 _ _ _, (I1.below al).weaken al.size, fun q e => ⟨far1 q e.all, Nat.ne_of_lt (I1.lt e)⟩, O1.trans (Only.of_below al), hz1, by rw [qzn]; simp⟩
 go_upto_region 2 with (refine wpList_store_mid rfl 38 (.tmp 11) (.tmp 19) rfl w1.heap.size 0 (Q0n).toArray ?sx ?sy ?st qzj (by simp [wdC, Value.oneCell']) ?_)
 try (case sx => rfl)
 try (case sy => rfl)
 try (case st => exact T1)
 generalize hw2 : (w1.alloc (.cells Q03 38)).setCells Q7k 0 Q0n = w2 at *
 obtain ⟨b3, hb3⟩ : ∃ b3, b3 = Q7k := ⟨_, rfl⟩
 rw [<- hb3] at P1 ⊢
 clear hw2 al al0 T1 I1 far1 D1 C1 O1 D0 C0 hb3 hz1
 have hxr := V1.plan.1
 have y0 : w2.cell? ⟨b3, 0, none⟩ = some (.int .i64 x) := P1.cell 0 rfl
 obtain ⟨i2, h2, D2⟩ := P1.dice
 go_wp2_with fail
 refine (qz13 B b a len cap i2 h2 x w2 hB hlen D2 P1.bytes (by omega) (by omega)).mono ?_
 rintro e w3 ⟨nI, i3, h3, rfl, n0, n1, D3, C3, O3⟩
 have P3 := P1.draw hbw0 D3 C3 O3
 clear y0 D2 D3 C3 O3 P1
 obtain ⟨nk, rfl⟩ : ∃ k : Nat, nI = k := ⟨nI.toNat, by omega⟩
 have y0 : w3.cell? ⟨b3, 0, none⟩ = some (.int .i64 x) := P3.cell 0 rfl
 have y9 : w3.cell? ⟨b3, 9, none⟩ = some Q55 := P3.cell 9 rfl
 have hhl := V1.hl
 obtain ⟨hb, ho, e9, -, Rh⟩ := qzq.at P3.is.h (by omega)
 cases e9
 go_wp2
 go_loopw [12, 13] (fun n' i' wr => ∃ (j k : Nat), n' = .int .i64 j /\ i' = .int .i64 k /\ (j : Int) < x /\ (k : Int) <= x /\ wr = w3) (fun n' i' _ => (x - intOf i').toNat)
 case atStart => exact ⟨nk, 0, rfl, rfl, n1, by omega, rfl⟩
 case round =>
  obtain ⟨j, k, rfl, rfl, hj, hk, hwr⟩ := hrel
  obtain rfl := hwr.symm
  by_cases hlt : (k : Int) < x
  ·have hkl : k < Q7s := by omega
   have Eh := qze (f := hdC) (sz := 22) (fun _ => rfl) Rh k hkl
   have e0 : w3.cell? ⟨hb, ho + k * 22, none⟩ = some (.int .i64 W.hands[k].at_) := by have := Eh 0 (.int .i64 W.hands[k].at_) rfl; simpa using this
   have hk1 : (k : Int) < (Q7s : Int) := by omega
   have hk0 : (0 : Int) <= (k : Int) := by omega
   clear Eh
   cases hin : inB W.hands[k].at_ lo hi
   ·go_wp2_with (go_at_call 63; refine (qzg _ _ _ _).mono ?_; rintro e w' ⟨rfl, hw⟩; obtain rfl := hw.symm)
    go_roundw
    case rel => exact ⟨j, k + 1, by first | rfl | go_num, by go_num, hj, by omega, by first | rfl | trivial⟩
    case measure => simp [intOf]; omega
   ·go_wp2_with (go_at_call 63; refine (qzg _ _ _ _).mono ?_; rintro e w' ⟨rfl, hw⟩; obtain rfl := hw.symm)
    go_roundw
    case rel => exact ⟨k, k + 1, by first | rfl | go_num, by go_num, by omega, by omega, by first | rfl | trivial⟩
    case measure => simp [intOf]; omega
  ·have hend : ¬ ((k : Int) < x) := hlt
   have hkx : (k : Int) = x := by omega
   clear Rh hk hlt hkx
   go_wp2
   rename_i K1 h1
   have fin : ∀ (v15 v16 v17 v18 v19 v20 v21 v22 v23 v24 v25 v26 v27 v28 v29 v30 v31 v32 v33 v34 v35 v36 v37 v38 v39 v40 v41 v42 v43 v44 v45 v46 v47 v48 v49 v50 v51 v52 v53 v54 v55 v56 v57 v58 v59 v60 v61 v62 v63 v64 v65 v66 v67 v68 v69 v70 v71 v72 v73 v74 v75 v76 v77 v78 v79 v80 v81 v82 v83 v84 v85 v86 v87 v88 v89 v90 : Value) (ck : Int) (W : Wd) (a0 a1 a2 a3 a4 a5 a6 a7 : Option Addr) (c0 c1 c2 c3 c4 c5 c6 c7 : Nat) (hd : Hd) (wr : World) (hb ho : Nat), a4 = some ⟨hb, ho, none⟩ -> WInv x y z u W -> qzag B b b3 w0 wr a len cap x y z u Q4b Q46 Q4a Q4h Q55 Q5h Q5g Q5f W -> (∀ hjl : j < Q7s, W.hands[j] = hd) -> W.now <= 2800 -> wr.rangeAt hb (ho + j * 22) (hdC hd) ->
     K1 { tmps := #[.pointer (some ⟨b, 0, none⟩), .int .i64 lo, .int .i64 hi, undef, undef, undef, .pointer (some ⟨Q7b, 0, none⟩), .pointer (some ⟨Q7b + 1, 0, none⟩), .int .i64 0, .pointer (some ⟨Q7b + 1 + 1, 0, none⟩), .int .i64 0, .pointer (some ⟨b3, 0, none⟩), .int .i64 (j : Int), .int .i64 (k : Int), .int .i64 ck, v15, v16, v17, v18, v19, v20, v21, v22, v23, v24, v25, v26, v27, v28, v29, v30, v31, v32, v33, v34, v35, v36, v37, v38, v39, v40, v41, v42, v43, v44, v45, v46, v47, v48, v49, v50, v51, v52, v53, v54, v55, v56, v57, v58, v59, v60, v61, v62, v63, v64, v65, v66, v67, v68, v69, v70, v71, v72, v73, v74, v75, v76, v77, v78, v79, v80, v81, v82, v83, v84, v85, v86, v87, v88, v89, v90, undef, undef, undef, undef, undef, undef, undef, undef, undef, undef, undef, undef, undef, undef], defers := [] } wr := by
    intro v15 v16 v17 v18 v19 v20 v21 v22 v23 v24 v25 v26 v27 v28 v29 v30 v31 v32 v33 v34 v35 v36 v37 v38 v39 v40 v41 v42 v43 v44 v45 v46 v47 v48 v49 v50 v51 v52 v53 v54 v55 v56 v57 v58 v59 v60 v61 v62 v63 v64 v65 v66 v67 v68 v69 v70 v71 v72 v73 v74 v75 v76 v77 v78 v79 v80 v81 v82 v83 v84 v85 v86 v87 v88 v89 v90 ck W a0 a1 a2 a3 a4 a5 a6 a7 c0 c1 c2 c3 c4 c5 c6 c7 hd wr hb ho ha4 hinv P hhd hnow Eh
    subst ha4
    refine h1 _ _ ?_
    clear h1
    go_wp2_with fail
    have hjl9 : j < Q7s := by have := hinv.hl; omega
    have hlo := P.lo
    have hhi := P.hi
    have hsz := P.only.size
    have hhb : Q7r <= hb := (P.far hb (by have := hinv.hl; exact Or.inr (Or.inr (Or.inr (Or.inr (Or.inl ⟨by omega, rfl⟩)))))).1
    have hw0 := P.only
    have hnw := hinv.nw
    have ROW : wr.rangeAt b3 0 (Q0q ++ (Q25 ++ [.slice (some ⟨hb, ho, none⟩) Q7s c4, .slice a5 Q7y c5, .slice a6 Q82 c6, .slice a7 Q7z c7, .int .i64 W.now])) := P.row
    obtain ⟨RO1, RO2⟩ := qz2o ROW
    obtain ⟨RO3, RO4⟩ := qz2o RO2
    replace RO3 : wr.rangeAt b3 4 Q25 := RO3
    have cH : wr.cell? ⟨b3, 9, none⟩ = some Q5a := P.cell 9 rfl
    have cN : wr.cell? ⟨b3, 13, none⟩ = some (.int .i64 W.now) := P.cell 13 rfl
    have TP := qz15 RP hw0 (by omega) (by omega)
    have TA := qz15 RA hw0 (by omega) (by omega)
    have TH := qz15 RH hw0 (by omega) (by omega)
    refine qz6a 19 (by kernel_rfl) (qzaj wr b3 (Q7b) (Q7b + 1) (Q7b + 1 + 1) x y z u W a0 a1 a2 a3 hb ho c0 c1 c2 c3 c4 j hd) ⟨RO1, RO3, cH, cN, Eh, TP, TA, TH, (fun h => by cases h), (fun h => by cases h), (fun h => by cases h), ⟨rfl, rfl, rfl, Q7l _, fun _ _ _ => rfl⟩⟩ (fun _ i v _ => qzhp b3 x y z u W a0 a1 a2 a3 hb ho c0 c1 c2 c3 c4 j hd i v) (by kernel_rfl) (by kernel_rfl) (by kernel_rfl) (by kernel_rfl) (by rfl) ?step ?final
    case step =>
     intro i o hik ho' L aa V hLi hLk hcl J hnn hd' K hK
     obtain ⟨j1, j2, j3, j4, j5, j6, j7, j8, j9, j10, j11, j12⟩ := id J
     match i, ho' with
     | 0, ho' =>
      obtain rfl := Q7i ho'
      have e11 : aa.eval (.tmp 11) = .pointer (some ⟨b3, 0, none⟩) := hnn 11 rfl
      refine qz4 (v := .pointer (some ⟨b3, 0, none⟩)) (w' := V) ?_ (hK _ _ rfl (J.on 0 (by decide) (by decide) (by decide)) (fun j v' _ _ q => q))
      clear J j1 j2 j5 j6 j7 j8 j9 j10 j11 j12
      generalize aa.eval = ev at *
      go_simp
     | 1, ho' =>
      obtain rfl := Q7i ho'
      exact qz2d 28 (.tmp 91) rfl b3 0 (hd' ⟨0, .data⟩ (by simp) rfl 91 rfl).2 Q0q _ j1 Tryz.underlying28 rfl qz3g (hK _ _ rfl (J.on 1 (by decide) (by decide) (by decide)) (fun j v' _ _ q => q))
     | 2, ho' =>
      obtain rfl := Q7i ho'
      have e11 : aa.eval (.tmp 11) = .pointer (some ⟨b3, 0, none⟩) := hnn 11 rfl
      refine qz4 (v := .pointer (some ⟨b3, 4, none⟩)) (w' := V) ?_ (hK _ _ rfl (J.on 2 (by decide) (by decide) (by decide)) (fun j v' _ _ q => q))
      clear J j1 j2 j5 j6 j7 j8 j9 j10 j11 j12
      generalize aa.eval = ev at *
      go_simp
     | 3, ho' =>
      obtain rfl := Q7i ho'
      exact qz2d 33 (.tmp 93) rfl b3 4 (hd' ⟨2, .data⟩ (by simp) rfl 93 rfl).2 Q25 _ j2 Tryz.underlying33 rfl qz2x (hK _ _ rfl (J.on 3 (by decide) (by decide) (by decide)) (fun j v' _ _ q => q))
     | 4, ho' =>
      obtain rfl := Q7i ho'
      have e12 : aa.eval (.tmp 12) = .int .i64 (j : Int) := hnn 12 rfl
      refine qz4 (v := .int .i64 (j : Int)) (w' := V) ?_ (hK _ _ rfl (J.on 4 (by decide) (by decide) (by decide)) (fun j v' _ _ q => q))
      clear J j1 j2 j5 j6 j7 j8 j9 j10 j11 j12
      generalize aa.eval = ev at *
      go_simp
     | 5, ho' =>
      obtain rfl := Q7i ho'
      have e11 : aa.eval (.tmp 11) = .pointer (some ⟨b3, 0, none⟩) := hnn 11 rfl
      refine qz4 (v := .pointer (some ⟨b3, 9, none⟩)) (w' := V) ?_ (hK _ _ rfl (J.on 5 (by decide) (by decide) (by decide)) (fun j v' _ _ q => q))
      clear J j1 j2 j5 j6 j7 j8 j9 j10 j11 j12
      generalize aa.eval = ev at *
      go_simp
     | 6, ho' =>
      obtain rfl := Q7i ho'
      have e96 : aa.eval (.tmp 96) = .pointer (some ⟨b3, 9, none⟩) := (hd' ⟨5, .data⟩ (by simp) rfl 96 rfl).2
      refine qz4 (v := .slice (some ⟨hb, ho, none⟩) Q7s c4) (w' := V) ?_ (hK _ _ rfl (J.on 6 (by decide) (by decide) (by decide)) (fun j v' _ _ q => q))
      clear J j1 j2 j5 j6 j7 j8 j9 j10 j11 j12
      generalize aa.eval = ev at *
      go_simp
     | 7, ho' =>
      obtain rfl := Q7i ho'
      have e12 : aa.eval (.tmp 12) = .int .i64 (j : Int) := hnn 12 rfl
      refine qz4 (v := .int .i64 (j : Int)) (w' := V) ?_ (hK _ _ rfl (J.on 7 (by decide) (by decide) (by decide)) (fun j v' _ _ q => q))
      clear J j1 j2 j5 j6 j7 j8 j9 j10 j11 j12
      generalize aa.eval = ev at *
      go_simp
     | 8, ho' =>
      obtain rfl := Q7i ho'
      have e97 : aa.eval (.tmp 97) = .slice (some ⟨hb, ho, none⟩) Q7s c4 := (hd' ⟨6, .data⟩ (by simp) rfl 97 rfl).2
      have e98 : aa.eval (.tmp 98) = .int .i64 (j : Int) := (hd' ⟨7, .data⟩ (by simp) rfl 98 rfl).2
      have hk1 : (j : Int) < (Q7s : Int) := by omega
      have hk0 : (0 : Int) <= (j : Int) := by omega
      refine qz4 (v := .pointer (some ⟨hb, ho + j * 22, none⟩)) (w' := V) ?_ (hK _ _ rfl (J.on 8 (by decide) (by decide) (by decide)) (fun j v' _ _ q => q))
      clear J j1 j2 j5 j6 j7 j8 j9 j10 j11 j12
      generalize aa.eval = ev at *
      go_simp
     | 9, ho' =>
      obtain rfl := Q7i ho'
      exact qz2d 53 (.tmp 99) rfl hb (ho + j * 22) (hd' ⟨8, .data⟩ (by simp) rfl 99 rfl).2 (hdC hd) _ j5 Q7d rfl (qz1 hd) (hK _ _ rfl (J.on 9 (by decide) (by decide) (by decide)) (fun j v' _ _ q => q))
     | 10, ho' =>
      obtain rfl := Q7i ho'
      have e11 : aa.eval (.tmp 11) = .pointer (some ⟨b3, 0, none⟩) := hnn 11 rfl
      refine qz4 (v := .pointer (some ⟨b3, 13, none⟩)) (w' := V) ?_ (hK _ _ rfl (J.on 10 (by decide) (by decide) (by decide)) (fun j v' _ _ q => q))
      clear J j1 j2 j5 j6 j7 j8 j9 j10 j11 j12
      generalize aa.eval = ev at *
      go_simp
     | 11, ho' =>
      obtain rfl := Q7i ho'
      have e101 : aa.eval (.tmp 101) = .pointer (some ⟨b3, 13, none⟩) := (hd' ⟨10, .data⟩ (by simp) rfl 101 rfl).2
      refine qz4 (v := .int .i64 W.now) (w' := V) ?_ (hK _ _ rfl (J.on 11 (by decide) (by decide) (by decide)) (fun j v' _ _ q => q))
      clear J j1 j2 j5 j6 j7 j8 j9 j10 j11 j12
      generalize aa.eval = ev at *
      go_simp
     | 12, ho' =>
      obtain rfl := Q7i ho'
      have e102 : aa.eval (.tmp 102) = .int .i64 W.now := (hd' ⟨11, .data⟩ (by simp) rfl 102 rfl).2
      have ec : aa.eval (.const (.int .i64 1)) = .int .i64 1 := rfl
      have wr1 : IntKind.i64.wrap (W.now + 1) = W.now + 1 := IntWalk.i64_in _ (by omega)
      refine qz4 (v := .int .i64 (W.now + 1)) (w' := V) ?_ (hK _ _ rfl (J.on 12 (by decide) (by decide) (by decide)) (fun j v' _ _ q => q))
      clear J j1 j2 j5 j6 j7 j8 j9 j10 j11 j12
      generalize aa.eval = ev at *
      go_simp
     | 13, ho' =>
      obtain rfl := Q7i ho'
      have e1 : aa.eval (.tmp 103) = .int .i64 (W.now + 1) := (hd' ⟨12, .data⟩ (by simp) rfl 103 rfl).2
      have ec : aa.eval (.const (.int .i64 20000)) = .int .i64 20000 := rfl
      have ef : aa.eval (.func 39) = .func (.func 39) #[] #[] := rfl
      refine qz1u (f := 39) (args := #[.int .i64 (W.now + 1), .int .i64 20000]) (R := fun v w' => v = .int .i64 (min (W.now + 1) 20000) /\ w' = V) ?_ ((qz92 _ _ V).mono (fun e w' h => ⟨_, h.1, rfl, h.2⟩)) (fun v w' h => by obtain ⟨e, rfl⟩ := h; exact hK v w' e (J.on 13 (by decide) (by decide) (by decide)) (fun j v' _ _ q => q))
      clear J j1 j2 j5 j6 j7 j8 j9 j10 j11 j12
      generalize aa.eval = ev at *
      go_simp
     | 14, ho' =>
      obtain rfl := Q7i ho'
      refine wp_store_mid 28 (.tmp 6) (.tmp 92) rfl (Q7b) 0 Q06 (hnn 6 rfl) (hd' ⟨1, .data⟩ (by simp) rfl 92 rfl).2 j6 qz3g (by simp [Value.oneCell']) ?_
      exact hK _ _ trivial (J.st0 (by omega) (by omega) (by omega)) (fun j v' _ _ q => q)
     | 15, ho' =>
      obtain rfl := Q7i ho'
      refine wp_store_mid 33 (.tmp 7) (.tmp 94) rfl (Q7b + 1) 0 Q1g (hnn 7 rfl) (hd' ⟨3, .data⟩ (by simp) rfl 94 rfl).2 j7 qz2x (by simp [Value.oneCell']) ?_
      exact hK _ _ trivial (J.st1 (by omega) (by omega) (by omega)) (fun j v' _ _ q => q)
     | 16, ho' =>
      obtain rfl := Q7i ho'
      have e95 : aa.eval (.tmp 95) = .int .i64 (j : Int) := (hd' ⟨4, .data⟩ (by simp) rfl 95 rfl).2
      refine qz4 (v := .int .i64 (j : Int)) (w' := V) ?_ (hK _ _ rfl (J.on 16 (by decide) (by decide) (by decide)) (fun j v' _ _ q => q))
      clear J j1 j2 j5 j6 j7 j8 j9 j10 j11 j12
      generalize aa.eval = ev at *
      go_simp
     | 17, ho' =>
      obtain rfl := Q7i ho'
      refine wp_store_mid 53 (.tmp 9) (.tmp 100) rfl (Q7b + 1 + 1) 0 (hdC hd).toArray (hnn 9 rfl) (hd' ⟨9, .data⟩ (by simp) rfl 100 rfl).2 j8 (qz7 hd) (qzd hd) ?_
      exact hK _ _ trivial (J.st2 (by omega) (by omega) (by omega)) (fun j v' _ _ q => q)
     | 18, ho' =>
      obtain rfl := Q7i ho'
      have e104 : aa.eval (.tmp 104) = .int .i64 (min (W.now + 1) 20000) := (hd' ⟨13, .data⟩ (by simp) rfl 104 rfl).2
      refine qz4 (v := .int .i64 (min (W.now + 1) 20000)) (w' := V) ?_ (hK _ _ rfl (J.on 18 (by decide) (by decide) (by decide)) (fun j v' _ _ q => q))
      clear J j1 j2 j5 j6 j7 j8 j9 j10 j11 j12
      generalize aa.eval = ev at *
      go_simp
     | n + 19, ho' => omega
    case final =>
     intro L vs V hLall J hG
     have g16 : vs 16 = .int .i64 (j : Int) := hG 16 (by decide)
     have g18 : vs 18 = .int .i64 (min (W.now + 1) 20000) := hG 18 (by decide)
     have r1 := J.k9 (hLall 14 (by decide))
     have r2 := J.k10 (hLall 15 (by decide))
     have r3 := J.k11 (hLall 17 (by decide))
     generalize hl : laid _ vs _ _ _ = A'
     have hA' : A' = { tmps := #[.pointer (some ⟨b, 0, none⟩), .int .i64 lo, .int .i64 hi, undef, undef, undef, .pointer (some ⟨Q7b, 0, none⟩), .pointer (some ⟨Q7b + 1, 0, none⟩), vs 16, .pointer (some ⟨Q7b + 1 + 1, 0, none⟩), vs 18, .pointer (some ⟨b3, 0, none⟩), .int .i64 (j : Int), .int .i64 (k : Int), .int .i64 ck, v15, v16, v17, v18, v19, v20, v21, v22, v23, v24, v25, v26, v27, v28, v29, v30, v31, v32, v33, v34, v35, v36, v37, v38, v39, v40, v41, v42, v43, v44, v45, v46, v47, v48, v49, v50, v51, v52, v53, v54, v55, v56, v57, v58, v59, v60, v61, v62, v63, v64, v65, v66, v67, v68, v69, v70, v71, v72, v73, v74, v75, v76, v77, v78, v79, v80, v81, v82, v83, v84, v85, v86, v87, v88, v89, v90, vs 0, vs 1, vs 2, vs 3, vs 4, vs 5, vs 6, vs 7, vs 8, vs 9, vs 10, vs 11, vs 12, vs 13], defers := [] } := by
      rw [<- hl]
      kernel_rfl
     subst hA'
     rw [g16, g18]
     clear hl hG g16 g18
     simp only [List.drop_succ_cons, List.drop_zero]
     have hBt := J.k12
     have bel : Below Q7b wr V := hBt.below (by omega) (fun q hq => by omega)
     obtain ⟨ii, hh, Dd⟩ := P.dice
     have farA : ∀ q, qz90 W.A Q4b Q46 Q4a Q4h q -> Q7r <= q := fun q e => (P.far q (by rcases e with e | e | e | e; exact Or.inl e; exact Or.inr (Or.inl e); exact Or.inr (Or.inr (Or.inl e)); exact Or.inr (Or.inr (Or.inr (Or.inl e))))).1
     have IV : qzv V.heap.size V Q4b Q46 Q4a Q4h W.A := (P.is.ar.butN hBt (Q7l _) (fun q e h => by have := farA q e; omega)).weaken hBt.size
     have DV : qz20 .i64 V b a len cap ii hh := ⟨(bel.cell (p := ⟨b, 0, none⟩) hbw).trans Dd.c0, (bel.cell (p := ⟨b, 1, none⟩) hbw).trans Dd.c1, (bel.cell (p := ⟨b, 2, none⟩) hbw).trans Dd.c2, (bel.frozen (p := ⟨b, 1, none⟩) hbw).trans Dd.f1, (bel.frozen (p := ⟨b, 2, none⟩) hbw).trans Dd.f2, Dd.lo, Dd.hi, Q7o Dd.blk hBt.size⟩
     have OV : Only b w V := ⟨bel.os.trans (P.only.os.trans O0.os), bel.tape.trans (P.only.tape.trans O0.tape), bel.output.trans (P.only.output.trans O0.output), by have := hBt.size; omega, fun q hq hn => (bel.block q hq).trans ((P.only.block q (by omega) hn).trans (O0.block q hq hn))⟩
     have CV := P.bytes.below (bel.mono (by omega))
     have hAs : W.A.size <= 1000000 := by have := hinv.small; unfold Wd.size at this; omega
     have hlen9 := qz2m ((qz9m x y z u W.A).2 hinv.ar)
     go_wp2_with fail
     refine bodyPost_ret (v := .tuple #[.agg (Q06 : Array Value), .agg Q1g, .int .i64 (j : Int), .agg (hdC hd).toArray, .int .i64 (min (W.now + 1) 20000)]) ?_ rfl ⟨x, y, z, u, W.A, a0, a1, a2, a3, c0, c1, c2, c3, j, hd, _, rfl, hAs, hinv.plan.1, hlen9.2.2.2.2.1, hlen9.2.2.2.2.2, IV, fun q e => by have := farA q e; omega, ⟨ii, hh, DV⟩, CV, OV⟩
     exact qz5p Tryz.results88 _ V (Q7b) (Q7b + 1) (Q7b + 1 + 1) rfl rfl rfl Q0q Q25 (hdC hd) _ _ _ r1 r2 r3 Tryz.underlying28 rfl qz3g Tryz.underlying33 rfl qz2x Q7d rfl (qz1 hd)
   go_loopw [14] (fun i' wr => ∃ (ck : Int) (s g n r hs cs ds ts : Value) (W : Wd), i' = .int .i64 ck /\ 0 <= ck /\ (ck <= 60 /\ W.now + (60 - ck) <= 2751) /\ WInv x y z u W /\ qzag B b b3 w0 wr a len cap x y z u s g n r hs cs ds ts W) (fun i' _ => (60 - intOf i').toNat)
   case atStart => exact ⟨0, _, _, _, _, _, _, _, _, W, rfl, by omega, ⟨by omega, by omega⟩, V1, P3⟩
   case round =>
    clear y0 y9 P3 V1 hnow
    obtain ⟨ck, s, g, n, r, hs, cs, ds, ts, W, rfl, ck0, ⟨ck1, hnow⟩, V1, P⟩ := hrel
    have hnw := V1.nw
    have hhl := V1.hl
    have hjl : j < Q7s := by omega
    obtain ⟨a0, a1, a2, a3, a4, a5, a6, a7, c0, c1, c2, c3, c4, c5, c6, c7, rfl, rfl, rfl, rfl, rfl, rfl, rfl, rfl⟩ := P.slices
    obtain ⟨hb, ho, rfl, hbl, Rh⟩ := qzq.at P.is.h (by omega)
    have Eh := qze (f := hdC) (sz := 22) (fun _ => rfl) Rh j hjl
    have y9 : wr.cell? ⟨b3, 9, none⟩ = some Q5a := P.cell 9 rfl
    have e0 : wr.cell? ⟨hb, ho + j * 22, none⟩ = some (.int .i64 W.hands[j].at_) := by have := Eh 0 (.int .i64 W.hands[j].at_) rfl; simpa using this
    have hk1 : (j : Int) < (Q7s : Int) := by omega
    have hk0 : (0 : Int) <= (j : Int) := by omega
    clear Rh
    obtain ⟨hd, hhd⟩ : ∃ hd, Hid (W.hands[j] = hd) := ⟨W.hands[j], (rfl : W.hands[j] = W.hands[j])⟩
    rw [hhd.out] at Eh e0
    by_cases hpos : ck < 60
    case neg =>
     have hlast : ¬ (ck < 60) := hpos
     go_wp2_with fail
     exact fin _ _ _ _ _ _ _ _ _ _ _ _ _ _ _ _ _ _ _ _ _ _ _ _ _ _ _ _ _ _ _ _ _ _ _ _ _ _ _ _ _ _ _ _ _ _ _ _ _ _ _ _ _ _ _ _ _ _ _ _ _ _ _ _ _ _ _ _ _ _ _ _ _ _ _ _ ck W _ _ _ _ _ _ _ _ _ _ _ _ _ _ _ _ hd wr hb ho rfl V1 P (fun _ => hhd.out) (by omega) Eh
    cases hin : inB hd.at_ lo hi
    case true =>
     go_wp2_with (go_at_call 63; refine (qzg _ _ _ _).mono ?_; rintro e w' ⟨rfl, hw⟩; obtain rfl := hw.symm)
     exact fin _ _ _ _ _ _ _ _ _ _ _ _ _ _ _ _ _ _ _ _ _ _ _ _ _ _ _ _ _ _ _ _ _ _ _ _ _ _ _ _ _ _ _ _ _ _ _ _ _ _ _ _ _ _ _ _ _ _ _ _ _ _ _ _ _ _ _ _ _ _ _ _ _ _ _ _ ck W _ _ _ _ _ _ _ _ _ _ _ _ _ _ _ _ hd wr hb ho rfl V1 P (fun _ => hhd.out) (by omega) Eh
    go_upto_region 11 with (go_at_call 63; refine (qzg _ _ _ _).mono ?_; rintro e w' ⟨rfl, hw⟩; obtain rfl := hw.symm)
    by_cases hat : hd.at_ = 0
    ·rw [hat] at e0
     go_wp2_with (refine Q7j rfl 53 (.tmp 70) rfl hb (ho + j * 22) rfl (hdC hd) _ ?lh Q7d rfl (qz1 hd) ?_)
     try (case lh => exact Eh)
     obtain ⟨i5, h5, D5⟩ := P.dice
     refine (qz66 B b a len cap i5 h5 hd wr hB hlen D5 P.bytes).mono ?_
     rintro e wc ⟨qc, qk, qv, i6, h6, rfl, D6, C6, O6⟩
     have Pc := P.draw hbw0 D6 C6 O6
     clear y9 e0 Eh D5 D6 C6 O6 P
     go_wp2_with (refine Q7j rfl 38 (.tmp 11) rfl b3 0 rfl Q2i _ ?lw Q83 rfl qzj ?_)
     try (case lw => exact Pc.row)
     refine (qzbv wc.heap.size x y z u W a0 a1 a2 a3 (some ⟨hb, ho, none⟩) a5 a6 a7 c0 c1 c2 c3 c4 c5 c6 c7 j hd qc qk qv wc (Q7l _) V1.small Pc.is (V1.right (by omega)) hjl hhd.out).mono ?_
     rintro e wd ⟨s2, g2, n2, r2, hs2, cs2, ds2, ts2, cd, rfl, Oa, ba⟩
     have V2 := V1.ask hjl qc qk qv
     rw [hhd.out] at V2
     have hn2 := qzdb x y z u W j hd qc qk qv
     have hA2 : (askW x y z u W j hd qc qk qv).A = W.A := qz8b x y z u W j hd qc qk qv
     have Pd := Pc.store hB hbw0 ba Oa
     have Pt := qz2 Pc.th ba Pc.hi
     rw [<- congrArg Ar.camera hA2]
     generalize askW x y z u W j hd qc qk qv = W2 at *
     clear hA2
     obtain ⟨sa, sc', rfl⟩ := qzh Oa.ar.rs
     obtain ⟨ga, gc', rfl⟩ := qzh Oa.ar.rg
     obtain ⟨na, nc', rfl⟩ := qzh Oa.ar.rn
     obtain ⟨ra, rc', rfl⟩ := qzh Oa.ar.rr
     obtain ⟨ha, hc', rfl⟩ := qzh Oa.h
     obtain ⟨ca, cc', rfl⟩ := qzh Oa.c
     obtain ⟨da, dc', rfl⟩ := qzh Oa.d
     obtain ⟨ta, tc', rfl⟩ := qzh Oa.t
     clear Oa ba Pc
     go_wp2_with (refine wpList_store_mid rfl 38 (.tmp 11) (.tmp 83) rfl b3 0 (Q0f).toArray ?sx1 ?sy1 ?st1 qzj (by simp [wdC, Value.oneCell']) ?_)
     try (case sx1 => rfl)
     try (case sy1 => rfl)
     try (case st1 => exact Pt)
     go_roundw
     case rel => exact ⟨ck + 1, _, _, _, _, _, _, _, _, W2, by go_num, by omega, ⟨by omega, by omega⟩, V2, Pd⟩
     case measure => simp [intOf]; omega
    ·have bat : (hd.at_ == 0) = false := by simp [hat]
     go_wp2_with (refine Q7j rfl 38 (.tmp 11) rfl b3 0 rfl Q2i _ ?lw2 Q83 rfl qzj ?_)
     try (case lw2 => exact P.row)
     refine (qzcc wr.heap.size x y z u W a0 a1 a2 a3 (some ⟨hb, ho, none⟩) a5 a6 a7 c0 c1 c2 c3 c4 c5 c6 c7 j hd wr (Q7l _) P.is V1 (by omega) hjl hhd.out).mono ?_
     rintro e wd ⟨s2, g2, n2, r2, hs2, cs2, ds2, ts2, W2, is, rfl, Oa, V2, hn2, -, -, ba⟩
     have Pd := P.store hB hbw0 ba Oa
     have Pt := qz2 P.th ba P.hi
     clear y9 e0 Eh
     obtain ⟨sa, sc', rfl⟩ := qzh Oa.ar.rs
     obtain ⟨ga, gc', rfl⟩ := qzh Oa.ar.rg
     obtain ⟨na, nc', rfl⟩ := qzh Oa.ar.rn
     obtain ⟨ra, rc', rfl⟩ := qzh Oa.ar.rr
     obtain ⟨ha, hc', rfl⟩ := qzh Oa.h
     obtain ⟨ca, cc', rfl⟩ := qzh Oa.c
     obtain ⟨da, dc', rfl⟩ := qzh Oa.d
     obtain ⟨ta, tc', rfl⟩ := qzh Oa.t
     clear Oa ba P bat
     go_wp2_with (refine wpList_store_mid rfl 38 (.tmp 11) (.tmp 89) rfl b3 0 (Q0f).toArray ?sx2 ?sy2 ?st2 qzj (by simp [wdC, Value.oneCell']) ?_)
     try (case sx2 => rfl)
     try (case sy2 => rfl)
     try (case st2 => exact Pt)
     go_roundw
     case rel => exact ⟨ck + 1, _, _, _, _, _, _, _, _, W2, by go_num, by omega, ⟨by omega, by omega⟩, V2, Pd⟩
     case measure => simp [intOf]; omega
end
end Go.Proofs.YthjkdnlmopafkaaGreat
