/-
  What the law's proof goes by, part 40.
-/
import Derived.Deep.Cut
import Derived.Test.YthjkdnlmopafkaaGreatFnSealed00
import Derived.Test.YthjkdnlmopafkaaGreatFnSealed38
namespace Go.Proofs.YthjkdnlmopafkaaGreat
open Go.ChangeShapes Go.WideShapes Go.ChangeAt Go.RowKit
set_option maxRecDepth 100000
set_option maxHeartbeats 16000000
set_option linter.unusedVariables false
set_option linter.unusedSimpArgs false
set_option linter.unnecessarySimpa false
set_option linter.unusedSectionVars false
section
attribute [local go_sem ↓] Go.wp_at_zero Go.wp_at_succ
structure qzak (B b : Nat) (w V : World) (a : Option Addr) (len cap : Nat) (p q s bp ba bh : Nat) (x y z u : Int) (A : Ar) (a0 a1 a2 a3 : Option Addr) (c0 c1 c2 c3 : Nat) (hd : Hd) : Prop where
 dice : ∃ i h, qz20 .i64 V b a len cap i h
 bytes : qz1p B V a len
 k1 : V.rangeAt bp 0 Q0q
 k2 : V.rangeAt ba 0 Q0j
 k5 : V.rangeAt bh 0 (hdC hd)
 th : V.there bh 0 22
 k6 : V.there p 0 4
 k7 : V.there q 0 5
 k8 : V.there s 0 22
 is : qzv V.heap.size V Q0u Q0s Q0v Q14 A
 far : ∀ m, qz90 A Q0u Q0s Q0v Q14 m -> s < m /\ m < bp
 only : Only b w V
 lo : b < Q7b /\ Q7b <= p /\ p < q /\ q < s /\ s < bp /\ bp < ba /\ ba < bh /\ bh < V.heap.size
section
variable {B b : Nat} {w V V' : World} {a : Option Addr} {len cap : Nat} {p q s bp ba bh : Nat} {x y z u : Int} {A : Ar} {a0 a1 a2 a3 : Option Addr} {c0 c1 c2 c3 : Nat} {hd : Hd}
theorem qzak.draw (P : qzak B b w V a len cap p q s bp ba bh x y z u A a0 a1 a2 a3 c0 c1 c2 c3 hd) {i' h' : Int} (D' : qz20 .i64 V' b a len cap i' h') (C' : qz1p B V' a len) (O' : Only b V V') : qzak B b w V' a len cap p q s bp ba bh x y z u A a0 a1 a2 a3 c0 c1 c2 c3 hd := by
 have l := P.lo
 exact ⟨⟨i', h', D'⟩, C', qz24 P.k1 O' (by omega) (by omega), qz24 P.k2 O' (by omega) (by omega), qz24 P.k5 O' (by omega) (by omega), qz15 P.th O' (by omega) (by omega), qz15 P.k6 O' (by omega) (by omega), qz15 P.k7 O' (by omega) (by omega), qz15 P.k8 O' (by omega) (by omega), (P.is.farN O' (Q7l _) (fun m e => by have := P.far m e; omega)).weaken O'.size, P.far, P.only.trans O', by have := O'.size; omega⟩
theorem qzak.put (P : qzak B b w V a len cap p q s bp ba bh x y z u A a0 a1 a2 a3 c0 c1 c2 c3 hd) (hB : B <= b) (k : Nat) (hk : k < 22) (v : Value) (hd' : Hd) (he : (hdC hd).set k v = hdC hd') : qzak B b w (V.setCell ⟨bh, k, none⟩ v) a len cap p q s bp ba bh x y z u A a0 a1 a2 a3 c0 c1 c2 c3 hd' := by
 have l := P.lo
 have O' : Only bh V (V.setCell ⟨bh, k, none⟩ v) := (Only.refl bh V).setCell (p := ⟨bh, k, none⟩) (Or.inl rfl) v
 obtain ⟨i, h, Dd⟩ := P.dice
 refine ⟨⟨i, h, Dd.only O' (by omega)⟩, P.bytes.below (O'.below (by omega) (by omega)), qz24 P.k1 O' (by omega) (by omega), qz24 P.k2 O' (by omega) (by omega), ?_, qz5 P.th _ _, qz15 P.k6 O' (by omega) (by omega), qz15 P.k7 O' (by omega) (by omega), qz15 P.k8 O' (by omega) (by omega), (P.is.farN O' (Q7l _) (fun m e => by have := P.far m e; omega)).weaken O'.size, P.far, qz7p P.only O' (by omega), by have := O'.size; omega⟩
 have := qzb P.k5 k (by show k < 22; exact hk) v
 rwa [he] at this
theorem qzak.hcell (P : qzak B b w V a len cap p q s bp ba bh x y z u A a0 a1 a2 a3 c0 c1 c2 c3 hd) (k : Nat) {v : Value} (h : (hdC hd)[k]? = some v) : V.cell? ⟨bh, k, none⟩ = some v := by simpa using P.k5 k v h
theorem qzak.hfree (P : qzak B b w V a len cap p q s bp ba bh x y z u A a0 a1 a2 a3 c0 c1 c2 c3 hd) (k : Nat) (h : k < 22) : V.frozen? ⟨bh, k, none⟩ = false := by simpa using (P.th k h).2
theorem qzak.acell (P : qzak B b w V a len cap p q s bp ba bh x y z u A a0 a1 a2 a3 c0 c1 c2 c3 hd) (k : Nat) {v : Value} (h : (Q0j : List Value)[k]? = some v) : V.cell? ⟨ba, k, none⟩ = some v := by simpa using P.k2 k v h
theorem qzak.pcell (P : qzak B b w V a len cap p q s bp ba bh x y z u A a0 a1 a2 a3 c0 c1 c2 c3 hd) (k : Nat) {v : Value} (h : (Q0q : List Value)[k]? = some v) : V.cell? ⟨bp, k, none⟩ = some v := by simpa using P.k1 k v h
end
def qzht (x y z u : Int) (A : Ar) (a0 a1 a2 a3 : Option Addr) (c0 c1 c2 c3 : Nat) (hd : Hd) (k clk : Int) : Nat -> Value -> Prop
 | 0, v => v = .agg Q06
 | 1, v => v = .agg Q02
 | 2, v => v = .int .i64 k
 | 3, v => v = .agg (hdC hd).toArray
 | 4, v => v = .int .i64 clk
 | 7, v => v = .int .i64 k
 | 9, v => v = .int .i64 clk
 | _, _ => True
structure qzai (wr : World) (p q s bp ba bh : Nat) (x y z u : Int) (A : Ar) (a0 a1 a2 a3 : Option Addr) (c0 c1 c2 c3 : Nat) (hd : Hd) (L : Nat -> Bool) (V : World) : Prop where
 k1 : V.rangeAt bp 0 Q0q
 k2 : V.rangeAt ba 0 Q0j
 k5 : V.rangeAt bh 0 (hdC hd)
 k6 : V.there p 0 4
 k7 : V.there q 0 5
 k8 : V.there s 0 22
 k9 : L 5 = true -> V.rangeAt p 0 Q0q
 k10 : L 6 = true -> V.rangeAt q 0 Q0j
 k11 : L 8 = true -> V.rangeAt s 0 (hdC hd)
 k12 : But (fun c => c = p ∨ c = q ∨ c = s) wr V
section
variable {wr : World} {p q s bp ba bh : Nat} {x y z u : Int} {A : Ar} {a0 a1 a2 a3 : Option Addr} {c0 c1 c2 c3 : Nat} {hd : Hd} {L : Nat -> Bool} {V : World}
theorem qzai.on (J : qzai wr p q s bp ba bh x y z u A a0 a1 a2 a3 c0 c1 c2 c3 hd L V) (i : Nat) (h1 : i ≠ 5) (h2 : i ≠ 6) (h3 : i ≠ 8) : qzai wr p q s bp ba bh x y z u A a0 a1 a2 a3 c0 c1 c2 c3 hd (onAt L i) V :=
 ⟨J.k1, J.k2, J.k5, J.k6, J.k7, J.k8, fun h => J.k9 (qz3v h1 h), fun h => J.k10 (qz3v h2 h), fun h => J.k11 (qz3v h3 h), J.k12⟩
theorem qzai.put (J : qzai wr p q s bp ba bh x y z u A a0 a1 a2 a3 c0 c1 c2 c3 hd L V) (c : Nat) (vs : List Value) (hc : c = p ∨ c = q ∨ c = s) (h1 : bp ≠ c) (h2 : ba ≠ c) (h3 : bh ≠ c) (i : Nat) (h9 : onAt L i 5 = true -> (V.setCells c 0 vs).rangeAt p 0 Q0q) (h10 : onAt L i 6 = true -> (V.setCells c 0 vs).rangeAt q 0 Q0j) (h11 : onAt L i 8 = true -> (V.setCells c 0 vs).rangeAt s 0 (hdC hd)) : qzai wr p q s bp ba bh x y z u A a0 a1 a2 a3 c0 c1 c2 c3 hd (onAt L i) (V.setCells c 0 vs) :=
 ⟨Q7t J.k1 _ _ _ (Or.inl h1), Q7t J.k2 _ _ _ (Or.inl h2), Q7t J.k5 _ _ _ (Or.inl h3), Q81 J.k6 _ _ _, Q81 J.k7 _ _ _, Q81 J.k8 _ _ _, h9, h10, h11, J.k12.trans (But.of_only (qzi c vs 0 V) hc)⟩
theorem qzai.st0 (J : qzai wr p q s bp ba bh x y z u A a0 a1 a2 a3 c0 c1 c2 c3 hd L V) (h1 : p < q /\ q < s) (h2 : s < bp /\ bp < ba /\ ba < bh) : qzai wr p q s bp ba bh x y z u A a0 a1 a2 a3 c0 c1 c2 c3 hd (onAt L 5) (V.setCells p 0 Q0q) :=
 J.put p _ (Or.inl rfl) (by omega) (by omega) (by omega) 5 (fun _ => Q7c _ _ _ _ J.k6) (fun h => Q7t (J.k10 (qz3v (by decide) h)) _ _ _ (Or.inl (by omega))) (fun h => Q7t (J.k11 (qz3v (by decide) h)) _ _ _ (Or.inl (by omega)))
theorem qzai.st1 (J : qzai wr p q s bp ba bh x y z u A a0 a1 a2 a3 c0 c1 c2 c3 hd L V) (h1 : p < q /\ q < s) (h2 : s < bp /\ bp < ba /\ ba < bh) : qzai wr p q s bp ba bh x y z u A a0 a1 a2 a3 c0 c1 c2 c3 hd (onAt L 6) (V.setCells q 0 Q0j) :=
 J.put q _ (Or.inr (Or.inl rfl)) (by omega) (by omega) (by omega) 6 (fun h => Q7t (J.k9 (qz3v (by decide) h)) _ _ _ (Or.inl (by omega))) (fun _ => Q7c _ _ _ _ J.k7) (fun h => Q7t (J.k11 (qz3v (by decide) h)) _ _ _ (Or.inl (by omega)))
theorem qzai.st2 (J : qzai wr p q s bp ba bh x y z u A a0 a1 a2 a3 c0 c1 c2 c3 hd L V) (h1 : p < q /\ q < s) (h2 : s < bp /\ bp < ba /\ ba < bh) : qzai wr p q s bp ba bh x y z u A a0 a1 a2 a3 c0 c1 c2 c3 hd (onAt L 8) (V.setCells s 0 (hdC hd)) :=
 J.put s _ (Or.inr (Or.inr rfl)) (by omega) (by omega) (by omega) 8 (fun h => Q7t (J.k9 (qz3v (by decide) h)) _ _ _ (Or.inl (by omega))) (fun h => Q7t (J.k10 (qz3v (by decide) h)) _ _ _ (Or.inl (by omega))) (fun _ => Q7c _ _ _ _ J.k8)
end
theorem qza3 (B b : Nat) (a : Option Addr) (len cap : Nat) (i h : Int) (lo hi : Int) (w : World) (hB : B <= b) (hlen : len <= 4096) (D : qz20 .i64 w b a len cap i h) (C : qz1p B w a len) (hlh : lo <= hi) (hlo : -100000 <= lo) (hhi : hi <= 100000) :
  Calls Tryz.prog 46 Q6p w fun e w' => qzgn B b w a len cap e w' := by
 have hbw := D.blk
 have RP := Q80 (Q80 (qza w Q4o 28 4 (by decide)) (.cells Q0h 33)) (.cells Q00 53)
 have RA := Q80 (qza (w.alloc Q15) Q0h 33 5 (by decide)) (.cells Q00 53)
 have RH := qza Q5p Q00 53 22 (by decide)
 have D0 := ((D.alloc Q15).alloc (.cells Q0h 33)).alloc (.cells Q00 53)
 have C0 := ((C.alloc (by omega) Q15).alloc (by simp; omega) (.cells Q0h 33)).alloc (by simp; omega) (.cells Q00 53)
 have O0 := (((Only.refl b w).alloc Q15).alloc (.cells Q0h 33)).alloc (.cells Q00 53)
 have hz0 : ((Q5p).alloc (.cells Q00 53)).heap.size = Q7b + 1 + 1 + 1 := by simp
 simp only [World.size_alloc] at RA RH
 go_enter Tryz.func46, Tryz.ntmps46
 go_upto_region 1 with fail
 generalize hw0 : (Q5p).alloc (.cells Q00 53) = w0 at *
 clear hw0
 have hz0' : Q7b + 1 + 1 < Q7r := by omega
 have hbw0 : b < Q7r := by omega
 have hz0'' : Q7r <= Q7b + 1 + 1 + 1 := by omega
 replace hz0 : Q7b <= Q7r := by omega
 go_wp2_with fail
 refine (qzds B b a len cap i h lo hi w0 hB hlen D0 C0).mono ?_
 rintro e w1 ⟨x, y, z, u, A, a0, a1, a2, a3, c0, c1, c2, c3, k, hd, clk, rfl, hAs, hx, hnl, hvl, I1, far1, ⟨i1, h1, D1⟩, C1, O1⟩
 have hz1 := O1.size
 have T1 := Q80 (Q80 (qza w1 Q4o 28 4 (by decide)) (.cells Q0h 33)) (.cells Q00 53)
 have T2 := Q80 (qza (w1.alloc Q15) Q0h 33 5 (by decide)) (.cells Q00 53)
 have T3 := qza Q74 Q00 53 22 (by decide)
 have al := (((Q7g Q7k w1).alloc (Q7l _) Q15).alloc (by simp) (.cells Q0h 33)).alloc (by simp; omega) (.cells Q00 53)
 have hzA : (Q5j).heap.size = Q7k + 1 + 1 + 1 := by simp
 simp only [World.size_alloc] at T2 T3
 have tok : True := trivial
 go_wp2_with (clear tok; refine qz1q Q5j ?_)
 generalize hwA : (Q74).alloc (.cells Q00 53) = wA at *
 clear hwA
 show wpList _ _ _ _ _ wA
 have hzA' : Q7k + 1 + 1 < wA.heap.size := by omega
 clear hzA
 have al5 : Below Q7k w1 ((((wA).setCells (Q7k) 0 Q0q).setCells (Q7k + 1) 0 Q0j).setCells (Q7k + 1 + 1) 0 (hdC hd)) := Below.setCells (by omega) _ _ _ (Below.setCells (by omega) _ _ _ (Below.setCells (by omega) _ _ _ al))
 have hz5 : Q7k + 1 + 1 < (((((wA).setCells (Q7k) 0 Q0q).setCells (Q7k + 1) 0 Q0j).setCells (Q7k + 1 + 1) 0 (hdC hd))).heap.size := by rw [qzn, qzn, qzn]; omega
 have H5 : qzak B b w ((((wA).setCells (Q7k) 0 Q0q).setCells (Q7k + 1) 0 Q0j).setCells (Q7k + 1 + 1) 0 (hdC hd)) a len cap (Q7b) (Q7b + 1) (Q7b + 1 + 1) (Q7k) (Q7k + 1) (Q7k + 1 + 1) x y z u A a0 a1 a2 a3 c0 c1 c2 c3 hd :=
  ⟨⟨i1, h1, D1.below al5⟩, C1.below (al5.mono (by have := D1.blk; omega)), Q7t (Q7t (Q7c _ _ _ _ T1) _ _ _ (Or.inl (by omega))) _ _ _ (Or.inl (by omega)), Q7t (Q7c _ _ _ _ (Q81 T2 _ _ _)) _ _ _ (Or.inl (by omega)), Q7c _ _ _ _ (Q81 (Q81 T3 _ _ _) _ _ _), Q81 (Q81 (Q81 T3 _ _ _) _ _ _) _ _ _,
   qz2 (qz15 RP O1 (by omega) (by omega)) al5 (by omega), qz2 (qz15 RA O1 (by omega) (by omega)) al5 (by omega), qz2 (qz15 RH O1 (by omega) (by omega)) al5 (by omega), (I1.below al5).weaken al5.size, fun m e => ⟨by have := far1 m e; omega, by rcases e with e | e | e | e; exact qz46 I1.s e; exact qz46 I1.g e; exact qz46 I1.n e; exact qz46 I1.r e⟩, (O0.trans O1).trans (Only.of_below al5), by omega⟩
 have T2' := Q81 T2 (Q7k) 0 Q0q
 have T3' := Q81 (Q81 T3 (Q7k) 0 Q0q) (Q7k + 1) 0 Q0j
 clear al5 al I1 far1 D1 C1 O1 RP RA RH D0 C0 O0 D C T2 T3 hz5
 refine Q7e rfl 28 (.tmp 11) (.tmp 21) rfl (Q7k) 0 Q06 rfl rfl T1 qz3g (by simp [Value.oneCell']) ?_
 refine Q7e rfl 33 (.tmp 12) (.tmp 22) rfl (Q7k + 1) 0 Q02 rfl rfl T2' qz2x (by simp [Value.oneCell']) ?_
 go_wp2_with (refine Q7e rfl 53 (.tmp 14) (.tmp 24) rfl (Q7k + 1 + 1) 0 (hdC hd).toArray ?s3x ?s3y ?s3t (qz7 hd) (qzd hd) ?_)
 all_goals (first | exact T3' | exact rfl | skip)
 rename_i K2 h2 K1 h1 K0 h0
 generalize hW5 : ((((wA).setCells (Q7k) 0 Q0q).setCells (Q7k + 1) 0 Q0j).setCells (Q7k + 1 + 1) 0 (hdC hd)) = W5 at *
 clear hW5 T2' T3' T1 hzA'
 have fin : ∀ (v16 v17 v18 v19 v20 v21 v22 v23 v24 v25 v26 v27 v28 v29 v30 v31 v32 v33 v34 v35 v36 v37 v38 v39 v40 v41 v42 v43 v44 v45 v46 v47 v48 v49 v50 v51 v52 v53 v54 v55 v56 v57 v58 v59 v60 v61 v62 v63 v64 v65 v66 v67 v68 v69 v70 v71 v72 v73 v74 v75 v76 v77 v78 v79 v80 : Value) (k clk : Int) (hd : Hd) (V : World), qzak B b w V a len cap (Q7b) (Q7b + 1) (Q7b + 1 + 1) (Q7k) (Q7k + 1) (Q7k + 1 + 1) x y z u A a0 a1 a2 a3 c0 c1 c2 c3 hd -> K2 { tmps := #[.pointer (some ⟨b, 0, none⟩), .int .i64 lo, .int .i64 hi, undef, undef, undef, .pointer (some ⟨Q7b, 0, none⟩), .pointer (some ⟨Q7b + 1, 0, none⟩), .int .i64 0, .pointer (some ⟨Q7b + 1 + 1, 0, none⟩), .int .i64 0, .pointer (some ⟨Q7k, 0, none⟩), .pointer (some ⟨Q7k + 1, 0, none⟩), .int .i64 k, .pointer (some ⟨Q7k + 1 + 1, 0, none⟩), .int .i64 clk, v16, v17, v18, v19, v20, v21, v22, v23, v24, v25, v26, v27, v28, v29, v30, v31, v32, v33, v34, v35, v36, v37, v38, v39, v40, v41, v42, v43, v44, v45, v46, v47, v48, v49, v50, v51, v52, v53, v54, v55, v56, v57, v58, v59, v60, v61, v62, v63, v64, v65, v66, v67, v68, v69, v70, v71, v72, v73, v74, v75, v76, v77, v78, v79, v80, undef, undef, undef, undef, undef], defers := [] } V := by
  intro v16 v17 v18 v19 v20 v21 v22 v23 v24 v25 v26 v27 v28 v29 v30 v31 v32 v33 v34 v35 v36 v37 v38 v39 v40 v41 v42 v43 v44 v45 v46 v47 v48 v49 v50 v51 v52 v53 v54 v55 v56 v57 v58 v59 v60 v61 v62 v63 v64 v65 v66 v67 v68 v69 v70 v71 v72 v73 v74 v75 v76 v77 v78 v79 v80 k clk hd V P
  refine h2 _ _ ?_
  clear h2 h1 h0 H5
  go_wp2_with fail
  have hlo := P.lo
  refine qz6a 10 (by kernel_rfl) (qzai V (Q7b) (Q7b + 1) (Q7b + 1 + 1) (Q7k) (Q7k + 1) (Q7k + 1 + 1) x y z u A a0 a1 a2 a3 c0 c1 c2 c3 hd) ⟨P.k1, P.k2, P.k5, P.k6, P.k7, P.k8, (fun h => by cases h), (fun h => by cases h), (fun h => by cases h), ⟨rfl, rfl, rfl, Q7l _, fun _ _ _ => rfl⟩⟩ (fun _ i v _ => qzht x y z u A a0 a1 a2 a3 c0 c1 c2 c3 hd k clk i v) (by kernel_rfl) (by kernel_rfl) (by kernel_rfl) (by kernel_rfl) (by rfl) ?step ?final
  case step =>
   intro i o hik ho' L aa V hLi hLk hcl J hnn hd' K hK
   obtain ⟨j1, j2, j5, j6, j7, j8, j9, j10, j11, j12⟩ := id J
   match i, ho' with
   | 0, ho' =>
    obtain rfl := Q7i ho'
    exact qz2d 28 (.tmp 11) rfl (Q7k) 0 (hnn 11 rfl) Q0q _ j1 Tryz.underlying28 rfl qz3g (hK _ _ rfl (J.on 0 (by decide) (by decide) (by decide)) (fun j v' _ _ q => q))
   | 1, ho' =>
    obtain rfl := Q7i ho'
    exact qz2d 33 (.tmp 12) rfl (Q7k + 1) 0 (hnn 12 rfl) Q0j _ j2 Tryz.underlying33 rfl qz2x (hK _ _ rfl (J.on 1 (by decide) (by decide) (by decide)) (fun j v' _ _ q => q))
   | 2, ho' =>
    obtain rfl := Q7i ho'
    have e13 : aa.eval (.tmp 13) = .int .i64 k := hnn 13 rfl
    refine qz4 (v := .int .i64 k) (w' := V) ?_ (hK _ _ rfl (J.on 2 (by decide) (by decide) (by decide)) (fun j v' _ _ q => q))
    clear J j1 j2 j5 j6 j7 j8 j9 j10 j11 j12
    generalize aa.eval = ev at *
    go_simp
   | 3, ho' =>
    obtain rfl := Q7i ho'
    exact qz2d 53 (.tmp 14) rfl (Q7k + 1 + 1) 0 (hnn 14 rfl) (hdC hd) _ j5 Q7d rfl (qz1 hd) (hK _ _ rfl (J.on 3 (by decide) (by decide) (by decide)) (fun j v' _ _ q => q))
   | 4, ho' =>
    obtain rfl := Q7i ho'
    have e15 : aa.eval (.tmp 15) = .int .i64 clk := hnn 15 rfl
    refine qz4 (v := .int .i64 clk) (w' := V) ?_ (hK _ _ rfl (J.on 4 (by decide) (by decide) (by decide)) (fun j v' _ _ q => q))
    clear J j1 j2 j5 j6 j7 j8 j9 j10 j11 j12
    generalize aa.eval = ev at *
    go_simp
   | 5, ho' =>
    obtain rfl := Q7i ho'
    refine wp_store_mid 28 (.tmp 6) (.tmp 81) rfl (Q7b) 0 Q06 (hnn 6 rfl) (hd' ⟨0, .data⟩ (by simp) rfl 81 rfl).2 j6 qz3g (by simp [Value.oneCell']) ?_
    exact hK _ _ trivial (J.st0 (by omega) (by omega)) (fun j v' _ _ q => q)
   | 6, ho' =>
    obtain rfl := Q7i ho'
    refine wp_store_mid 33 (.tmp 7) (.tmp 82) rfl (Q7b + 1) 0 Q02 (hnn 7 rfl) (hd' ⟨1, .data⟩ (by simp) rfl 82 rfl).2 j7 qz2x (by simp [Value.oneCell']) ?_
    exact hK _ _ trivial (J.st1 (by omega) (by omega)) (fun j v' _ _ q => q)
   | 7, ho' =>
    obtain rfl := Q7i ho'
    have e83 : aa.eval (.tmp 83) = .int .i64 k := (hd' ⟨2, .data⟩ (by simp) rfl 83 rfl).2
    refine qz4 (v := .int .i64 k) (w' := V) ?_ (hK _ _ rfl (J.on 7 (by decide) (by decide) (by decide)) (fun j v' _ _ q => q))
    clear J j1 j2 j5 j6 j7 j8 j9 j10 j11 j12
    generalize aa.eval = ev at *
    go_simp
   | 8, ho' =>
    obtain rfl := Q7i ho'
    refine wp_store_mid 53 (.tmp 9) (.tmp 84) rfl (Q7b + 1 + 1) 0 (hdC hd).toArray (hnn 9 rfl) (hd' ⟨3, .data⟩ (by simp) rfl 84 rfl).2 j8 (qz7 hd) (qzd hd) ?_
    exact hK _ _ trivial (J.st2 (by omega) (by omega)) (fun j v' _ _ q => q)
   | 9, ho' =>
    obtain rfl := Q7i ho'
    have e85 : aa.eval (.tmp 85) = .int .i64 clk := (hd' ⟨4, .data⟩ (by simp) rfl 85 rfl).2
    refine qz4 (v := .int .i64 clk) (w' := V) ?_ (hK _ _ rfl (J.on 9 (by decide) (by decide) (by decide)) (fun j v' _ _ q => q))
    clear J j1 j2 j5 j6 j7 j8 j9 j10 j11 j12
    generalize aa.eval = ev at *
    go_simp
   | n + 10, ho' => omega
  case final =>
   intro L vs V' hLall J hG
   have g7 : vs 7 = .int .i64 k := hG 7 (by decide)
   have g9 : vs 9 = .int .i64 clk := hG 9 (by decide)
   have r1 := J.k9 (hLall 5 (by decide))
   have r2 := J.k10 (hLall 6 (by decide))
   have r3 := J.k11 (hLall 8 (by decide))
   generalize hl : laid _ vs _ _ _ = A'
   have hA' : A' = { tmps := #[.pointer (some ⟨b, 0, none⟩), .int .i64 lo, .int .i64 hi, undef, undef, undef, .pointer (some ⟨Q7b, 0, none⟩), .pointer (some ⟨Q7b + 1, 0, none⟩), vs 7, .pointer (some ⟨Q7b + 1 + 1, 0, none⟩), vs 9, .pointer (some ⟨Q7k, 0, none⟩), .pointer (some ⟨Q7k + 1, 0, none⟩), .int .i64 k, .pointer (some ⟨Q7k + 1 + 1, 0, none⟩), .int .i64 clk, v16, v17, v18, v19, v20, v21, v22, v23, v24, v25, v26, v27, v28, v29, v30, v31, v32, v33, v34, v35, v36, v37, v38, v39, v40, v41, v42, v43, v44, v45, v46, v47, v48, v49, v50, v51, v52, v53, v54, v55, v56, v57, v58, v59, v60, v61, v62, v63, v64, v65, v66, v67, v68, v69, v70, v71, v72, v73, v74, v75, v76, v77, v78, v79, v80, vs 0, vs 1, vs 2, vs 3, vs 4], defers := [] } := by
    rw [<- hl]
    kernel_rfl
   subst hA'
   rw [g7, g9]
   clear hl hG g7 g9
   simp only [List.drop_succ_cons, List.drop_zero]
   have hBt := J.k12
   have hOs := P.only.size
   have bel : Below Q7b V V' := hBt.below (by omega) (fun q hq => by omega)
   obtain ⟨ii, hh, Dd⟩ := P.dice
   have IV : qzv V'.heap.size V' Q0u Q0s Q0v Q14 A := (P.is.butN hBt (Q7l _) (fun q e h => by have := P.far q e; omega)).weaken hBt.size
   have DV : qz20 .i64 V' b a len cap ii hh := ⟨(bel.cell (p := ⟨b, 0, none⟩) hbw).trans Dd.c0, (bel.cell (p := ⟨b, 1, none⟩) hbw).trans Dd.c1, (bel.cell (p := ⟨b, 2, none⟩) hbw).trans Dd.c2, (bel.frozen (p := ⟨b, 1, none⟩) hbw).trans Dd.f1, (bel.frozen (p := ⟨b, 2, none⟩) hbw).trans Dd.f2, Dd.lo, Dd.hi, Q7o Dd.blk hBt.size⟩
   have OV : Only b w V' := ⟨bel.os.trans P.only.os, bel.tape.trans P.only.tape, bel.output.trans P.only.output, by have := hBt.size; omega, fun q hq hn => (bel.block q hq).trans (P.only.block q hq hn)⟩
   have CV := P.bytes.below (bel.mono (by omega))
   have farA : ∀ q, qz90 A Q0u Q0s Q0v Q14 q -> Q7b <= q := fun q e => by have := P.far q e; omega
   clear J hBt bel Dd P
   go_wp2_with fail
   refine bodyPost_ret (v := .tuple #[.agg (Q06 : Array Value), .agg Q02, .int .i64 k, .agg (hdC hd).toArray, .int .i64 clk]) ?_ rfl ⟨x, y, z, u, A, a0, a1, a2, a3, c0, c1, c2, c3, k, hd, clk, rfl, hAs, hx, hnl, hvl, IV, farA, ⟨ii, hh, DV⟩, CV, OV⟩
   exact qz5p Tryz.results46 _ V' (Q7b) (Q7b + 1) (Q7b + 1 + 1) rfl rfl rfl Q0q Q0j (hdC hd) _ _ _ r1 r2 r3 Tryz.underlying28 rfl qz3g Tryz.underlying33 rfl qz2x Q7d rfl (qz1 hd)
 clear h2
 clear hz0 hz0' hz0'' hbw0 hz1
 obtain ⟨i5, h5, D5⟩ := H5.dice
 refine (qz4u B b a len cap i5 h5 5 W5 hB hlen D5 H5.bytes (by omega) (by omega)).mono ?_
 rintro e w2 ⟨r, i6, h6, rfl, D6, C6, O6⟩
 have H6 := H5.draw D6 C6 O6
 clear D5 O6 C6 D6 H5
 cases r
 ·go_wp2_with fail
  exact fin _ _ _ _ _ _ _ _ _ _ _ _ _ _ _ _ _ _ _ _ _ _ _ _ _ _ _ _ _ _ _ _ _ _ _ _ _ _ _ _ _ _ _ _ _ _ _ _ _ _ _ _ _ _ _ _ _ _ _ _ _ _ _ _ _ k clk hd w2 H6
 go_wp2_with fail
 obtain ⟨i7, h7, D7⟩ := H6.dice
 refine (qz13 B b a len cap i7 h7 8 w2 hB hlen D7 H6.bytes (by omega) (by omega)).mono ?_
 rintro e w3 ⟨r, i8, h8, rfl, r0, r1, D8, C8, O8⟩
 have H7 := H6.draw D8 C8 O8
 clear D7 O8 C8 D8 H6
 obtain ⟨i9, h9, D9⟩ := H7.dice
 have c9 := H7.bytes
 rcases (by omega : r = 0 ∨ r = 1 ∨ r = 2 ∨ r = 3 ∨ r = 4 ∨ r = 5 ∨ r = 6 ∨ r = 7) with rfl | rfl | rfl | rfl | rfl | rfl | rfl | rfl
 ·clear r0 r1
  have cR := H7.acell 3 rfl
  go_wp2_with fail
  refine (qz3r B b a len cap i9 h9 (-1) (Q7f : Int) w3 hB hlen D9 c9 (by omega) (by omega) (by omega)).mono ?_
  rintro e w4 ⟨v, i4, h4, rfl, v0, v1, D4, C4, O4⟩
  have H8 := H7.draw D4 C4 O4
  clear D9 O4 C4 D4 H7 c9
  clear cR
  clear v0 v1
  have H9 := H8.put hB 10 (by omega) (.int .i64 v) { hd with x_ := v } rfl
  have cC := H8.hcell 10 rfl
  have cF := H8.hfree 10 (by omega)
  clear H8
  go_wp2_with fail
  exact fin _ _ _ _ _ _ _ _ _ _ _ _ _ _ _ _ _ _ _ _ _ _ _ _ _ _ _ _ _ _ _ _ _ _ _ _ _ _ _ _ _ _ _ _ _ _ _ _ _ _ _ _ _ _ _ _ _ _ _ _ _ _ _ _ _ k clk _ _ H9
 ·clear r0 r1
  have cR := H7.acell 4 rfl
  go_wp2_with fail
  refine (qz3r B b a len cap i9 h9 (-1) (Q7h : Int) w3 hB hlen D9 c9 (by omega) (by omega) (by omega)).mono ?_
  rintro e w4 ⟨v, i4, h4, rfl, v0, v1, D4, C4, O4⟩
  have H8 := H7.draw D4 C4 O4
  clear D9 O4 C4 D4 H7 c9
  clear cR
  clear v0 v1
  have H9 := H8.put hB 11 (by omega) (.int .i64 v) { hd with ver := v } rfl
  have cC := H8.hcell 11 rfl
  have cF := H8.hfree 11 (by omega)
  clear H8
  go_wp2_with fail
  exact fin _ _ _ _ _ _ _ _ _ _ _ _ _ _ _ _ _ _ _ _ _ _ _ _ _ _ _ _ _ _ _ _ _ _ _ _ _ _ _ _ _ _ _ _ _ _ _ _ _ _ _ _ _ _ _ _ _ _ _ _ _ _ _ _ _ k clk _ _ H9
 ·clear r0 r1
  go_wp2_with fail
  refine (qz3r B b a len cap i9 h9 (-1) 8 w3 hB hlen D9 c9 (by omega) (by omega) (by omega)).mono ?_
  rintro e w4 ⟨v, i4, h4, rfl, v0, v1, D4, C4, O4⟩
  have H8 := H7.draw D4 C4 O4
  clear D9 O4 C4 D4 H7 c9
  clear v0 v1
  have H9 := H8.put hB 1 (by omega) (.int .i64 v) { hd with then_ := v } rfl
  have cC := H8.hcell 1 rfl
  have cF := H8.hfree 1 (by omega)
  clear H8
  go_wp2_with fail
  exact fin _ _ _ _ _ _ _ _ _ _ _ _ _ _ _ _ _ _ _ _ _ _ _ _ _ _ _ _ _ _ _ _ _ _ _ _ _ _ _ _ _ _ _ _ _ _ _ _ _ _ _ _ _ _ _ _ _ _ _ _ _ _ _ _ _ k clk _ _ H9
 ·clear r0 r1
  go_wp2_with fail
  refine (qz3r B b a len cap i9 h9 0 8 w3 hB hlen D9 c9 (by omega) (by omega) (by omega)).mono ?_
  rintro e w4 ⟨v, i4, h4, rfl, v0, v1, D4, C4, O4⟩
  have H8 := H7.draw D4 C4 O4
  clear D9 O4 C4 D4 H7 c9
  clear v0 v1
  have H9 := H8.put hB 2 (by omega) (.int .i64 v) { hd with code := v } rfl
  have cC := H8.hcell 2 rfl
  have cF := H8.hfree 2 (by omega)
  clear H8
  go_wp2_with fail
  exact fin _ _ _ _ _ _ _ _ _ _ _ _ _ _ _ _ _ _ _ _ _ _ _ _ _ _ _ _ _ _ _ _ _ _ _ _ _ _ _ _ _ _ _ _ _ _ _ _ _ _ _ _ _ _ _ _ _ _ _ _ _ _ _ _ _ k clk _ _ H9
 ·clear r0 r1
  have cR := H7.acell 3 rfl
  go_wp2_with fail
  refine (qz3r B b a len cap i9 h9 (-1) (Q7f : Int) w3 hB hlen D9 c9 (by omega) (by omega) (by omega)).mono ?_
  rintro e w4 ⟨v, i4, h4, rfl, v0, v1, D4, C4, O4⟩
  have H8 := H7.draw D4 C4 O4
  clear D9 O4 C4 D4 H7 c9
  clear cR
  clear v0 v1
  have H9 := H8.put hB 16 (by omega) (.int .i64 v) { hd with curr := v } rfl
  have cC := H8.hcell 16 rfl
  have cF := H8.hfree 16 (by omega)
  clear H8
  go_wp2_with fail
  exact fin _ _ _ _ _ _ _ _ _ _ _ _ _ _ _ _ _ _ _ _ _ _ _ _ _ _ _ _ _ _ _ _ _ _ _ _ _ _ _ _ _ _ _ _ _ _ _ _ _ _ _ _ _ _ _ _ _ _ _ _ _ _ _ _ _ k clk _ _ H9
 ·clear r0 r1
  go_wp2_with fail
  refine (qzf6 B b a len cap i9 h9 20000 w3 hB hlen D9 c9 (by omega) (by omega)).mono ?_
  rintro e w4 ⟨v, i4, h4, rfl, D4, C4, O4⟩
  have H8 := H7.draw D4 C4 O4
  clear D9 O4 C4 D4 H7 c9
  go_wp2_with fail
  exact fin _ _ _ _ _ _ _ _ _ _ _ _ _ _ _ _ _ _ _ _ _ _ _ _ _ _ _ _ _ _ _ _ _ _ _ _ _ _ _ _ _ _ _ _ _ _ _ _ _ _ _ _ _ _ _ _ _ _ _ _ _ _ _ _ _ k v hd _ H8
 ·clear r0 r1
  have cR := H7.pcell 0 rfl
  go_wp2_with fail
  refine (qz3r B b a len cap i9 h9 (-1) x w3 hB hlen D9 c9 (by omega) (by omega) (by omega)).mono ?_
  rintro e w4 ⟨v, i4, h4, rfl, v0, v1, D4, C4, O4⟩
  have H8 := H7.draw D4 C4 O4
  clear D9 O4 C4 D4 H7 c9
  clear cR
  clear v0 v1
  go_wp2_with fail
  exact fin _ _ _ _ _ _ _ _ _ _ _ _ _ _ _ _ _ _ _ _ _ _ _ _ _ _ _ _ _ _ _ _ _ _ _ _ _ _ _ _ _ _ _ _ _ _ _ _ _ _ _ _ _ _ _ _ _ _ _ _ _ _ _ _ _ v clk hd _ H8
 ·clear r0 r1
  go_wp2_with fail
  refine (qz3r B b a len cap i9 h9 lo hi w3 hB hlen D9 c9 (by omega) (by omega) (by omega)).mono ?_
  rintro e w4 ⟨v, i4, h4, rfl, v0, v1, D4, C4, O4⟩
  have H8 := H7.draw D4 C4 O4
  clear D9 O4 C4 D4 H7 c9
  clear v0 v1
  have H9 := H8.put hB 0 (by omega) (.int .i64 v) { hd with at_ := v } rfl
  have cC := H8.hcell 0 rfl
  have cF := H8.hfree 0 (by omega)
  clear H8
  go_wp2_with fail
  exact fin _ _ _ _ _ _ _ _ _ _ _ _ _ _ _ _ _ _ _ _ _ _ _ _ _ _ _ _ _ _ _ _ _ _ _ _ _ _ _ _ _ _ _ _ _ _ _ _ _ _ _ _ _ _ _ _ _ _ _ _ _ _ _ _ _ k clk _ _ H9
end
end Go.Proofs.YthjkdnlmopafkaaGreat
