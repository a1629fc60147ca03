/-
  What the law's proof goes by, part 40.
-/
import Derived.Test.YtclkglkhhnapiaaGreatFnWent00
import Derived.Test.YtclkglkhhnapiaaGreatFnWent38
namespace Go.Proofs.YtclkglkhhnapiaaGreat
open Go.ChangeShapes Go.WideShapes Go.ChangeAt Go.RowKit
set_option maxRecDepth 100000
set_option maxHeartbeats 16000000
set_option linter.unusedVariables false
set_option linter.unusedSimpArgs false
set_option linter.unnecessarySimpa false
set_option linter.unusedSectionVars false
section
attribute [local go_sem ↓] Go.wp_at_zero Go.wp_at_succ
structure qz6y (n1 n2 n3 : Nat) (B b : Nat) (wr : World) (a : Option Addr) (len cap : Nat) (p q s bp ba bh : Nat) (x y z u : Int) (A : Ar) (a0 a1 a2 a3 : Option Addr) (c0 c1 c2 c3 : Nat) (hd : Hd) (L : Nat -> Bool) (V : World) : Prop where
 dice : ∃ i h, qz1s .i64 V b a len cap i h
 bytes : qz1h B V a len
 k1 : V.rangeAt bp 0 Q0n
 k2 : V.rangeAt ba 0 Q0j
 k5 : V.rangeAt bh 0 (hdC hd)
 k6 : V.there p 0 4
 k7 : V.there q 0 5
 k8 : V.there s 0 22
 k9 : L n1 = true -> V.rangeAt p 0 Q0n
 k10 : L n2 = true -> V.rangeAt q 0 Q0j
 k11 : L n3 = true -> V.rangeAt s 0 (hdC hd)
 k12 : But (fun c => c = p ∨ c = q ∨ c = s ∨ c = b) wr V
 lo : B <= p /\ p < q /\ q < s /\ s < b /\ b < bp /\ bp < ba /\ ba < bh /\ bh < wr.heap.size
 ne : n1 ≠ n2 /\ n1 ≠ n3 /\ n2 ≠ n3
section
variable {n1 n2 n3 : Nat} {B b : Nat} {wr : World} {a : Option Addr} {len cap : Nat} {p q s bp ba bh : Nat} {x y z u : Int} {A : Ar} {a0 a1 a2 a3 : Option Addr} {c0 c1 c2 c3 : Nat} {hd : Hd} {L : Nat -> Bool} {V V' : World}
theorem qz6y.on (J : qz6y n1 n2 n3 B b wr a len cap p q s bp ba bh x y z u A a0 a1 a2 a3 c0 c1 c2 c3 hd L V) (i : Nat) (h1 : i ≠ n1) (h2 : i ≠ n2) (h3 : i ≠ n3) : qz6y n1 n2 n3 B b wr a len cap p q s bp ba bh x y z u A a0 a1 a2 a3 c0 c1 c2 c3 hd (onAt L i) V :=
 ⟨J.dice, J.bytes, J.k1, J.k2, J.k5, J.k6, J.k7, J.k8, fun h => J.k9 (qz2c h1 h), fun h => J.k10 (qz2c h2 h), fun h => J.k11 (qz2c h3 h), J.k12, J.lo, J.ne⟩
theorem qz6y.draw (J : qz6y n1 n2 n3 B b wr a len cap p q s bp ba bh x y z u A a0 a1 a2 a3 c0 c1 c2 c3 hd L V) (i : Nat) (h1 : i ≠ n1) (h2 : i ≠ n2) (h3 : i ≠ n3) {i' h' : Int} (D' : qz1s .i64 V' b a len cap i' h') (C' : qz1h B V' a len) (O' : Only b V V') : qz6y n1 n2 n3 B b wr a len cap p q s bp ba bh x y z u A a0 a1 a2 a3 c0 c1 c2 c3 hd (onAt L i) V' := by
 have l := J.lo
 have hz := J.k12.size
 exact ⟨⟨i', h', D'⟩, C', qz17 J.k1 O' (by omega) (by omega), qz17 J.k2 O' (by omega) (by omega), qz17 J.k5 O' (by omega) (by omega), qzx J.k6 O' (by omega) (by omega), qzx J.k7 O' (by omega) (by omega), qzx J.k8 O' (by omega) (by omega), fun h => qz17 (J.k9 (qz2c h1 h)) O' (by omega) (by omega), fun h => qz17 (J.k10 (qz2c h2 h)) O' (by omega) (by omega), fun h => qz17 (J.k11 (qz2c h3 h)) O' (by omega) (by omega), J.k12.trans (But.of_only O' (Or.inr (Or.inr (Or.inr rfl)))), l, J.ne⟩
theorem qz6y.put (J : qz6y n1 n2 n3 B b wr a len cap p q s bp ba bh x y z u A a0 a1 a2 a3 c0 c1 c2 c3 hd L V) (c : Nat) (vs : List Value) (hc : c = p ∨ c = q ∨ c = s) (i : Nat) (h9 : onAt L i n1 = true -> (V.setCells c 0 vs).rangeAt p 0 Q0n) (h10 : onAt L i n2 = true -> (V.setCells c 0 vs).rangeAt q 0 Q0j) (h11 : onAt L i n3 = true -> (V.setCells c 0 vs).rangeAt s 0 (hdC hd)) : qz6y n1 n2 n3 B b wr a len cap p q s bp ba bh x y z u A a0 a1 a2 a3 c0 c1 c2 c3 hd (onAt L i) (V.setCells c 0 vs) := by
 have l := J.lo
 have O' := qzj c vs 0 V
 have hz := J.k12.size
 obtain ⟨i', h', Dd⟩ := J.dice
 have hcb : c < b /\ c < bp /\ B <= c := by omega
 exact ⟨⟨i', h', Dd.only O' (by omega)⟩, J.bytes.below (O'.below (by omega) (by omega)), World.rangeAt_setCells_apart J.k1 _ _ _ (Or.inl (by omega)), World.rangeAt_setCells_apart J.k2 _ _ _ (Or.inl (by omega)), World.rangeAt_setCells_apart J.k5 _ _ _ (Or.inl (by omega)), World.there_setCells J.k6 _ _ _, World.there_setCells J.k7 _ _ _, World.there_setCells J.k8 _ _ _, h9, h10, h11, J.k12.trans (But.of_only O' (by omega)), l, J.ne⟩
theorem qz6y.st0 (J : qz6y n1 n2 n3 B b wr a len cap p q s bp ba bh x y z u A a0 a1 a2 a3 c0 c1 c2 c3 hd L V) : qz6y n1 n2 n3 B b wr a len cap p q s bp ba bh x y z u A a0 a1 a2 a3 c0 c1 c2 c3 hd (onAt L n1) (V.setCells p 0 Q0n) := by
 have l := J.lo
 have n := J.ne
 exact J.put p _ (Or.inl rfl) n1 (fun _ => World.rangeAt_setCells_same _ _ _ _ J.k6) (fun h => World.rangeAt_setCells_apart (J.k10 (qz2c (by omega) h)) _ _ _ (Or.inl (by omega))) (fun h => World.rangeAt_setCells_apart (J.k11 (qz2c (by omega) h)) _ _ _ (Or.inl (by omega)))
theorem qz6y.st1 (J : qz6y n1 n2 n3 B b wr a len cap p q s bp ba bh x y z u A a0 a1 a2 a3 c0 c1 c2 c3 hd L V) : qz6y n1 n2 n3 B b wr a len cap p q s bp ba bh x y z u A a0 a1 a2 a3 c0 c1 c2 c3 hd (onAt L n2) (V.setCells q 0 Q0j) := by
 have l := J.lo
 have n := J.ne
 exact J.put q _ (Or.inr (Or.inl rfl)) n2 (fun h => World.rangeAt_setCells_apart (J.k9 (qz2c (by omega) h)) _ _ _ (Or.inl (by omega))) (fun _ => World.rangeAt_setCells_same _ _ _ _ J.k7) (fun h => World.rangeAt_setCells_apart (J.k11 (qz2c (by omega) h)) _ _ _ (Or.inl (by omega)))
theorem qz6y.st2 (J : qz6y n1 n2 n3 B b wr a len cap p q s bp ba bh x y z u A a0 a1 a2 a3 c0 c1 c2 c3 hd L V) : qz6y n1 n2 n3 B b wr a len cap p q s bp ba bh x y z u A a0 a1 a2 a3 c0 c1 c2 c3 hd (onAt L n3) (V.setCells s 0 (hdC hd)) := by
 have l := J.lo
 have n := J.ne
 exact J.put s _ (Or.inr (Or.inr rfl)) n3 (fun h => World.rangeAt_setCells_apart (J.k9 (qz2c (by omega) h)) _ _ _ (Or.inl (by omega))) (fun h => World.rangeAt_setCells_apart (J.k10 (qz2c (by omega) h)) _ _ _ (Or.inl (by omega))) (fun _ => World.rangeAt_setCells_same _ _ _ _ J.k8)
end
theorem qz8p {P : Program} {fn : Func} {p q s : Tmp} {t1 t2 t3 : TypeId} (h : fn.results = #[.cell p t1, .cell q t2, .cell s t3]) (tmps : Array Value) (w : World) (b1 b2 b3 : Nat) (h1 : tmps.getD p undef = .pointer (some ⟨b1, 0, none⟩)) (h2 : tmps.getD q undef = .pointer (some ⟨b2, 0, none⟩)) (h3 : tmps.getD s undef = .pointer (some ⟨b3, 0, none⟩))
  (c1 c2 c3 : List Value) (d1 d2 d3 : TypeDesc) (r1 : w.rangeAt b1 0 c1) (r2 : w.rangeAt b2 0 c2) (r3 : w.rangeAt b3 0 c3) (u1 : P.underlying t1 = some d1) (k1 : d1.isRow = true) (i1 : (P.info? t1).map (·.size) = some c1.length) (u2 : P.underlying t2 = some d2) (k2 : d2.isRow = true) (i2 : (P.info? t2).map (·.size) = some c2.length) (u3 : P.underlying t3 = some d3) (k3 : d3.isRow = true) (i3 : (P.info? t3).map (·.size) = some c3.length) :
  (results fn tmps).run P w = .ok (.tuple #[.agg c1.toArray, .agg c2.toArray, .agg c3.toArray]) w := by
 have l1 := run_loadVar_mid (P := P) w b1 0 t1 c1 d1 r1 u1 k1 i1
 have l2 := run_loadVar_mid (P := P) w b2 0 t2 c2 d2 r2 u2 k2 i2
 have l3 := run_loadVar_mid (P := P) w b3 0 t3 c3 d3 r3 u3 k3 i3
 rw [Array.getD_eq_getD_getElem?] at h1 h2 h3
 simp [results, h, h1, h2, h3, asAddr, Result.andThen, l1, l2, l3]
theorem qz9j {P : Program} {fn : Func} {p q s r : Tmp} {t1 t2 t3 : TypeId} (h : fn.results = #[.cell p t1, .cell q t2, .cell s t3, .tmp r]) (tmps : Array Value) (w : World) (b1 b2 b3 : Nat) (h1 : tmps.getD p undef = .pointer (some ⟨b1, 0, none⟩)) (h2 : tmps.getD q undef = .pointer (some ⟨b2, 0, none⟩)) (h3 : tmps.getD s undef = .pointer (some ⟨b3, 0, none⟩))
  (c1 c2 c3 : List Value) (d1 d2 d3 : TypeDesc) (r1 : w.rangeAt b1 0 c1) (r2 : w.rangeAt b2 0 c2) (r3 : w.rangeAt b3 0 c3) (u1 : P.underlying t1 = some d1) (k1 : d1.isRow = true) (i1 : (P.info? t1).map (·.size) = some c1.length) (u2 : P.underlying t2 = some d2) (k2 : d2.isRow = true) (i2 : (P.info? t2).map (·.size) = some c2.length) (u3 : P.underlying t3 = some d3) (k3 : d3.isRow = true) (i3 : (P.info? t3).map (·.size) = some c3.length) :
  (results fn tmps).run P w = .ok (.tuple #[.agg c1.toArray, .agg c2.toArray, .agg c3.toArray, tmps.getD r undef]) w := by
 have l1 := run_loadVar_mid (P := P) w b1 0 t1 c1 d1 r1 u1 k1 i1
 have l2 := run_loadVar_mid (P := P) w b2 0 t2 c2 d2 r2 u2 k2 i2
 have l3 := run_loadVar_mid (P := P) w b3 0 t3 c3 d3 r3 u3 k3 i3
 rw [Array.getD_eq_getD_getElem?] at h1 h2 h3
 simp [results, h, h1, h2, h3, asAddr, Result.andThen, l1, l2, l3]
def qzal (w : World) (e : Ending) (w' : World) : Prop := ∃ (x y z u : Int) (A : Ar) (a0 a1 a2 a3 : Option Addr) (c0 c1 c2 c3 : Nat) (hd : Hd), e = .returned (.tuple #[.agg Q05, .agg Q01, .agg (hdC hd).toArray]) /\ A.size <= 1000000 /\ (1 <= x /\ x <= 8) /\ A.nodes.length <= 60 /\ A.vers.length <= 400 /\ qzr w'.heap.size w' Q0u Q0s Q0w Q14 A /\ (∀ q, qz63 A Q0u Q0s Q0w Q14 q -> w.heap.size <= q) /\ Below w.heap.size w w'
def qzbg (b ba : Nat) (x y z u : Int) (A : Ar) (a0 a1 a2 a3 : Option Addr) (c0 c1 c2 c3 : Nat) (hd : Hd) : Nat -> Value -> Prop
 | 0, v => v = .agg Q05
 | 1, v => v = .agg Q01
 | 2, v => v = .agg (hdC hd).toArray
 | _, _ => True
theorem qz85 (a : Option Addr) (len cap : Nat) (w : World) (hlen : len <= 4096) (C : qz1h w.heap.size w a len) :
  Calls Tryz.prog 7 #[.slice a len cap] w fun e w' => qzal w e w' := by
 have RP := World.there_alloc (World.there_alloc (qz8 w Q2r 25 4 (by decide)) (.cells Q0c 30)) (.cells Q00 32)
 have RA := World.there_alloc (qz8 (w.alloc Q0q) Q0c 30 5 (by decide)) (.cells Q00 32)
 have RH := qz8 ((w.alloc Q0q).alloc (.cells Q0c 30)) Q00 32 22 (by decide)
 have al0 := (((Below.refl w.heap.size w).alloc (Nat.le_refl _) Q0q).alloc (by simp) (.cells Q0c 30)).alloc (by simp; omega) (.cells Q00 32)
 have hz0 : (((w.alloc Q0q).alloc (.cells Q0c 30)).alloc (.cells Q00 32)).heap.size = w.heap.size + 1 + 1 + 1 := by simp
 simp only [World.size_alloc] at RA RH
 go_enter Tryz.func7, Tryz.ntmps7
 go_upto_region 1 with fail
 generalize hw0 : ((w.alloc Q0q).alloc (.cells Q0c 30)).alloc (.cells Q00 32) = w0 at *
 clear hw0
 have C0 := C.below al0
 go_wp2_with fail
 refine (qza0 a len cap w0 hlen (C0.weaken (by omega))).mono ?_
 rintro e w1 ⟨rfl, ⟨h1, D1⟩, b1⟩
 have RP1 := qz2 RP b1 (by omega)
 have RA1 := qz2 RA b1 (by omega)
 have RH1 := qz2 RH b1 (by omega)
 have C1 := C0.below (b1.mono (by omega))
 have K1 := al0.trans (b1.mono (by omega))
 have hb1 := D1.blk
 have hlb : w.heap.size + 1 + 1 < w0.heap.size := by omega
 generalize w0.heap.size = b at *
 clear RP RA RH C0 al0 C b1 hz0
 go_wp2_with fail
 refine (qz62 w.heap.size b a len cap 0 h1 3 3 w1 (by omega) hlen D1 C1 (by decide) (by decide) (by decide)).mono ?_
 rintro e w2 ⟨x, y, z, u, A, a0, a1, a2, a3, c0, c1, c2, c3, k0, hd, clk, rfl, hAs, hx, hnl, hvl, I2, far2, ⟨i2, h2, D2⟩, C2, O2⟩
 have hz2 := O2.size
 have T1 := World.there_alloc (World.there_alloc (qz8 w2 Q2r 25 4 (by decide)) (.cells Q0c 30)) (.cells Q00 32)
 have T2 := World.there_alloc (qz8 (w2.alloc Q0q) Q0c 30 5 (by decide)) (.cells Q00 32)
 have T3 := qz8 ((w2.alloc Q0q).alloc (.cells Q0c 30)) Q00 32 22 (by decide)
 have al := (((Below.refl w2.heap.size w2).alloc (Nat.le_refl _) Q0q).alloc (by simp) (.cells Q0c 30)).alloc (by simp; omega) (.cells Q00 32)
 have hzA : (((w2.alloc Q0q).alloc (.cells Q0c 30)).alloc (.cells Q00 32)).heap.size = w2.heap.size + 1 + 1 + 1 := by simp
 simp only [World.size_alloc] at T2 T3
 have tok : True := trivial
 go_wp2_with (clear tok; refine qz1q (((w2.alloc Q0q).alloc (.cells Q0c 30)).alloc (.cells Q00 32)) ?_)
 generalize hwA : ((w2.alloc Q0q).alloc (.cells Q0c 30)).alloc (.cells Q00 32) = wA at *
 clear hwA
 show wpList _ _ _ _ _ wA
 have hzA' : w2.heap.size + 1 + 1 < wA.heap.size := by omega
 clear hzA
 have al5 : Below w2.heap.size w2 ((((wA).setCells (w2.heap.size) 0 Q0n).setCells (w2.heap.size + 1) 0 Q0j).setCells (w2.heap.size + 1 + 1) 0 (hdC hd)) := Below.setCells (by omega) _ _ _ (Below.setCells (by omega) _ _ _ (Below.setCells (by omega) _ _ _ al))
 have hz5 : w2.heap.size + 1 + 1 < (((((wA).setCells (w2.heap.size) 0 Q0n).setCells (w2.heap.size + 1) 0 Q0j).setCells (w2.heap.size + 1 + 1) 0 (hdC hd))).heap.size := by rw [qzl, qzl, qzl]; omega
 have K5 : Below w.heap.size w ((((wA).setCells (w2.heap.size) 0 Q0n).setCells (w2.heap.size + 1) 0 Q0j).setCells (w2.heap.size + 1 + 1) 0 (hdC hd)) := (K1.trans (O2.below (by omega) (by omega))).trans (al5.mono (by omega))
 have I5 : qzr (((((wA).setCells (w2.heap.size) 0 Q0n).setCells (w2.heap.size + 1) 0 Q0j).setCells (w2.heap.size + 1 + 1) 0 (hdC hd))).heap.size ((((wA).setCells (w2.heap.size) 0 Q0n).setCells (w2.heap.size + 1) 0 Q0j).setCells (w2.heap.size + 1 + 1) 0 (hdC hd)) Q0u Q0s Q0w Q14 A := (I2.below al5).weaken al5.size
 have far5 : ∀ m, qz63 A Q0u Q0s Q0w Q14 m -> b < m /\ m < w2.heap.size := fun m e => ⟨by have := far2 m e; omega, by rcases e with e | e | e | e; exact qz2k I2.s e; exact qz2k I2.g e; exact qz2k I2.n e; exact qz2k I2.r e⟩
 have J5 : qz6y 3 4 5 w.heap.size b ((((wA).setCells (w2.heap.size) 0 Q0n).setCells (w2.heap.size + 1) 0 Q0j).setCells (w2.heap.size + 1 + 1) 0 (hdC hd)) a len cap (w.heap.size) (w.heap.size + 1) (w.heap.size + 1 + 1) (w2.heap.size) (w2.heap.size + 1) (w2.heap.size + 1 + 1) x y z u A a0 a1 a2 a3 c0 c1 c2 c3 hd (fun _ => false) ((((wA).setCells (w2.heap.size) 0 Q0n).setCells (w2.heap.size + 1) 0 Q0j).setCells (w2.heap.size + 1 + 1) 0 (hdC hd)) :=
  ⟨⟨i2, h2, D2.below al5⟩, C2.below (al5.mono (by omega)), World.rangeAt_setCells_apart (World.rangeAt_setCells_apart (World.rangeAt_setCells_same _ _ _ _ T1) _ _ _ (Or.inl (by omega))) _ _ _ (Or.inl (by omega)), World.rangeAt_setCells_apart (World.rangeAt_setCells_same _ _ _ _ (World.there_setCells T2 _ _ _)) _ _ _ (Or.inl (by omega)), World.rangeAt_setCells_same _ _ _ _ (World.there_setCells (World.there_setCells T3 _ _ _) _ _ _),
   qz2 (qzx RP1 O2 (by omega) (by omega)) al5 (by omega), qz2 (qzx RA1 O2 (by omega) (by omega)) al5 (by omega), qz2 (qzx RH1 O2 (by omega) (by omega)) al5 (by omega), (fun h => by cases h), (fun h => by cases h), (fun h => by cases h), ⟨rfl, rfl, rfl, Nat.le_refl _, fun _ _ _ => rfl⟩, by omega, by decide⟩
 have T2' := World.there_setCells T2 (w2.heap.size) 0 Q0n
 have T3' := World.there_setCells (World.there_setCells T3 (w2.heap.size) 0 Q0n) (w2.heap.size + 1) 0 Q0j
 clear al5 al I2 far2 D1 D2 C1 C2 O2 RP1 RA1 RH1 K1 T2 T3 hz5
 refine wpList_store_mid rfl 25 (.tmp 6) (.tmp 16) rfl (w2.heap.size) 0 Q05 rfl rfl T1 qz2e (by simp [Value.oneCell']) ?_
 refine wpList_store_mid rfl 30 (.tmp 7) (.tmp 17) rfl (w2.heap.size + 1) 0 Q01 rfl rfl T2' qz1x (by simp [Value.oneCell']) ?_
 go_wp2_with (refine wpList_store_mid rfl 32 (.tmp 9) (.tmp 19) rfl (w2.heap.size + 1 + 1) 0 (hdC hd).toArray ?s3x ?s3y ?s3t (qz7 hd) (qzb hd) ?_)
 all_goals (first | exact T3' | exact rfl | skip)
 generalize hW5 : ((((wA).setCells (w2.heap.size) 0 Q0n).setCells (w2.heap.size + 1) 0 Q0j).setCells (w2.heap.size + 1 + 1) 0 (hdC hd)) = w5 at *
 clear hW5 T2' T3' T1 hzA'
 generalize hbh : w2.heap.size + 1 + 1 = bh at *
 generalize hba : w2.heap.size + 1 = ba at *
 generalize hbp : w2.heap.size = bp at *
 clear hbh hba hbp
 refine qz4o 6 (by kernel_rfl) (qz6y 3 4 5 w.heap.size b w5 a len cap (w.heap.size) (w.heap.size + 1) (w.heap.size + 1 + 1) bp ba bh x y z u A a0 a1 a2 a3 c0 c1 c2 c3 hd) (by obtain ⟨i0, h0, Dd⟩ := J5.dice; exact ⟨⟨i0, h0, Dd.below ⟨rfl, rfl, rfl, Nat.le_refl _, fun _ _ => rfl⟩⟩, J5.bytes.below ⟨rfl, rfl, rfl, Nat.le_refl _, fun _ _ => rfl⟩, J5.k1, J5.k2, J5.k5, J5.k6, J5.k7, J5.k8, J5.k9, J5.k10, J5.k11, ⟨rfl, rfl, rfl, Nat.le_refl _, fun _ _ _ => rfl⟩, J5.lo, J5.ne⟩) (fun _ i v _ => qzbg b ba x y z u A a0 a1 a2 a3 c0 c1 c2 c3 hd i v) (by kernel_rfl) (by kernel_rfl) (by kernel_rfl) (by kernel_rfl) (by rfl) ?step ?final
 case step =>
  intro i o hik ho' L aa V hLi hLk hcl J hnn hd' K hK
  obtain ⟨j1, j2, j3, j4, j5, j6, j7, j8, j9, j10, j11, j12, j13, j14⟩ := id J
  match i, ho' with
  | 0, ho' =>
   obtain rfl := Option.some.inj ho'
   exact qz1w 25 (.tmp 6) rfl bp 0 (hnn 6 rfl) Q0n _ j3 Tryz.underlying25 rfl qz2e (hK _ _ rfl (J.on 0 (by decide) (by decide) (by decide)) (fun j v' _ _ q => q))
  | 1, ho' =>
   obtain rfl := Option.some.inj ho'
   exact qz1w 30 (.tmp 7) rfl ba 0 (hnn 7 rfl) Q0j _ j4 Tryz.underlying30 rfl qz1x (hK _ _ rfl (J.on 1 (by decide) (by decide) (by decide)) (fun j v' _ _ q => q))
  | 2, ho' =>
   obtain rfl := Option.some.inj ho'
   exact qz1w 32 (.tmp 9) rfl bh 0 (hnn 9 rfl) (hdC hd) _ j5 Tryz.underlying32 rfl (qz1 hd) (hK _ _ rfl (J.on 2 (by decide) (by decide) (by decide)) (fun j v' _ _ q => q))
  | 3, ho' =>
   obtain rfl := Option.some.inj ho'
   refine wp_store_mid 25 (.tmp 2) (.tmp 21) rfl (w.heap.size) 0 Q05 (hnn 2 rfl) (hd' ⟨0, .data⟩ (by simp) rfl 21 rfl).2 j6 qz2e (by simp [Value.oneCell']) ?_
   exact hK _ _ trivial J.st0 (fun j v' _ _ q => q)
  | 4, ho' =>
   obtain rfl := Option.some.inj ho'
   refine wp_store_mid 30 (.tmp 3) (.tmp 22) rfl (w.heap.size + 1) 0 Q01 (hnn 3 rfl) (hd' ⟨1, .data⟩ (by simp) rfl 22 rfl).2 j7 qz1x (by simp [Value.oneCell']) ?_
   exact hK _ _ trivial J.st1 (fun j v' _ _ q => q)
  | 5, ho' =>
   obtain rfl := Option.some.inj ho'
   refine wp_store_mid 32 (.tmp 4) (.tmp 23) rfl (w.heap.size + 1 + 1) 0 (hdC hd).toArray (hnn 4 rfl) (hd' ⟨2, .data⟩ (by simp) rfl 23 rfl).2 j8 (qz7 hd) (qzb hd) ?_
   exact hK _ _ trivial J.st2 (fun j v' _ _ q => q)
  | n + 6, ho' => omega
 case final =>
  intro L vs V' hLall J hG
  have r1 := J.k9 (hLall 3 (by decide))
  have r2 := J.k10 (hLall 4 (by decide))
  have r3 := J.k11 (hLall 5 (by decide))
  have hBt := J.k12
  have hlo := J.lo
  have KV : Below w.heap.size w V' := K5.trans (hBt.below (by have := K5.size; omega) (fun q hq => by omega))
  have IV : qzr V'.heap.size V' Q0u Q0s Q0w Q14 A := (I5.butN hBt (Nat.le_refl _) (fun q e h => by have := far5 q e; omega)).weaken hBt.size
  have farV : ∀ q, qz63 A Q0u Q0s Q0w Q14 q -> w.heap.size <= q := fun q e => by have := far5 q e; omega
  clear J hBt hG hLall J5 I5 far5 K5
  generalize hl : laid _ vs _ _ _ = AA
  have hA' : AA = { tmps := #[.slice a len cap, undef, .pointer (some ⟨w.heap.size, 0, none⟩), .pointer (some ⟨w.heap.size + 1, 0, none⟩), .pointer (some ⟨w.heap.size + 1 + 1, 0, none⟩), .pointer (some ⟨b, 0, none⟩), .pointer (some ⟨bp, 0, none⟩), .pointer (some ⟨ba, 0, none⟩), .int .i64 k0, .pointer (some ⟨bh, 0, none⟩), .int .i64 clk, .slice a len cap, .pointer (some ⟨b, 0, none⟩), .tuple #[.agg Q05, .agg Q01, .int .i64 k0, .agg (hdC hd).toArray, .int .i64 clk], .pointer (some ⟨b, 0, none⟩), .tuple #[.agg Q05, .agg Q01, .int .i64 k0, .agg (hdC hd).toArray, .int .i64 clk], .agg Q05, .agg Q01, .int .i64 k0, .agg (hdC hd).toArray, .int .i64 clk, vs 0, vs 1, vs 2], defers := [] } := by
   rw [<- hl]
   kernel_rfl
  subst hA'
  skip
  clear hl
  simp only [List.drop_succ_cons, List.drop_zero]
  go_wp2_with fail
  refine bodyPost_ret (v := .tuple #[.agg (Q05 : Array Value), .agg Q01, .agg (hdC hd).toArray]) ?_ rfl ⟨x, y, z, u, A, a0, a1, a2, a3, c0, c1, c2, c3, hd, rfl, hAs, hx, hnl, hvl, IV, farV, KV⟩
  exact qz8p Tryz.results7 _ V' (w.heap.size) (w.heap.size + 1) (w.heap.size + 1 + 1) rfl rfl rfl Q0n Q0j (hdC hd) _ _ _ r1 r2 r3 Tryz.underlying25 rfl qz2e Tryz.underlying30 rfl qz1x Tryz.underlying32 rfl (qz1 hd)
def qz92 (w : World) (e : Ending) (w' : World) : Prop := ∃ (x y z u : Int) (A : Ar) (a0 a1 a2 a3 : Option Addr) (c0 c1 c2 c3 : Nat) (hd : Hd) (k : Int), e = .returned (.tuple #[.agg Q05, .agg Q01, .agg (hdC hd).toArray, .int .i64 k]) /\ A.size <= 1000000 /\ (1 <= x /\ x <= 8) /\ A.nodes.length <= 60 /\ A.vers.length <= 400 /\ qzr w'.heap.size w' Q0u Q0s Q0w Q14 A /\ (∀ q, qz63 A Q0u Q0s Q0w Q14 q -> w.heap.size <= q) /\ Below w.heap.size w w'
def qz8x (b ba : Nat) (x y z u : Int) (A : Ar) (a0 a1 a2 a3 : Option Addr) (c0 c1 c2 c3 : Nat) (hd : Hd) : Nat -> Value -> Prop
 | 0, v => v = .agg Q05
 | 1, v => v = .agg Q01
 | 2, v => v = .agg (hdC hd).toArray
 | 3, v => v = .pointer (some ⟨b, 0, none⟩)
 | 4, v => v = .pointer (some ⟨ba, 3, none⟩)
 | 5, v => v = .slice a2 A.nodes.length c2
 | 6, v => v = .int .i64 (A.nodes.length : Int)
 | 7, v => ∃ k : Int, v = .int .i64 k
 | 11, v => ∃ k : Int, v = .int .i64 k
 | _, _ => True
theorem qz6t (a : Option Addr) (len cap : Nat) (w : World) (hlen : len <= 4096) (C : qz1h w.heap.size w a len) :
  Calls Tryz.prog 10 #[.slice a len cap] w fun e w' => qz92 w e w' := by
 have RP := World.there_alloc (World.there_alloc (qz8 w Q2r 25 4 (by decide)) (.cells Q0c 30)) (.cells Q00 32)
 have RA := World.there_alloc (qz8 (w.alloc Q0q) Q0c 30 5 (by decide)) (.cells Q00 32)
 have RH := qz8 ((w.alloc Q0q).alloc (.cells Q0c 30)) Q00 32 22 (by decide)
 have al0 := (((Below.refl w.heap.size w).alloc (Nat.le_refl _) Q0q).alloc (by simp) (.cells Q0c 30)).alloc (by simp; omega) (.cells Q00 32)
 have hz0 : (((w.alloc Q0q).alloc (.cells Q0c 30)).alloc (.cells Q00 32)).heap.size = w.heap.size + 1 + 1 + 1 := by simp
 simp only [World.size_alloc] at RA RH
 go_enter Tryz.func10, Tryz.ntmps10
 go_upto_region 1 with fail
 generalize hw0 : ((w.alloc Q0q).alloc (.cells Q0c 30)).alloc (.cells Q00 32) = w0 at *
 clear hw0
 have C0 := C.below al0
 go_wp2_with fail
 refine (qza0 a len cap w0 hlen (C0.weaken (by omega))).mono ?_
 rintro e w1 ⟨rfl, ⟨h1, D1⟩, b1⟩
 have RP1 := qz2 RP b1 (by omega)
 have RA1 := qz2 RA b1 (by omega)
 have RH1 := qz2 RH b1 (by omega)
 have C1 := C0.below (b1.mono (by omega))
 have K1 := al0.trans (b1.mono (by omega))
 have hb1 := D1.blk
 have hlb : w.heap.size + 1 + 1 < w0.heap.size := by omega
 generalize w0.heap.size = b at *
 clear RP RA RH C0 al0 C b1 hz0
 go_wp2_with fail
 refine (qz62 w.heap.size b a len cap 0 h1 2 5 w1 (by omega) hlen D1 C1 (by decide) (by decide) (by decide)).mono ?_
 rintro e w2 ⟨x, y, z, u, A, a0, a1, a2, a3, c0, c1, c2, c3, k0, hd, clk, rfl, hAs, hx, hnl, hvl, I2, far2, ⟨i2, h2, D2⟩, C2, O2⟩
 have hz2 := O2.size
 have T1 := World.there_alloc (World.there_alloc (qz8 w2 Q2r 25 4 (by decide)) (.cells Q0c 30)) (.cells Q00 32)
 have T2 := World.there_alloc (qz8 (w2.alloc Q0q) Q0c 30 5 (by decide)) (.cells Q00 32)
 have T3 := qz8 ((w2.alloc Q0q).alloc (.cells Q0c 30)) Q00 32 22 (by decide)
 have al := (((Below.refl w2.heap.size w2).alloc (Nat.le_refl _) Q0q).alloc (by simp) (.cells Q0c 30)).alloc (by simp; omega) (.cells Q00 32)
 have hzA : (((w2.alloc Q0q).alloc (.cells Q0c 30)).alloc (.cells Q00 32)).heap.size = w2.heap.size + 1 + 1 + 1 := by simp
 simp only [World.size_alloc] at T2 T3
 have tok : True := trivial
 go_wp2_with (clear tok; refine qz1q (((w2.alloc Q0q).alloc (.cells Q0c 30)).alloc (.cells Q00 32)) ?_)
 generalize hwA : ((w2.alloc Q0q).alloc (.cells Q0c 30)).alloc (.cells Q00 32) = wA at *
 clear hwA
 show wpList _ _ _ _ _ wA
 have hzA' : w2.heap.size + 1 + 1 < wA.heap.size := by omega
 clear hzA
 have al5 : Below w2.heap.size w2 ((((wA).setCells (w2.heap.size) 0 Q0n).setCells (w2.heap.size + 1) 0 Q0j).setCells (w2.heap.size + 1 + 1) 0 (hdC hd)) := Below.setCells (by omega) _ _ _ (Below.setCells (by omega) _ _ _ (Below.setCells (by omega) _ _ _ al))
 have hz5 : w2.heap.size + 1 + 1 < (((((wA).setCells (w2.heap.size) 0 Q0n).setCells (w2.heap.size + 1) 0 Q0j).setCells (w2.heap.size + 1 + 1) 0 (hdC hd))).heap.size := by rw [qzl, qzl, qzl]; omega
 have K5 : Below w.heap.size w ((((wA).setCells (w2.heap.size) 0 Q0n).setCells (w2.heap.size + 1) 0 Q0j).setCells (w2.heap.size + 1 + 1) 0 (hdC hd)) := (K1.trans (O2.below (by omega) (by omega))).trans (al5.mono (by omega))
 have I5 : qzr (((((wA).setCells (w2.heap.size) 0 Q0n).setCells (w2.heap.size + 1) 0 Q0j).setCells (w2.heap.size + 1 + 1) 0 (hdC hd))).heap.size ((((wA).setCells (w2.heap.size) 0 Q0n).setCells (w2.heap.size + 1) 0 Q0j).setCells (w2.heap.size + 1 + 1) 0 (hdC hd)) Q0u Q0s Q0w Q14 A := (I2.below al5).weaken al5.size
 have far5 : ∀ m, qz63 A Q0u Q0s Q0w Q14 m -> b < m /\ m < w2.heap.size := fun m e => ⟨by have := far2 m e; omega, by rcases e with e | e | e | e; exact qz2k I2.s e; exact qz2k I2.g e; exact qz2k I2.n e; exact qz2k I2.r e⟩
 have J5 : qz6y 8 9 10 w.heap.size b ((((wA).setCells (w2.heap.size) 0 Q0n).setCells (w2.heap.size + 1) 0 Q0j).setCells (w2.heap.size + 1 + 1) 0 (hdC hd)) a len cap (w.heap.size) (w.heap.size + 1) (w.heap.size + 1 + 1) (w2.heap.size) (w2.heap.size + 1) (w2.heap.size + 1 + 1) x y z u A a0 a1 a2 a3 c0 c1 c2 c3 hd (fun _ => false) ((((wA).setCells (w2.heap.size) 0 Q0n).setCells (w2.heap.size + 1) 0 Q0j).setCells (w2.heap.size + 1 + 1) 0 (hdC hd)) :=
  ⟨⟨i2, h2, D2.below al5⟩, C2.below (al5.mono (by omega)), World.rangeAt_setCells_apart (World.rangeAt_setCells_apart (World.rangeAt_setCells_same _ _ _ _ T1) _ _ _ (Or.inl (by omega))) _ _ _ (Or.inl (by omega)), World.rangeAt_setCells_apart (World.rangeAt_setCells_same _ _ _ _ (World.there_setCells T2 _ _ _)) _ _ _ (Or.inl (by omega)), World.rangeAt_setCells_same _ _ _ _ (World.there_setCells (World.there_setCells T3 _ _ _) _ _ _),
   qz2 (qzx RP1 O2 (by omega) (by omega)) al5 (by omega), qz2 (qzx RA1 O2 (by omega) (by omega)) al5 (by omega), qz2 (qzx RH1 O2 (by omega) (by omega)) al5 (by omega), (fun h => by cases h), (fun h => by cases h), (fun h => by cases h), ⟨rfl, rfl, rfl, Nat.le_refl _, fun _ _ _ => rfl⟩, by omega, by decide⟩
 have T2' := World.there_setCells T2 (w2.heap.size) 0 Q0n
 have T3' := World.there_setCells (World.there_setCells T3 (w2.heap.size) 0 Q0n) (w2.heap.size + 1) 0 Q0j
 clear al5 al I2 far2 D1 D2 C1 C2 O2 RP1 RA1 RH1 K1 T2 T3 hz5
 refine wpList_store_mid rfl 25 (.tmp 7) (.tmp 17) rfl (w2.heap.size) 0 Q05 rfl rfl T1 qz2e (by simp [Value.oneCell']) ?_
 refine wpList_store_mid rfl 30 (.tmp 8) (.tmp 18) rfl (w2.heap.size + 1) 0 Q01 rfl rfl T2' qz1x (by simp [Value.oneCell']) ?_
 go_wp2_with (refine wpList_store_mid rfl 32 (.tmp 10) (.tmp 20) rfl (w2.heap.size + 1 + 1) 0 (hdC hd).toArray ?s3x ?s3y ?s3t (qz7 hd) (qzb hd) ?_)
 all_goals (first | exact T3' | exact rfl | skip)
 generalize hW5 : ((((wA).setCells (w2.heap.size) 0 Q0n).setCells (w2.heap.size + 1) 0 Q0j).setCells (w2.heap.size + 1 + 1) 0 (hdC hd)) = w5 at *
 clear hW5 T2' T3' T1 hzA'
 generalize hbh : w2.heap.size + 1 + 1 = bh at *
 generalize hba : w2.heap.size + 1 = ba at *
 generalize hbp : w2.heap.size = bp at *
 clear hbh hba hbp
 refine qz4o 12 (by kernel_rfl) (qz6y 8 9 10 w.heap.size b w5 a len cap (w.heap.size) (w.heap.size + 1) (w.heap.size + 1 + 1) bp ba bh x y z u A a0 a1 a2 a3 c0 c1 c2 c3 hd) (by obtain ⟨i0, h0, Dd⟩ := J5.dice; exact ⟨⟨i0, h0, Dd.below ⟨rfl, rfl, rfl, Nat.le_refl _, fun _ _ => rfl⟩⟩, J5.bytes.below ⟨rfl, rfl, rfl, Nat.le_refl _, fun _ _ => rfl⟩, J5.k1, J5.k2, J5.k5, J5.k6, J5.k7, J5.k8, J5.k9, J5.k10, J5.k11, ⟨rfl, rfl, rfl, Nat.le_refl _, fun _ _ _ => rfl⟩, J5.lo, J5.ne⟩) (fun _ i v _ => qz8x b ba x y z u A a0 a1 a2 a3 c0 c1 c2 c3 hd i v) (by kernel_rfl) (by kernel_rfl) (by kernel_rfl) (by kernel_rfl) (by rfl) ?step ?final
 case step =>
  intro i o hik ho' L aa V hLi hLk hcl J hnn hd' K hK
  obtain ⟨j1, j2, j3, j4, j5, j6, j7, j8, j9, j10, j11, j12, j13, j14⟩ := id J
  match i, ho' with
  | 0, ho' =>
   obtain rfl := Option.some.inj ho'
   exact qz1w 25 (.tmp 7) rfl bp 0 (hnn 7 rfl) Q0n _ j3 Tryz.underlying25 rfl qz2e (hK _ _ rfl (J.on 0 (by decide) (by decide) (by decide)) (fun j v' _ _ q => q))
  | 1, ho' =>
   obtain rfl := Option.some.inj ho'
   exact qz1w 30 (.tmp 8) rfl ba 0 (hnn 8 rfl) Q0j _ j4 Tryz.underlying30 rfl qz1x (hK _ _ rfl (J.on 1 (by decide) (by decide) (by decide)) (fun j v' _ _ q => q))
  | 2, ho' =>
   obtain rfl := Option.some.inj ho'
   exact qz1w 32 (.tmp 10) rfl bh 0 (hnn 10 rfl) (hdC hd) _ j5 Tryz.underlying32 rfl (qz1 hd) (hK _ _ rfl (J.on 2 (by decide) (by decide) (by decide)) (fun j v' _ _ q => q))
  | 3, ho' =>
   obtain rfl := Option.some.inj ho'
   have e6 : aa.eval (.tmp 6) = .pointer (some ⟨b, 0, none⟩) := hnn 6 rfl
   refine qz4 (v := .pointer (some ⟨b, 0, none⟩)) (w' := V) ?_ (hK _ _ rfl (J.on 3 (by decide) (by decide) (by decide)) (fun j v' _ _ q => q))
   clear J j1 j2 j3 j4 j5 j6 j7 j8 j9 j10 j11 j12 j13 j14
   generalize aa.eval = ev at *
   go_simp
  | 4, ho' =>
   obtain rfl := Option.some.inj ho'
   have e8 : aa.eval (.tmp 8) = .pointer (some ⟨ba, 0, none⟩) := hnn 8 rfl
   refine qz4 (v := .pointer (some ⟨ba, 3, none⟩)) (w' := V) ?_ (hK _ _ rfl (J.on 4 (by decide) (by decide) (by decide)) (fun j v' _ _ q => q))
   clear J j1 j2 j3 j4 j5 j6 j7 j8 j9 j10 j11 j12 j13 j14
   generalize aa.eval = ev at *
   go_simp
  | 5, ho' =>
   obtain rfl := Option.some.inj ho'
   have y3 : V.cell? ⟨ba, 3, none⟩ = some Q0w := by simpa using j4 3 _ rfl
   have e26 : aa.eval (.tmp 26) = .pointer (some ⟨ba, 3, none⟩) := (hd' ⟨4, .data⟩ (by simp) rfl 26 rfl).2
   refine qz4 (v := .slice a2 A.nodes.length c2) (w' := V) ?_ (hK _ _ rfl (J.on 5 (by decide) (by decide) (by decide)) (fun j v' _ _ q => q))
   clear J j1 j2 j3 j4 j5 j6 j7 j8 j9 j10 j11 j12 j13 j14
   generalize aa.eval = ev at *
   go_simp
  | 6, ho' =>
   obtain rfl := Option.some.inj ho'
   have e27 : aa.eval (.tmp 27) = .slice a2 A.nodes.length c2 := (hd' ⟨5, .data⟩ (by simp) rfl 27 rfl).2
   refine qz4 (v := .int .i64 (A.nodes.length : Int)) (w' := V) ?_ (hK _ _ rfl (J.on 6 (by decide) (by decide) (by decide)) (fun j v' _ _ q => q))
   clear J j1 j2 j3 j4 j5 j6 j7 j8 j9 j10 j11 j12 j13 j14
   generalize aa.eval = ev at *
   go_simp
  | 7, ho' =>
   obtain rfl := Option.some.inj ho'
   obtain ⟨ii, hh, Dd⟩ := j1
   have e25 : aa.eval (.tmp 25) = .pointer (some ⟨b, 0, none⟩) := (hd' ⟨3, .data⟩ (by simp) rfl 25 rfl).2
   have e28 : aa.eval (.tmp 28) = .int .i64 (A.nodes.length : Int) := (hd' ⟨6, .data⟩ (by simp) rfl 28 rfl).2
   have ec : aa.eval (.const (.int .i64 (-1))) = .int .i64 (-1) := rfl
   have ef : aa.eval (.func 40) = .func (.func 40) #[] #[] := rfl
   refine qz2d (f := 40) (args := #[.pointer (some ⟨b, 0, none⟩), .int .i64 (-1), .int .i64 (A.nodes.length : Int)]) (R := fun v w' => ∃ m i' h', v = .int .i64 m /\ qz1s .i64 w' b a len cap i' h' /\ qz1h w.heap.size w' a len /\ Only b V w') ?_ ((qz3k w.heap.size b a len cap ii hh (-1) (A.nodes.length : Int) V (by omega) hlen Dd j2 (by omega) (by omega) (by omega)).mono (fun e w' h => by obtain ⟨m, i', h', e1, _, _, q1, q2, q3⟩ := h; exact ⟨_, e1, m, i', h', rfl, q1, q2, q3⟩)) (fun v w' h => by obtain ⟨m, i', h', e1, q1, q2, q3⟩ := h; exact hK v w' ⟨m, e1⟩ (J.draw 7 (by decide) (by decide) (by decide) q1 q2 q3) (fun j v' _ _ q => q))
   clear Dd
   clear J j2 j3 j4 j5 j6 j7 j8 j9 j10 j11 j12 j13 j14
   generalize aa.eval = ev at *
   go_simp
  | 8, ho' =>
   obtain rfl := Option.some.inj ho'
   refine wp_store_mid 25 (.tmp 2) (.tmp 22) rfl (w.heap.size) 0 Q05 (hnn 2 rfl) (hd' ⟨0, .data⟩ (by simp) rfl 22 rfl).2 j6 qz2e (by simp [Value.oneCell']) ?_
   exact hK _ _ trivial J.st0 (fun j v' _ _ q => q)
  | 9, ho' =>
   obtain rfl := Option.some.inj ho'
   refine wp_store_mid 30 (.tmp 3) (.tmp 23) rfl (w.heap.size + 1) 0 Q01 (hnn 3 rfl) (hd' ⟨1, .data⟩ (by simp) rfl 23 rfl).2 j7 qz1x (by simp [Value.oneCell']) ?_
   exact hK _ _ trivial J.st1 (fun j v' _ _ q => q)
  | 10, ho' =>
   obtain rfl := Option.some.inj ho'
   refine wp_store_mid 32 (.tmp 4) (.tmp 24) rfl (w.heap.size + 1 + 1) 0 (hdC hd).toArray (hnn 4 rfl) (hd' ⟨2, .data⟩ (by simp) rfl 24 rfl).2 j8 (qz7 hd) (qzb hd) ?_
   exact hK _ _ trivial J.st2 (fun j v' _ _ q => q)
  | 11, ho' =>
   obtain rfl := Option.some.inj ho'
   obtain ⟨k, ek⟩ := (show ∃ k : Int, aa.eval (.tmp 29) = .int .i64 k from (hd' ⟨7, .data⟩ (by simp) rfl 29 rfl).2)
   refine qz4 (v := .int .i64 k) (w' := V) ?_ (hK _ _ ⟨k, rfl⟩ (J.on 11 (by decide) (by decide) (by decide)) (fun j v' _ _ q => q))
   clear J j1 j2 j3 j4 j5 j6 j7 j8 j9 j10 j11 j12 j13 j14
   generalize aa.eval = ev at *
   go_simp
  | n + 12, ho' => omega
 case final =>
  intro L vs V' hLall J hG
  have r1 := J.k9 (hLall 8 (by decide))
  have r2 := J.k10 (hLall 9 (by decide))
  have r3 := J.k11 (hLall 10 (by decide))
  obtain ⟨k, gk⟩ := (show ∃ k : Int, vs 11 = .int .i64 k from hG 11 (by decide))
  have hBt := J.k12
  have hlo := J.lo
  have KV : Below w.heap.size w V' := K5.trans (hBt.below (by have := K5.size; omega) (fun q hq => by omega))
  have IV : qzr V'.heap.size V' Q0u Q0s Q0w Q14 A := (I5.butN hBt (Nat.le_refl _) (fun q e h => by have := far5 q e; omega)).weaken hBt.size
  have farV : ∀ q, qz63 A Q0u Q0s Q0w Q14 q -> w.heap.size <= q := fun q e => by have := far5 q e; omega
  clear J hBt hG hLall J5 I5 far5 K5
  generalize hl : laid _ vs _ _ _ = AA
  have hA' : AA = { tmps := #[.slice a len cap, undef, .pointer (some ⟨w.heap.size, 0, none⟩), .pointer (some ⟨w.heap.size + 1, 0, none⟩), .pointer (some ⟨w.heap.size + 1 + 1, 0, none⟩), vs 11, .pointer (some ⟨b, 0, none⟩), .pointer (some ⟨bp, 0, none⟩), .pointer (some ⟨ba, 0, none⟩), .int .i64 k0, .pointer (some ⟨bh, 0, none⟩), .int .i64 clk, .slice a len cap, .pointer (some ⟨b, 0, none⟩), .tuple #[.agg Q05, .agg Q01, .int .i64 k0, .agg (hdC hd).toArray, .int .i64 clk], .pointer (some ⟨b, 0, none⟩), .tuple #[.agg Q05, .agg Q01, .int .i64 k0, .agg (hdC hd).toArray, .int .i64 clk], .agg Q05, .agg Q01, .int .i64 k0, .agg (hdC hd).toArray, .int .i64 clk, vs 0, vs 1, vs 2, vs 3, vs 4, vs 5, vs 6, vs 7], defers := [] } := by
   rw [<- hl]
   kernel_rfl
  subst hA'
  rw [gk]
  clear hl gk
  simp only [List.drop_succ_cons, List.drop_zero]
  go_wp2_with fail
  refine bodyPost_ret (v := .tuple #[.agg (Q05 : Array Value), .agg Q01, .agg (hdC hd).toArray, .int .i64 k]) ?_ rfl ⟨x, y, z, u, A, a0, a1, a2, a3, c0, c1, c2, c3, hd, k, rfl, hAs, hx, hnl, hvl, IV, farV, KV⟩
  exact qz9j Tryz.results10 _ V' (w.heap.size) (w.heap.size + 1) (w.heap.size + 1 + 1) rfl rfl rfl Q0n Q0j (hdC hd) _ _ _ r1 r2 r3 Tryz.underlying25 rfl qz2e Tryz.underlying30 rfl qz1x Tryz.underlying32 rfl (qz1 hd)
end
end Go.Proofs.YtclkglkhhnapiaaGreat
