/-
  What the law's proof goes by, part 54.
-/
import Derived.Laws.StructEq
import Derived.Test.YthjkdnlmopafkaaGreatFnSealed00
import Derived.Test.YthjkdnlmopafkaaGreatFnSealed03
import Derived.Test.YthjkdnlmopafkaaGreatFnSealed06
import Derived.Test.YthjkdnlmopafkaaGreatFnSealed51
import Derived.Test.YthjkdnlmopafkaaGreatFnSealed52
namespace Go.Proofs.YthjkdnlmopafkaaGreat
open Go.ChangeShapes Go.WideShapes Go.ChangeAt Go.RowKit
set_option maxRecDepth 100000
set_option maxHeartbeats 16000000
set_option linter.unusedVariables false
set_option linter.unusedSimpArgs false
set_option linter.unnecessarySimpa false
set_option linter.unusedSectionVars false
section
attribute [local go_sem ↓] Go.wp_at_zero Go.wp_at_succ
def qz1z (x y z u : Int) (A : Ar) (me : Int) (h : Hd) (clk : Int) : Bool := fitB x y z u A me h clk && inB h.at_ 2 5
def qz35 (x y z u : Int) (A : Ar) (me : Int) (h : Hd) (clk : Int) : Ar × Hd × Dd := if qz1z x y z u A me h clk = true then qz1m A h qz21 clk else (qzge, qz7x, qz21)
theorem qz5n {x y z u : Int} {A : Ar} {me : Int} {h : Hd} {clk : Int} (e : qz1z x y z u A me h clk = false) : qz35 x y z u A me h clk = (qzge, qz7x, qz21) := by rw [qz35, if_neg (by rw [e]; decide)]
theorem qz5a {x y z u : Int} {A : Ar} {me : Int} {h : Hd} {clk : Int} (e : qz1z x y z u A me h clk = true) : qz35 x y z u A me h clk = qz1m A h qz21 clk := by rw [qz35, if_pos e]
theorem qzan (B : Nat) (A : Ar) (x y z u me : Int) (h : Hd) (clk : Int) (a0 a1 a2 a3 : Option Addr) (c0 c1 c2 c3 : Nat) (w : World) (hB : B <= Q7b) (hA : A.size <= 1048576) (I : qzv B w Q0u Q0s Q0v Q14 A) :
  Calls Tryz.prog 22 Q53 w fun e w' => qz8j w (qz35 x y z u A me h clk) (qz1z x y z u A me h clk) e w' := by
 have hA' := hA
 unfold Ar.size at hA
 have P0 := Q7n (Q7n (Q7n (qz6 w Q0q 28) (.cells Q02 33)) Q0d) (.cells Q01 59)
 have X0 := Q7n (Q7n (qz6 Q4y Q0j 33) Q0d) (.cells Q01 59)
 have H0 := Q7n (qz6 Q2g (hdC h) 53) (.cells Q01 59)
 have G0 := Q80 (qza Q2g (hdC h).toArray 53 22 (by simp [hdC])) (.cells Q01 59)
 have F0 := qza ((Q2g).alloc Q0d) Q01 59 33 (by decide)
 have K0 := ((((Q7g Q7b w).alloc (Q7l _) (.cells Q06 28)).alloc (by simp) (.cells Q02 33)).alloc (by simp; omega) Q0d).alloc (by simp; omega) (.cells Q01 59)
 have hz0 : Q7b + 1 + 1 + 1 < (((Q2g).alloc Q0d).alloc (.cells Q01 59)).heap.size := by simp
 simp only [World.size_alloc] at X0 H0 G0 F0
 have I0 := I.below (K0.mono hB)
 go_enter Tryz.func22, Tryz.ntmps22
 go_upto_region 1 with fail
 generalize hw0 : ((Q2g).alloc Q0d).alloc (.cells Q01 59) = w0 at *
 clear hw0 I
 have hB0 : B <= Q7r := Q7u hB K0.size
 obtain ⟨x0, x1, x2, x3, x4⟩ := row5 X0
 obtain ⟨p0, p1, p2, p3⟩ : w0.cell? ⟨Q7b, 0, none⟩ = some (.int .i64 x) /\ w0.cell? ⟨Q7b, 1, none⟩ = some (.int .i64 y) /\ w0.cell? ⟨Q7b, 2, none⟩ = some (.int .i64 z) /\ w0.cell? ⟨Q7b, 3, none⟩ = some (.int .i64 u) := ⟨by simpa using P0 0 _ rfl, by simpa using P0 1 _ rfl, by simpa using P0 2 _ rfl, by simpa using P0 3 _ rfl⟩
 go_wp2_with (refine Q7j rfl 53 (.tmp 8) rfl (Q7b + 1 + 1) 0 ?lx0 (hdC h) _ ?lc0 Q7d rfl (qz1 h) ?_)
 try (case lx0 => rfl)
 try (case lc0 => exact H0)
 refine (qzfk B A x y z u me h clk a0 a1 a2 a3 c0 c1 c2 c3 _ hB0 hA' I0).mono ?_
 rintro e w1 ⟨rfl, b0⟩
 have X1 := qz0 X0 b0 (by omega)
 have H1 := qz0 H0 b0 (by omega)
 have G1 := qz2 G0 b0 (by omega)
 have F1 := qz2 F0 b0 (by omega)
 have K1 := K0.trans (b0.mono (by omega))
 have I1 := I0.below (b0.mono hB0)
 have hz1 := Q7o hz0 b0.size
 have hB1 := Q7u hB0 b0.size
 clear P0 X0 H0 G0 F0 K0 I0 hz0 hB0 b0 x0 x1 x2 x3 x4 p0 p1 p2 p3
 obtain ⟨x0, x1, x2, x3, x4⟩ := row5 X1
 have zfin : ∀ (hb : qz1z x y z u A me h clk = false) (wz : World) (Fz : wz.there Q18 0 33) (Kz : Below Q7b w wz), qz8j w (qz35 x y z u A me h clk) (qz1z x y z u A me h clk) (.returned (.tuple #[.agg (Q1w).toArray, .bool false])) (wz.setCells Q18 0 Q1w) := by
  intro hb wz Fz Kz
  rw [qz5n hb, hb]
  exact qz8j.of rfl (qzf4 _ _) (qzer _) (Below.setCells (by omega) _ _ _ Kz)
 cases ef : fitB x y z u A me h clk
 case false =>
  have hb : qz1z x y z u A me h clk = false := by simp [qz1z, ef]
  have hbH : Hid (qz1z x y z u A me h clk = false) := hb
  clear hb
  go_wp2_with (refine Q7e rfl 59 (.tmp 10) (.tmp 21) rfl Q18 0 (Q1w).toArray ?hx1 ?hy1 ?ht1 (qzp _ _ _ _ _ _ _ _) Q0w ?_)
  try (case hx1 => rfl)
  try (case hy1 => rfl)
  case ht1 => exact F1
  refine bodyPost_ret (v := .tuple #[.agg (Q1w).toArray, .bool false]) ?_ rfl (zfin hbH.out w1 F1 K1)
  exact qzk Tryz.results22 _ _ Q18 0 rfl Q1w _ (Q7c _ _ _ _ F1) Q7p rfl (qz8 _ _ _ _ _ _ _ _)
 have FI := qzg5 ef
 have efH : Hid (fitB x y z u A me h clk = true) := ef
 clear ef
 go_wp2_with fail
 refine (qzc9 B A a0 a1 a2 a3 c0 c1 c2 c3 w1 hB1 hA' I1).mono ?_
 rintro e w2 ⟨cb, s, g, n, r, ps, qs, rfl, C2, b2⟩
 have X2 := qz0 X1 b2 (by omega)
 have H2 := qz0 H1 b2 (by omega)
 have G2 := qz2 G1 b2 (by omega)
 have F2 := qz2 F1 b2 (by omega)
 have K2 := K1.trans (b2.mono (by omega))
 have I2 := I1.below (b2.mono hB1)
 have hz2 := Q7o hz1 b2.size
 have hB2 := Q7u hB1 b2.size
 have hs12 := b2.size
 clear X1 H1 G1 F1 K1 I1 b2 x0 x1 x2 x3 x4
 have al0 := (Q7g Q7x w2).alloc (Q7l _) (.cells Q13 57)
 have al := Below.setCells (Q7l _) (ddC qz21) 0 _ al0
 have D0 : Blk (w2.alloc (.cells Q13 57)) Q7x 57 5 := Blk.new w2 Q13 57
 have D3 : Blk ((w2.alloc (.cells Q13 57)).setCells Q7x 0 (ddC qz21)) Q7x 57 5 := D0.setCells _ _ _
 have E3 : ((w2.alloc (.cells Q13 57)).setCells Q7x 0 (ddC qz21)).rangeAt Q7x 0 (ddC qz21) := Q7c _ _ _ _ (D0.there 0 5 (by omega))
 have C3 := C2.grown al
 have X3 := qz0 X2 al (by omega)
 have H3 := qz0 H2 al (by omega)
 have G3 := qz2 G2 al (by omega)
 have F3 := qz2 F2 al (by omega)
 have K3 := K2.trans (al.mono (by omega))
 have I3 := I2.below (al.mono hB2)
 have hz3 := Q7o hz2 al.size
 have hB3 := Q7u hB2 al.size
 have hs3 := al.size
 have hd3 := D3.lt
 clear X2 H2 G2 F2 K2 I2 C2 al al0
 go_upto_region 4 with (refine Q7e rfl 57 (.tmp 13) (.tmp 24) rfl Q7x 0 (ddC qz21).toArray ?hx2 ?hy2 ?ht2 (qz3c _) (qz4q _) ?_)
 try (case hx2 => rfl)
 try (case hy2 => rfl)
 try (case ht2 => exact D0.there 0 5 (by omega))
 rename_i K1' h1 K2' h2
 have fin : ∀ (u14 u15 u16 u17 u18 u19 u20 u21 u22 u23 u24 u25 u26 u27 u28 u29 u30 u31 u32 u33 u34 u35 u36 u37 u38 u39 u40 u41 u42 u43 u44 u45 u46 u47 u48 u49 u50 u51 u52 u53 u54 u55 u56 u57 u58 u59 u60 : Value) (h9 : Hd) (d9 : Dd) (A9 : Ar) (w9 : World), qz1m A h qz21 clk = (A9, h9, d9) -> qz1z x y z u A me h clk = true -> A9.size <= 1048576 -> w9.rangeAt (Q7b + 1 + 1) 0 (hdC h9) -> w9.rangeAt Q7x 0 (ddC d9) -> w9.there Q18 0 33 -> qz2k Q7k w9 cb s g n r ps qs A9 -> Below Q7b w w9 -> Q7x < w9.heap.size -> Q7b + 1 + 1 + 1 < Q7x ->
   K1' { tmps := #[.agg Q06, .agg Q02, .int .i64 me, .agg (hdC h).toArray, .int .i64 clk, .pointer (some ⟨Q7b, 0, none⟩), .pointer (some ⟨Q7b + 1, 0, none⟩), undef, .pointer (some ⟨Q7b + 1 + 1, 0, none⟩), undef, .pointer (some ⟨Q7b + 1 + 1 + 1, 0, none⟩), .bool false, .pointer (some ⟨cb, 0, none⟩), .pointer (some ⟨Q7x, 0, none⟩), u14, u15, u16, u17, u18, u19, u20, u21, u22, u23, u24, u25, u26, u27, u28, u29, u30, u31, u32, u33, u34, u35, u36, u37, u38, u39, u40, u41, u42, u43, u44, u45, u46, u47, u48, u49, u50, u51, u52, u53, u54, u55, u56, u57, u58, u59, u60, undef, undef, undef, undef, undef], defers := [] } w9 := by
  intro u14 u15 u16 u17 u18 u19 u20 u21 u22 u23 u24 u25 u26 u27 u28 u29 u30 u31 u32 u33 u34 u35 u36 u37 u38 u39 u40 u41 u42 u43 u44 u45 u46 u47 u48 u49 u50 u51 u52 u53 u54 u55 u56 u57 u58 u59 u60 h9 d9 A9 w9 hso hsb hA9 H9 E9 F9 C9 K9 hz9 hz9'
  refine h1 _ _ ?_
  clear h1 h2 K2'
  go_wp2_with fail
  have hz9'' : Q7b + 1 + 1 + 1 < w9.heap.size := by omega
  refine qz1x 5 (by kernel_rfl) (qz93 w9.heap.size cb A9 h9 d9) (fun _ => false) (by kernel_rfl) (by kernel_rfl) (by kernel_rfl) (by kernel_rfl) (by rfl) (fun i v w w' _ h hb => qz6n i v w w' h hb) (fun i v w q hf h hq => by cases hf) ?step ?final
  case step =>
   intro i o hik ho a V hb hnn hd K hK
   have HV := qz0 H9 hb (by omega)
   have EV := qz0 E9 hb hz9
   have CV := C9.grown hb
   match i, ho with
   | 0, ho =>
    obtain rfl := Q7i ho
    have e1 : a.eval (.tmp 12) = .pointer (some ⟨cb, 0, none⟩) := hnn 12 rfl
    refine qz4 (v := .pointer (some ⟨cb, 0, none⟩)) (w' := V) ?_ (hK _ _ rfl (Q7g _ _) (fun h => by cases h))
    clear HV EV CV
    generalize a.eval = ev at *
    go_simp
   | 1, ho =>
    obtain rfl := Q7i ho
    have e1 : a.eval (.tmp 61) = .pointer (some ⟨cb, 0, none⟩) := hd ⟨0, .data⟩ (by simp) rfl 61 rfl
    have ef : a.eval (.func 51) = .func (.func 51) #[] #[] := rfl
    refine qz1u (f := 51) (args := #[.pointer (some ⟨cb, 0, none⟩)]) (R := fun v w' => NewA V.heap.size A9 v w' /\ Below V.heap.size V w') ?_ ((qzdk V.heap.size cb s g n r A9 V (Q7l _) hA9 CV.cells).mono (fun e w' h => by obtain ⟨s', g', n', r', q0, q1, q2, q3, e1, N, Ty, bN⟩ := h; exact ⟨_, e1, ⟨s', g', n', r', q0, q1, q2, q3, rfl, N, Ty⟩, bN⟩)) (fun v w' h => hK v w' (by obtain ⟨s', g', n', r', q0, q1, q2, q3, e1, N, Ty⟩ := h.1; exact ⟨s', g', n', r', q0, q1, q2, q3, e1, N.lo hb.size, Ty⟩) h.2 (fun h => by cases h))
    clear HV EV CV
    generalize a.eval = ev at *
    go_simp
   | 2, ho =>
    obtain rfl := Q7i ho
    exact qz2d 53 (.tmp 8) rfl (Q7b + 1 + 1) 0 (hnn 8 rfl) (hdC h9) _ HV Q7d rfl (qz1 h9) (hK _ _ rfl (Q7g _ _) (fun h => by cases h))
   | 3, ho =>
    obtain rfl := Q7i ho
    exact qz2d 57 (.tmp 13) rfl Q7x 0 (hnn 13 rfl) (ddC d9) _ EV Tryz.underlying57 rfl (qz38 d9) (hK _ _ rfl (Q7g _ _) (fun h => by cases h))
   | 4, ho =>
    obtain rfl := Q7i ho
    obtain ⟨s', g', n', r', q0, q1, q2, q3, e1, N, Ty⟩ := (show NewA w9.heap.size A9 (a.eval (.tmp 62)) V from hd ⟨1, .data⟩ (by simp) rfl 62 rfl)
    have e2 : a.eval (.tmp 63) = .agg (hdC h9).toArray := hd ⟨2, .data⟩ (by simp) rfl 63 rfl
    have e3 : a.eval (.tmp 64) = .agg (ddC d9).toArray := hd ⟨3, .data⟩ (by simp) rfl 64 rfl
    obtain ⟨_, _, rfl⟩ := qz1y N.s
    obtain ⟨_, _, rfl⟩ := qz1y N.g
    obtain ⟨_, _, rfl⟩ := qz1y N.n
    obtain ⟨_, _, rfl⟩ := qz1y N.r
    refine qz4 (v := .agg (qzc A9.camera _ _ _ _ h9 d9 false).toArray) (w' := V) ?_ (hK _ _ ⟨_, _, _, _, _, _, _, _, q0, q1, q2, q3, rfl, N, Ty⟩ (Q7g _ _) (fun h => by cases h))
    clear HV EV CV N Ty
    simp only [hdC, ddC] at e2 e3
    simp only [qzc, hdC, ddC]
    generalize a.eval = ev at *
    go_simp
   | n + 5, ho => omega
  case final =>
   intro vs V hb hG _
   obtain ⟨q0, q1, q2, q3, k0, k1, k2, k3, r0, r1, r2, r3, g4, N, Ty⟩ := (show ∃ a0 a1 a2 a3 c0 c1 c2 c3 b0 b1 b2 b3, vs 4 = .agg (qzc A9.camera (.slice a0 A9.slots.length c0) (.slice a1 A9.guides.length c1) (.slice a2 A9.nodes.length c2) (.slice a3 A9.vers.length c3) h9 d9 false).toArray /\ qz30 w9.heap.size V (.slice a0 A9.slots.length c0) (.slice a1 A9.guides.length c1) (.slice a2 A9.nodes.length c2) (.slice a3 A9.vers.length c3) A9 b0 b1 b2 b3 /\ TypA V A9 b0 b1 b2 b3 from hG 4 (by decide))
   have FV := qz2 F9 hb hz9''
   have KV := K9.trans (hb.mono (by omega))
   generalize hl : laid _ vs _ _ _ = A'
   have hA'' : A' = { tmps := #[.agg Q06, .agg Q02, .int .i64 me, .agg (hdC h).toArray, .int .i64 clk, .pointer (some ⟨Q7b, 0, none⟩), .pointer (some ⟨Q7b + 1, 0, none⟩), undef, .pointer (some ⟨Q7b + 1 + 1, 0, none⟩), undef, .pointer (some ⟨Q7b + 1 + 1 + 1, 0, none⟩), .bool false, .pointer (some ⟨cb, 0, none⟩), .pointer (some ⟨Q7x, 0, none⟩), u14, u15, u16, u17, u18, u19, u20, u21, u22, u23, u24, u25, u26, u27, u28, u29, u30, u31, u32, u33, u34, u35, u36, u37, u38, u39, u40, u41, u42, u43, u44, u45, u46, u47, u48, u49, u50, u51, u52, u53, u54, u55, u56, u57, u58, u59, u60, vs 0, vs 1, vs 2, vs 3, vs 4], defers := [] } := by
    rw [<- hl]
    kernel_rfl
   subst hA''
   rw [g4]
   clear hl hG g4
   simp only [List.drop_succ_cons, List.drop_zero]
   have hq : Hid (qz35 x y z u A me h clk = (A9, h9, d9)) := by show _ = _; rw [qz5a hsb, hso]
   have hqb : Hid (qz1z x y z u A me h clk = true) := hsb
   clear hso hsb
   go_wp2_with (refine Q7e rfl 59 (.tmp 10) (.tmp 65) rfl Q18 0 (Q3v).toArray ?hx5 ?hy5 ?ht5 (qzp _ _ _ _ _ _ _ _) Q0w ?_)
   try (case hx5 => rfl)
   try (case hy5 => rfl)
   case ht5 => exact FV
   refine bodyPost_ret (v := .tuple #[.agg (Q3v).toArray, .bool true]) ?_ rfl (by rw [hq.out, hqb.out]; exact qz8j.of rfl ((N.elder' hz9'' (qzi _ _ _ _)).lo K9.size) (Ty.setCells _ _ _) (Below.setCells (by omega) _ _ _ KV))
   exact qzk Tryz.results22 _ _ Q18 0 rfl Q3v _ (Q7c _ _ _ _ FV) Q7p rfl (qz8 _ _ _ _ _ _ _ _)
 clear h1
 generalize hw3 : (w2.alloc (.cells Q13 57)).setCells Q7x 0 (ddC qz21) = w3 at *
 clear hw3 D0
 obtain ⟨x0, x1, x2, x3, x4⟩ := row5 X3
 have q0 : w3.cell? ⟨Q7b + 1 + 1, 0, none⟩ = some (.int .i64 h.at_) := by simpa using H3 0 (.int .i64 h.at_) rfl
 have q10 : w3.cell? ⟨Q7b + 1 + 1, 10, none⟩ = some (.int .i64 h.x_) := by simpa using H3 10 (.int .i64 h.x_) rfl
 have f0 : w3.frozen? ⟨Q7b + 1 + 1, 0, none⟩ = false := by simpa using (G3 0 (by omega)).2
 have f11 : w3.frozen? ⟨Q7b + 1 + 1, 11, none⟩ = false := by simpa using (G3 11 (by omega)).2
 have f12 : w3.frozen? ⟨Q7b + 1 + 1, 12, none⟩ = false := by simpa using (G3 12 (by omega)).2
 have f13 : w3.frozen? ⟨Q7b + 1 + 1, 13, none⟩ = false := by simpa using (G3 13 (by omega)).2
 have q11 : w3.cell? ⟨Q7b + 1 + 1, 11, none⟩ = some (.int .i64 h.ver) := by simpa using H3 11 (.int .i64 h.ver) rfl
 have q12 : w3.cell? ⟨Q7b + 1 + 1, 12, none⟩ = some (.int .i64 h.cam) := by simpa using H3 12 (.int .i64 h.cam) rfl
 have q13 : w3.cell? ⟨Q7b + 1 + 1, 13, none⟩ = some (.int .i64 h.camAt) := by simpa using H3 13 (.int .i64 h.camAt) rfl
 have hbB2 : Q7b + 1 + 1 < Q7k := by omega
 have sbY : ∀ k : Int, h.at_ = k -> 2 <= k -> k <= 5 -> Hid (qz1z x y z u A me h clk = true) := by
  intro k hk h2 h5
  show _ = _
  rw [qz1z, efH.out, Bool.true_and, qz18]
  omega
 by_cases e2 : h.at_ = 2
 case pos =>
  have hsb := sbY 2 e2 (by omega) (by omega)
  obtain ⟨xk, hxk⟩ : ∃ k : Nat, h.x_ = k := ⟨h.x_.toNat, by have := FI.x0; omega⟩
  have hxl : xk < Q7f := by have := FI.x1; omega
  have hd : Hid (qz1m A h qz21 clk = (A, { h with ver := A.nodes[xk].head, at_ := 3 }, qz21)) := by show _ = _; rw [qz1m, if_pos e2, hxk, qz1d A xk hxl]
  have hxk0 : (0 : Int) <= (xk : Int) := by omega
  have hxk1 : (xk : Int) < (Q7f : Int) := by omega
  obtain ⟨nb, no, rfl, hnb, RN⟩ := qzq.at I3.n (by omega)
  have RN2 := qze (sz := 3) (fun _ => rfl) RN xk hxl
  have c2 : w3.cell? ⟨nb, no + xk * 3 + 2, none⟩ = some (.int .i64 A.nodes[xk].head) := RN2 2 _ rfl
  rw [e2] at q0
  rw [hxk] at q10
  clear RN RN2 e2 hxk sbY FI efH
  have O1 : Only (Q7b + 1 + 1) w3 Q4f := ((Only.refl (Q7b + 1 + 1) w3).setCell (p := ⟨Q7b + 1 + 1, 11, none⟩) (Or.inl rfl) _).setCell (p := ⟨Q7b + 1 + 1, 0, none⟩) (Or.inl rfl) _
  have H9 : (Q4f).rangeAt (Q7b + 1 + 1) 0 (hdC { h with ver := A.nodes[xk].head, at_ := 3 }) := qzb (qzb H3 11 (by show _ < 22; omega) (.int .i64 A.nodes[xk].head)) 0 (by show _ < 22; omega) (.int .i64 3)
  have B9 : But (fun q => q = Q7b + 1 + 1) w3 Q4f := But.of_only O1 rfl
  go_wp2_with fail
  exact fin _ _ _ _ _ _ _ _ _ _ _ _ _ _ _ _ _ _ _ _ _ _ _ _ _ _ _ _ _ _ _ _ _ _ _ _ _ _ _ _ _ _ _ _ _ _ _ _ _ _ _ hd.out hsb.out hA' H9 (B9.range E3 hd3 (by omega)) (B9.there F3 (by omega) (by omega)) (C3.but B9 (fun b hb _ he => by omega)) (K3.trans (B9.below (by omega) (fun k hk => by omega))) (Q7o hd3 B9.size) (by omega)
 by_cases e3 : h.at_ = 3
 case pos =>
  have hsb := sbY 3 e3 (by omega) (by omega)
  have hd : Hid (qz1m A h qz21 clk = (A, qzdq A h, qz21)) := by
   show _ = _
   rw [qz1m, if_neg e2, if_pos e3, qzdq]
   split <;> simp [*, qz1k]
  rw [e3] at q0
  clear e2 e3 sbY efH f0 f11 f12 f13 q10 q11 q12 q13
  go_wp2_with (refine Q7j rfl 53 (.tmp 8) rfl (Q7b + 1 + 1) 0 ?lx3 (hdC h) _ ?lc3 Q7d rfl (qz1 h) ?_)
  try (case lx3 => rfl)
  try (case lc3 => exact H3)
  refine (qz65 B A h a0 a1 a2 a3 c0 c1 c2 c3 w3 hB3 hA' I3 x y z u FI).mono ?_
  rintro e w4 ⟨rfl, b4⟩
  have H4 := qz0 H3 b4 (by omega)
  have G4 := qz2 G3 b4 (by omega)
  have F4 := qz2 F3 b4 (by omega)
  have E4 := qz0 E3 b4 hd3
  have C4 := C3.grown b4
  have K4 := K3.trans (b4.mono (by omega))
  have hs4 := b4.size
  clear H3 G3 F3 E3 C3 K3 I3 q0 x0 x1 x2 x3 x4
  have H9 : (w4.setCells (Q7b + 1 + 1) 0 (hdC (qzdq A h))).rangeAt (Q7b + 1 + 1) 0 (hdC (qzdq A h)) := Q7c _ _ _ _ G4
  have B9 : But (fun q => q = Q7b + 1 + 1) w4 (w4.setCells (Q7b + 1 + 1) 0 (hdC (qzdq A h))) := But.of_only (qzi _ _ _ _) rfl
  go_wp2_with (refine Q7e rfl 53 (.tmp 8) _ rfl (Q7b + 1 + 1) 0 (hdC (qzdq A h)).toArray ?hx6 ?hy6 ?ht6 (qz7 _) (qzd _) ?_)
  try (case hx6 => rfl)
  try (case hy6 => rfl)
  try (case ht6 => exact G4)
  exact fin _ _ _ _ _ _ _ _ _ _ _ _ _ _ _ _ _ _ _ _ _ _ _ _ _ _ _ _ _ _ _ _ _ _ _ _ _ _ _ _ _ _ _ _ _ _ _ _ _ _ _ hd.out hsb.out hA' H9 (B9.range E4 (by omega) (by omega)) (B9.there F4 (by omega) (by omega)) (C4.but B9 (fun b hb _ he => by omega)) (K4.trans (B9.below (by omega) (fun k hk => by omega))) (Q7o (by omega) B9.size) (by omega)
 by_cases e4 : h.at_ = 4
 case pos =>
  have hsb := sbY 4 e4 (by omega) (by omega)
  have hd : Hid (qz1m A h qz21 clk = (A, { h with cam := Q7m, camAt := clk, at_ := 5 }, qz21)) := by show _ = _; rw [qz1m, if_neg e2, if_neg e3, if_pos e4]
  rw [e4] at q0
  clear e2 e3 e4 sbY efH
  have O1 : Only (Q7b + 1 + 1) w3 Q31 := (((Only.refl (Q7b + 1 + 1) w3).setCell (p := ⟨Q7b + 1 + 1, 12, none⟩) (Or.inl rfl) _).setCell (p := ⟨Q7b + 1 + 1, 13, none⟩) (Or.inl rfl) _).setCell (p := ⟨Q7b + 1 + 1, 0, none⟩) (Or.inl rfl) _
  have H9 : (Q31).rangeAt (Q7b + 1 + 1) 0 (hdC { h with cam := Q7m, camAt := clk, at_ := 5 }) := qzb (qzb (qzb H3 12 (by show _ < 22; omega) (.int .i64 Q7m)) 13 (by show _ < 22; omega) (.int .i64 clk)) 0 (by show _ < 22; omega) (.int .i64 5)
  have B9 : But (fun q => q = Q7b + 1 + 1) w3 Q31 := But.of_only O1 rfl
  go_wp2_with fail
  exact fin _ _ _ _ _ _ _ _ _ _ _ _ _ _ _ _ _ _ _ _ _ _ _ _ _ _ _ _ _ _ _ _ _ _ _ _ _ _ _ _ _ _ _ _ _ _ _ _ _ _ _ hd.out hsb.out hA' H9 (B9.range E3 hd3 (by omega)) (B9.there F3 (by omega) (by omega)) (C3.but B9 (fun b hb _ he => by omega)) (K3.trans (B9.below (by omega) (fun k hk => by omega))) (Q7o hd3 B9.size) (by omega)
 by_cases e5 : h.at_ = 5
 case neg =>
  have hb : Hid (qz1z x y z u A me h clk = false) := by
   show _ = _
   rw [qz1z, efH.out, Bool.true_and, Bool.eq_false_iff]
   intro hc
   rw [qz18] at hc
   omega
  have b2 : (h.at_ == 2) = false := by simp [e2]
  have b3 : (h.at_ == 3) = false := by simp [e3]
  have b4 : (h.at_ == 4) = false := by simp [e4]
  have b5 : (h.at_ == 5) = false := by simp [e5]
  clear e2 e3 e4 e5 sbY efH
  go_wp2_with (refine Q7e rfl 59 (.tmp 10) (.tmp 27) rfl Q18 0 (Q1w).toArray ?hx7 ?hy7 ?ht7 (qzp _ _ _ _ _ _ _ _) Q0w ?_)
  try (case hx7 => rfl)
  try (case hy7 => rfl)
  case ht7 => exact F3
  refine bodyPost_ret (v := .tuple #[.agg (Q1w).toArray, .bool false]) ?_ rfl (zfin hb.out w3 F3 K3)
  exact qzk Tryz.results22 _ _ Q18 0 rfl Q1w _ (Q7c _ _ _ _ F3) Q7p rfl (qz8 _ _ _ _ _ _ _ _)
 have hsb := sbY 5 e5 (by omega) (by omega)
 have hd : Hid (qz1m A h qz21 clk = (qz6p A h, onH (qz6p A h) h, qz9g A h)) := by
  show _ = _
  rw [qz1m, if_neg e2, if_neg e3, if_neg e4, if_pos e5, qz6p, qz9g]
  split <;> simp [*]
 have hAs : (qz6p A h).size <= 1048576 := by
  rw [qz6p]
  split
  ·exact hA'
  ·rw [qz67]; exact hA'
 have hOk : Hid (qz1a x y z u (qz6p A h) = true) := by
  show _ = _
  rw [qz6p]
  split
  ·exact FI.ok
  ·exact qze3 FI.ok FI.m0 FI.v0 FI.v1
 have hnl : Hid ((qz6p A h).nodes.length = Q7f) := by show _ = _; rw [qz6p]; split <;> simp [qz44]
 have hvl : Hid ((qz6p A h).vers.length = Q7h) := by show _ = _; rw [qz6p]; split <;> simp [qz44]
 rw [e5] at q0
 clear e2 e3 e4 e5 sbY efH f0 f11 f12 f13 q10 q11 q12 q13
 go_wp2_with (refine Q7j rfl 53 (.tmp 8) rfl (Q7b + 1 + 1) 0 ?lx8 (hdC h) _ ?lc8 Q7d rfl (qz1 h) ?_)
 try (case lx8 => rfl)
 try (case lc8 => exact H3)
 refine (qz9v Q7k cb s g n r ps qs A h w3 (by omega) hA' C3 x y z u FI.ok FI.v0 FI.v1 FI.x0 FI.x1).mono ?_
 rintro e w4 ⟨rfl, C4, b4, O4⟩
 have hnd : ¬ (∃ m, Blk w3 Q7x 65 m) := fun ⟨m, hm⟩ => (D3.ne hm (by decide)) rfl
 have H4 := qz0 H3 b4 (by omega)
 have G4 := qz2 G3 b4 (by omega)
 have F4 := qz2 F3 b4 (by omega)
 have D4 := D3.but O4 hnd
 have K4 := K3.trans (b4.mono (by omega))
 have hs4 := b4.size
 have hs4' := O4.size
 clear H3 G3 F3 E3 C3 K3 I3 D3 q0 x0 x1 x2 x3 x4 hnd O4 b4
 have H5 : (Q5r).rangeAt (Q7b + 1 + 1) 0 (hdC h) := Q7t H4 _ _ _ (Or.inl (by omega))
 have G5 : (Q5r).there (Q7b + 1 + 1) 0 22 := Q81 G4 _ _ _
 have F5 : (Q5r).there Q18 0 33 := Q81 F4 _ _ _
 have E5 : (Q5r).rangeAt Q7x 0 (ddC (qz9g A h)) := Q7c _ _ _ _ (D4.there 0 5 (by omega))
 have C5 := C4.aside D4 (by decide) (by decide) (by decide) (by decide) (by decide) (by decide) (qzi Q7x (ddC (qz9g A h)) 0 w4)
 have K5 := Below.setCells (B := Q7b) (by omega) (ddC (qz9g A h)) 0 (b := Q7x) _ K4
 have hs5 : w4.heap.size <= (Q5r).heap.size := Nat.le_of_eq (qzn _ _ _ _).symm
 have T4 := D4.there 0 5 (by omega)
 clear H4 G4 F4 C4 K4 D4
 go_upto_region 14 with (refine Q7e rfl 57 (.tmp 13) _ rfl Q7x 0 (ddC (qz9g A h)).toArray ?hx8 ?hy8 ?ht8 (qz3c _) (qz4q _) ?_)
 try (case hx8 => rfl)
 try (case hy8 => rfl)
 try (case ht8 => exact T4)
 generalize hw5 : w4.setCells Q7x 0 (ddC (qz9g A h)) = w5 at *
 clear hw5 T4
 refine qz1x 3 (by kernel_rfl) (qz93 Q84 cb (qz6p A h) h qz21) (fun _ => false) (by kernel_rfl) (by kernel_rfl) (by kernel_rfl) (by kernel_rfl) (by rfl) (fun i v w w' _ h hb => qz6n i v w w' h hb) (fun i v w q hf h hq => by cases hf) ?step ?final
 case step =>
  intro i o hik ho a V hb hnn hd K hK
  have HV := qz0 H5 hb (by omega)
  have CV := C5.grown hb
  match i, ho with
  | 0, ho =>
   obtain rfl := Q7i ho
   have e1 : a.eval (.tmp 12) = .pointer (some ⟨cb, 0, none⟩) := hnn 12 rfl
   refine qz4 (v := .pointer (some ⟨cb, 0, none⟩)) (w' := V) ?_ (hK _ _ rfl (Q7g _ _) (fun h => by cases h))
   clear HV CV
   generalize a.eval = ev at *
   go_simp
  | 1, ho =>
   obtain rfl := Q7i ho
   have e1 : a.eval (.tmp 57) = .pointer (some ⟨cb, 0, none⟩) := hd ⟨0, .data⟩ (by simp) rfl 57 rfl
   have ef : a.eval (.func 51) = .func (.func 51) #[] #[] := rfl
   refine qz1u (f := 51) (args := #[.pointer (some ⟨cb, 0, none⟩)]) (R := fun v w' => NewA V.heap.size (qz6p A h) v w' /\ Below V.heap.size V w') ?_ ((qzdk V.heap.size cb s g n r (qz6p A h) V (Q7l _) hAs CV.cells).mono (fun e w' h => by obtain ⟨s', g', n', r', q0, q1, q2, q3, e1, N, Ty, bN⟩ := h; exact ⟨_, e1, ⟨s', g', n', r', q0, q1, q2, q3, rfl, N, Ty⟩, bN⟩)) (fun v w' h => hK v w' (by obtain ⟨s', g', n', r', q0, q1, q2, q3, e1, N, Ty⟩ := h.1; exact ⟨s', g', n', r', q0, q1, q2, q3, e1, N.lo hb.size, Ty⟩) h.2 (fun h => by cases h))
   clear HV CV
   generalize a.eval = ev at *
   go_simp
  | 2, ho =>
   obtain rfl := Q7i ho
   exact qz2d 53 (.tmp 8) rfl (Q7b + 1 + 1) 0 (hnn 8 rfl) (hdC h) _ HV Q7d rfl (qz1 h) (hK _ _ rfl (Q7g _ _) (fun h => by cases h))
  | n + 3, ho => omega
 case final =>
  intro vs V hb hG _
  obtain ⟨s', g', n', r', r0, r1, r2, r3, g1, N, Ty⟩ := (show NewA Q84 (qz6p A h) (vs 1) V from hG 1 (by decide))
  have g2 : vs 2 = .agg (hdC h).toArray := hG 2 (by decide)
  obtain ⟨q0, k0, rfl⟩ := qz1y N.s
  obtain ⟨q1, k1, rfl⟩ := qz1y N.g
  obtain ⟨q2, k2, rfl⟩ := qz1y N.n
  obtain ⟨q3, k3, rfl⟩ := qz1y N.r
  have G6 := qz2 G5 hb (by omega)
  have F6 := qz2 F5 hb (by omega)
  have E6 := qz0 E5 hb (by omega)
  have C6 := C5.grown hb
  have K6 := K5.trans (hb.mono (by omega))
  have hs6 := hb.size
  generalize hl : laid _ vs _ _ _ = A'
  have hA'' : A' = { tmps := #[.agg Q06, .agg Q02, .int .i64 me, .agg (hdC h).toArray, .int .i64 clk, .pointer (some ⟨Q7b, 0, none⟩), .pointer (some ⟨Q7b + 1, 0, none⟩), undef, .pointer (some ⟨Q7b + 1 + 1, 0, none⟩), undef, .pointer (some ⟨Q7b + 1 + 1 + 1, 0, none⟩), .bool false, .pointer (some ⟨cb, 0, none⟩), .pointer (some ⟨Q7x, 0, none⟩), .agg Q06, .agg Q02, .int .i64 me, .agg (hdC h).toArray, .int .i64 clk, .bool true, .bool false, undef, .agg Q02, .pointer (some ⟨cb, 0, none⟩), .agg Q13, .pointer (some ⟨Q7b + 1 + 1, 0, none⟩), .int .i64 5, undef, .bool false, .bool false, undef, undef, undef, undef, undef, undef, undef, undef, undef, .bool false, .bool false, undef, undef, undef, .bool false, .bool false, undef, undef, undef, undef, undef, undef, .bool true, .bool true, .pointer (some ⟨cb, 0, none⟩), .agg (hdC h).toArray, .agg (ddC (qz9g A h)).toArray, vs 0, vs 1, vs 2, undef, undef, undef, undef, undef, undef], defers := [] } := by
   rw [<- hl]
   kernel_rfl
  subst hA''
  rw [g1, g2]
  clear hl hG g1 g2 hb H5 G5 F5 E5 C5 K5
  simp only [List.drop_succ_cons, List.drop_zero]
  go_wp2_with fail
  refine (qz9h V.heap.size (qz6p A h) h _ _ _ _ _ _ _ _ V (Q7l _) hAs N.is x y z u hOk.out FI.v0 (by rw [hvl.out]; exact FI.v1) FI.x0 (by rw [hnl.out]; exact FI.x1) FI.c0 (by rw [hnl.out]; exact FI.c1) FI.n0 FI.o0 FI.o1 FI.s0 FI.s1 FI.t0 FI.t1).mono ?_
  rintro e w7 ⟨rfl, b7⟩
  have G7 := qz2 G6 b7 (by omega)
  have F7 := qz2 F6 b7 (by omega)
  have E7 := qz0 E6 b7 (by omega)
  have C7 := C6.grown b7
  have K7 := K6.trans (b7.mono (by omega))
  have hs7 := b7.size
  have H9 : (w7.setCells (Q7b + 1 + 1) 0 (hdC (onH (qz6p A h) h))).rangeAt (Q7b + 1 + 1) 0 (hdC (onH (qz6p A h) h)) := Q7c _ _ _ _ G7
  have B9 : But (fun q => q = Q7b + 1 + 1) w7 (w7.setCells (Q7b + 1 + 1) 0 (hdC (onH (qz6p A h) h))) := But.of_only (qzi _ _ _ _) rfl
  clear N Ty G6 F6 E6 C6 K6 b7
  go_wp2_with (refine Q7e rfl 53 (.tmp 8) _ rfl (Q7b + 1 + 1) 0 (hdC (onH (qz6p A h) h)).toArray ?hx9 ?hy9 ?ht9 (qz7 _) (qzd _) ?_)
  try (case hx9 => rfl)
  try (case hy9 => rfl)
  try (case ht9 => exact G7)
  exact fin _ _ _ _ _ _ _ _ _ _ _ _ _ _ _ _ _ _ _ _ _ _ _ _ _ _ _ _ _ _ _ _ _ _ _ _ _ _ _ _ _ _ _ _ _ _ _ _ _ _ _ hd.out hsb.out hAs H9 (B9.range E7 (by omega) (by omega)) (B9.there F7 (by omega) (by omega)) (C7.but B9 (fun b hb _ he => by omega)) (K7.trans (B9.below (by omega) (fun k hk => by omega))) (Q7o (by omega) B9.size) (by omega)
end
section
def qzaq (A A' : Ar) (h : Hd) (d : Dd) : Prop := (A'.vers = A.vers /\ d = qz21) ∨ ∃ (i : Nat) (hi : i < Q7h) (s : Int), A'.vers = A.vers.set i { A.vers[i] with stamp := s } /\ A.vers[i].stamp = -1 /\ 0 <= s /\ s <= Q7m /\ h.at_ = 5 /\ d.kind = A.vers[i].kind
theorem qzeb {x y z u : Int} {A : Ar} {me : Int} {h : Hd} {clk : Int} (e : qz1z x y z u A me h clk = true) : qzaq A (qz1m A h qz21 clk).1 h (qz1m A h qz21 clk).2.2 := by
 unfold qz1z at e
 simp only [Bool.and_eq_true] at e
 have F := qzg5 e.1
 have hcam := (qz2a F.ok).1
 unfold qz8m at hcam
 simp only [Bool.and_eq_true, qz18] at hcam
 have v0 := F.v0
 have v1 := F.v1
 have m0 := F.m0
 have hi : h.ver.toNat < Q7h := by omega
 have hv : vrOf A h.ver = A.vers[h.ver.toNat] := by unfold vrOf; simp [List.getD, hi]
 unfold qz1m
 split
 ·exact Or.inl ⟨rfl, rfl⟩
 split
 ·split <;> exact Or.inl ⟨rfl, rfl⟩
 split
 ·exact Or.inl ⟨rfl, rfl⟩
 split
 ·rename_i e5
  split
  ·exact Or.inl ⟨rfl, rfl⟩
  ·rename_i hns
   have hst : (vrOf A h.ver).stamp = -1 := by
    unfold qz1v at hns
    simp only [Bool.and_eq_true, qz18, bne_iff_ne, ne_eq, not_and, Decidable.not_not] at hns
    exact hns ⟨by omega, by omega⟩
   have hk : (vrOf (qz44 A h) h.ver).kind = (vrOf A h.ver).kind := by
    show ((A.vers.set h.ver.toNat { vrOf A h.ver with stamp := min h.cam Q7m }).getD h.ver.toNat ⟨-1, false, -1, -1, 0⟩).kind = _
    generalize vrOf A h.ver = q
    simp [List.getD, hi]
   refine Or.inr ⟨h.ver.toNat, hi, min h.cam Q7m, ?_, ?_, by omega, by omega, e5, ?_⟩
   ·show A.vers.set _ _ = _
    rw [hv]
   ·rw [<- hv]; exact hst
   ·rw [<- hv, <- hk]
    unfold qz3p
    split
    ·rename_i h0; exact h0.symm
    ·rfl
 ·exact Or.inl ⟨rfl, rfl⟩
end
section
theorem qzc3 (g : Hd) (w : World) : (Op.equalIn 10000 53 (.agg (hdC g).toArray) (.agg (hdC g).toArray)).run Tryz.prog w = .ok true w := by
 have hS : Tryz.prog.underlying 53 = some (.struct (Tryz.prog.fieldsOf 53)) := by kernel_rfl
 have hp : Tryz.prog.stoodInHeld 53 = false := by kernel_rfl
 rw [show (10000 : Nat) = 9999 + 1 from rfl, run_equalIn_agg w 9999 53 _ _ hS hp]
 simp only [Program.fieldsOf, Tryz.underlying53, hdC]
 go_simp
theorem qzbx (ev : Operand -> Value) (o : Oper) (x y : Operand) (t' : TypeId) (ho : o.op = .binOp .eql 53 x y t') (g : Hd) (hx : ev x = .agg (hdC g).toArray) (hy : ev y = .agg (hdC g).toArray) (w : World) : (execOp ev o).run Tryz.prog w = .ok (.value (.bool true)) w := by
 have hm : Tryz.prog.eqGuardType Tryz.prog.depth 53 = false := by kernel_rfl
 have h1 := qzc3 g w
 simp [execOp, ho, hx, hy, run_eqGuard_agg w .eql 53 x y _ _ hm, run_eql_struct, h1, Result.andThen]
end
end Go.Proofs.YthjkdnlmopafkaaGreat
