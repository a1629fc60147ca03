/-
  Going on and walking change the hand alone: at every list of bytes the law of going on returns true and leaves its argument as it was. No condition.
-/
import Derived.Test.YtclkglkhhnapiaaGreatFnWent00
import Derived.Test.YtclkglkhhnapiaaGreatFnWent02
import Derived.Test.YtclkglkhhnapiaaGreatFnWent39
import Derived.Test.YtclkglkhhnapiaaGreatFnWent40
import Derived.Test.YtclkglkhhnapiaaGreatFnWent50
namespace Go.Proofs.YtclkglkhhnapiaaGreat
open Go.ChangeShapes Go.WideShapes Go.ChangeAt Go.RowKit
set_option maxRecDepth 100000
set_option maxHeartbeats 16000000
set_option linter.unusedVariables false
set_option linter.unusedSimpArgs false
set_option linter.unnecessarySimpa false
set_option linter.unusedSectionVars false
section
open Go.ChangeShapes Go.WideShapes Go.ChangeAt Go.RowKit Go.Sort
attribute [local go_sem ↓] Go.wp_at_zero Go.wp_at_succ
theorem qzbw {H : Type} {enc : TypeId × Value -> H} {W : World} {r : Reach} {b0 base : Nat} {spare : Nat -> Bool} {held : Bool} {v : Value} {d : DataW H} {p : List MemPlace} (hv : Value.okWide Tryz.prog W r b0 22 v) (h : DataW.Trod enc Tryz.prog W base spare held 22 v d p) :
  ∃ a len cap, v = .slice a len cap /\ qz1h W.heap.size W a len := by
 obtain ⟨a, len, cap, rfl⟩ := okWide_slice Tryz.underlying22 hv
 obtain ⟨fuel, hf⟩ := h
 refine ⟨a, len, cap, rfl, ?_⟩
 rcases open_ints Tryz.underlying22 Tryz.underlying5 (by kernel_rfl) hf with ⟨hcs, _⟩ | ⟨x, l, c, zs, hcs, _, hl, hm, hz, _, hcell, hwz⟩
 ·simp [Value.cells] at hcs
  obtain ⟨rfl, rfl, rfl⟩ := hcs
  intro j hj
  omega
 ·simp [Value.cells] at hcs
  obtain ⟨rfl, rfl, rfl⟩ := hcs
  intro j hj
  have hj2 : j < zs.length := by
   rw [hz]
   split <;> omega
  have hc := hcell j hj2
  obtain ⟨bb, off, spot⟩ := x
  have hspot : spot = none := by simpa [Addr.add] using World.cell?_spot (hcell 0 (by omega))
  subst hspot
  rw [Addr.add_mid] at hc
  have hw := hwz (zs.getD j 0) (by rw [List.getD_eq_getElem?_getD, List.getElem?_eq_getElem hj2]; exact List.getElem_mem hj2)
  have hb := bounds_u8 hw
  exact ⟨bb, off, zs.getD j 0, rfl, World.block_lt_of_cell? W _ hc, hc, hb.1, hb.2⟩
theorem qz7c (A : Ar) (h : Hd) : (qz15 A h).begin = h.begin ∨ (qz15 A h).at_ = 0 := by
 unfold qz15
 repeat' split
 all_goals simp [qz9]
theorem qzc8 (A : Ar) (h : Hd) (n : Int) : (qz2s A h n).begin = h.begin ∨ (qz2s A h n).at_ = 0 := by
 unfold qz2s
 split
 ·exact qz7c A _
 ·exact Or.inl rfl
theorem qzdc (A : Ar) (h : Hd) : (useH A h).begin = h.begin ∨ (useH A h).at_ = 0 := by
 unfold useH
 repeat' split
 all_goals first | exact Or.inl rfl | exact Or.inr rfl | (simp [qz9, qz5i])
theorem qze9 (A : Ar) (h : Hd) : (onH A h).begin = h.begin ∨ (onH A h).at_ = 0 := by
 unfold onH
 repeat' split
 all_goals first | exact qzc8 A _ _ | exact qz7c A _ | exact qzdc A _ | exact Or.inl rfl | exact Or.inr rfl
theorem qzep {A : Ar} {h : Hd} {n : Int} (hn : 0 <= n) : (qz2s A h n).x_ = n /\ (qz2s A h n).curr = n /\ (qz2s A h n).at_ = 2 := by
 unfold qz2s
 rw [if_neg (by omega)]
 exact ⟨rfl, rfl, rfl⟩
theorem qz46 {P : Program} {ops : Array Oper} {rest : List Oper} {op : Oper} {a : Act} {w : World} {Q : Exit -> Act -> World -> Prop} (hw : Region.wanted op (yielded ops a.tmps) = true) (v : Value)
  (he : (execOp a.eval op).run P w = .ok (.value v) w) (h : wpList P ops Q rest (a.put op.dst v) w) : wpList P ops Q (op :: rest) a w :=
 wpList_step fun K hK => by
  rw [if_pos hw]
  unfold Oper.wp
  rw [he]
  exact hK _ _ h
theorem qz6v (ev : Operand -> Value) (o : Oper) (x y : Operand) (t' : TypeId) (ho : o.op = .binOp .neq 32 x y t') (g : Hd) (hx : ev x = .agg (hdC g).toArray) (hy : ev y = .agg (hdC g).toArray) (w : World) : (execOp ev o).run Tryz.prog w = .ok (.value (.bool false)) w := by
 have hm : Tryz.prog.eqGuardType Tryz.prog.depth 32 = false := by kernel_rfl
 have h1 := qzao g w
 simp [execOp, ho, hx, hy, run_eqGuard_agg w .neq 32 x y _ _ hm, run_neq_struct, h1, Result.andThen]
theorem qzb1 (a : Option Addr) (len cap : Nat) (w : World) (C : qz1h w.heap.size w a len) :
  Calls Tryz.prog 3 #[.slice a len cap] w fun e w' => e = .returned (.bool true) /\ Below w.heap.size w w' := by
 by_cases hbig : (4096 : Int) < (len : Int)
 ·go_enter Tryz.func3, Tryz.ntmps3
  go_wp2_with (go_at_call 6; refine (qzdy _ _ _ _).mono ?_; rintro e w' ⟨rfl, rfl⟩)
  go_ret
  exact ⟨rfl, Below.refl _ _⟩
 have hlen : len <= 4096 := by omega
 have hbf : decide ((4096 : Int) < (len : Int)) = false := by simpa using hbig
 go_enter Tryz.func3, Tryz.ntmps3
 go_wp2_with fail
 refine (qzdy _ _ _ _).mono ?_
 rintro e w0 ⟨rfl, hw⟩
 obtain rfl := hw.symm
 rw [hbf]
 go_wp2_with fail
 refine (qz85 a len cap w hlen C).mono ?_
 rintro e w1 ⟨x, y, z, u, A, a0, a1, a2, a3, c0, c1, c2, c3, hd, rfl, hAs, hx, hnl, hvl, I1, far1, K1⟩
 obtain ⟨X, hX⟩ : ∃ X, Hid (qz3v x y z u A hd = X) := ⟨_, rfl⟩
 obtain ⟨bI, hbI⟩ : ∃ r, Hid (qz30 x y z u A hd = r) := ⟨_, rfl⟩
 have T1 := World.there_alloc (World.there_alloc (qz8 w1 Q2r 25 4 (by decide)) (.cells Q0c 30)) (.cells Q00 32)
 have T2 := World.there_alloc (qz8 (w1.alloc Q0q) Q0c 30 5 (by decide)) (.cells Q00 32)
 have T3 := qz8 ((w1.alloc Q0q).alloc (.cells Q0c 30)) Q00 32 22 (by decide)
 have al := (((Below.refl w1.heap.size w1).alloc (Nat.le_refl _) Q0q).alloc (by simp) (.cells Q0c 30)).alloc (by simp; omega) (.cells Q00 32)
 have hzA : (((w1.alloc Q0q).alloc (.cells Q0c 30)).alloc (.cells Q00 32)).heap.size = w1.heap.size + 1 + 1 + 1 := by simp
 simp only [World.size_alloc] at T2 T3
 have tok : True := trivial
 go_wp2_with (clear tok; refine qz1q (((w1.alloc Q0q).alloc (.cells Q0c 30)).alloc (.cells Q00 32)) ?_)
 generalize hwA : ((w1.alloc Q0q).alloc (.cells Q0c 30)).alloc (.cells Q00 32) = wA at *
 clear hwA
 show wpList _ _ _ _ _ wA
 have hzA' : w1.heap.size + 1 + 1 < wA.heap.size := by omega
 clear hzA
 have T2' := World.there_setCells T2 (w1.heap.size) 0 Q0n
 have T3' := World.there_setCells (World.there_setCells T3 (w1.heap.size) 0 Q0n) (w1.heap.size + 1) 0 Q0j
 have al5 : Below w1.heap.size w1 ((((wA).setCells (w1.heap.size) 0 Q0n).setCells (w1.heap.size + 1) 0 Q0j).setCells (w1.heap.size + 1 + 1) 0 (hdC hd)) := Below.setCells (by omega) _ _ _ (Below.setCells (by omega) _ _ _ (Below.setCells (by omega) _ _ _ al))
 have hz2 : w1.heap.size + 1 + 1 < (((((wA).setCells (w1.heap.size) 0 Q0n).setCells (w1.heap.size + 1) 0 Q0j).setCells (w1.heap.size + 1 + 1) 0 (hdC hd))).heap.size := by rw [qzl, qzl, qzl]; omega
 have Pbp : (((((wA).setCells (w1.heap.size) 0 Q0n).setCells (w1.heap.size + 1) 0 Q0j).setCells (w1.heap.size + 1 + 1) 0 (hdC hd))).rangeAt (w1.heap.size) 0 Q0n := World.rangeAt_setCells_apart (World.rangeAt_setCells_apart (World.rangeAt_setCells_same _ _ _ _ T1) _ _ _ (Or.inl (by omega))) _ _ _ (Or.inl (by omega))
 have Pba : (((((wA).setCells (w1.heap.size) 0 Q0n).setCells (w1.heap.size + 1) 0 Q0j).setCells (w1.heap.size + 1 + 1) 0 (hdC hd))).rangeAt (w1.heap.size + 1) 0 Q0j := World.rangeAt_setCells_apart (World.rangeAt_setCells_same _ _ _ _ (World.there_setCells T2 _ _ _)) _ _ _ (Or.inl (by omega))
 have Pbh : (((((wA).setCells (w1.heap.size) 0 Q0n).setCells (w1.heap.size + 1) 0 Q0j).setCells (w1.heap.size + 1 + 1) 0 (hdC hd))).rangeAt (w1.heap.size + 1 + 1) 0 (hdC hd) := World.rangeAt_setCells_same _ _ _ _ T3'
 have K2 := K1.trans (al5.mono (by have := K1.size; omega))
 have I2 : qzr (((((wA).setCells (w1.heap.size) 0 Q0n).setCells (w1.heap.size + 1) 0 Q0j).setCells (w1.heap.size + 1 + 1) 0 (hdC hd))).heap.size ((((wA).setCells (w1.heap.size) 0 Q0n).setCells (w1.heap.size + 1) 0 Q0j).setCells (w1.heap.size + 1 + 1) 0 (hdC hd)) Q0u Q0s Q0w Q14 A := (I1.below al5).weaken al5.size
 have lo2 : w.heap.size <= w1.heap.size := by have := K1.size; omega
 refine wpList_store_mid rfl 25 (.tmp 3) (.tmp 23) rfl (w1.heap.size) 0 Q05 rfl rfl T1 qz2e (by simp [Value.oneCell']) ?_
 refine wpList_store_mid rfl 30 (.tmp 4) (.tmp 24) rfl (w1.heap.size + 1) 0 Q01 rfl rfl T2' qz1x (by simp [Value.oneCell']) ?_
 refine wpList_store_mid rfl 32 (.tmp 5) (.tmp 25) rfl (w1.heap.size + 1 + 1) 0 ((hdC hd)).toArray rfl rfl T3' (qz7 hd) (qzb hd) ?_
 clear al5 al T1 T2 T3 T2' T3' hzA' I1 K1 far1
 show wpList _ _ _ _ _ ((((wA).setCells (w1.heap.size) 0 Q0n).setCells (w1.heap.size + 1) 0 Q0j).setCells (w1.heap.size + 1 + 1) 0 (hdC hd))
 generalize ((((wA).setCells (w1.heap.size) 0 Q0n).setCells (w1.heap.size + 1) 0 Q0j).setCells (w1.heap.size + 1 + 1) 0 (hdC hd)) = w2 at *
 show wpList _ _ _ _ _ w2
 have or2 : w.heap.size <= w1.heap.size /\ w1.heap.size < w1.heap.size + 1 /\ w1.heap.size + 1 < w1.heap.size + 1 + 1 := by omega
 skip
 generalize hbh : w1.heap.size + 1 + 1 = bh at *
 generalize hba : w1.heap.size + 1 = ba at *
 generalize hbp : w1.heap.size = bp at *
 clear hbh hba hbp
 clear lo2
 have qp0 : w2.cell? ⟨bp, 0, none⟩ = some (.int .i64 x) := by simpa using Pbp 0 (.int .i64 x) rfl
 have qp1 : w2.cell? ⟨bp, 1, none⟩ = some (.int .i64 y) := by simpa using Pbp 1 (.int .i64 y) rfl
 have qp2 : w2.cell? ⟨bp, 2, none⟩ = some (.int .i64 z) := by simpa using Pbp 2 (.int .i64 z) rfl
 have qp3 : w2.cell? ⟨bp, 3, none⟩ = some (.int .i64 u) := by simpa using Pbp 3 (.int .i64 u) rfl
 have qa0 : w2.cell? ⟨ba, 0, none⟩ = some (.int .i64 A.camera) := by simpa using Pba 0 (.int .i64 A.camera) rfl
 have qa1 : w2.cell? ⟨ba, 1, none⟩ = some Q0u := by simpa using Pba 1 Q0u rfl
 have qa2 : w2.cell? ⟨ba, 2, none⟩ = some Q0s := by simpa using Pba 2 Q0s rfl
 have qa3 : w2.cell? ⟨ba, 3, none⟩ = some Q0w := by simpa using Pba 3 Q0w rfl
 have qa4 : w2.cell? ⟨ba, 4, none⟩ = some Q14 := by simpa using Pba 4 Q14 rfl
 go_wp2_with (refine wpList_load_mid rfl 32 (.tmp 5) rfl bh 0 ?l2a (hdC hd) _ ?l2b Tryz.underlying32 rfl (qz1 _) ?_)
 try (case l2a => rfl)
 try (case l2b => exact Pbh)
 refine (qzc9 w2.heap.size A x y z u hd a0 a1 a2 a3 c0 c1 c2 c3 w2 (Nat.le_refl _) (by omega) I2).mono ?_
 rintro e w3 ⟨rfl, b2⟩
 rw [hX.out, hbI.out]
 clear qp0 qp1 qp2 qp3 qa0 qa1 qa2 qa3 qa4
 have al2 : Below w3.heap.size w3 (((w3).alloc (.cells Q00 32)).setCells w3.heap.size 0 (hdC X)) := Below.setCells (Nat.le_refl _) _ _ _ ((Below.refl _ _).alloc (Nat.le_refl _) _)
 have F2 := qz8 w3 Q00 32 22 (by decide)
 have KK : Below w2.heap.size w2 (((w3).alloc (.cells Q00 32)).setCells w3.heap.size 0 (hdC X)) := b2.trans (al2.mono b2.size)
 have Pbx : (((w3).alloc (.cells Q00 32)).setCells w3.heap.size 0 (hdC X)).rangeAt w3.heap.size 0 (hdC X) := World.rangeAt_setCells_same _ _ _ _ F2
 have z2 : w2.heap.size <= w3.heap.size := b2.size
 have hz4 : w3.heap.size < (((w3).alloc (.cells Q00 32)).setCells w3.heap.size 0 (hdC X)).heap.size := by rw [qzl]; simp
 have K4 := K2.trans (KK.mono (by have := K2.size; omega))
 have I4 : qzr (((w3).alloc (.cells Q00 32)).setCells w3.heap.size 0 (hdC X)).heap.size (((w3).alloc (.cells Q00 32)).setCells w3.heap.size 0 (hdC X)) Q0u Q0s Q0w Q14 A := (I2.below KK).weaken KK.size
 replace Pbp := qz0 Pbp KK (by omega)
 replace Pba := qz0 Pba KK (by omega)
 replace Pbh := qz0 Pbh KK (by omega)
 clear KK I2 b2 al2 K2
 go_wp2_with (first | (refine wpList_store_mid rfl 32 (.tmp 6) (.tmp 31) rfl w3.heap.size 0 (hdC X).toArray ?sx2 ?sy2 ?st2 (qz7 X) (qzb _) ?_; all_goals (have tk2 : True := trivial)) | (clear tk2; refine qz1q _ ?_))
 try (case sx2 => rfl)
 try (case sy2 => rfl)
 try (case st2 => exact F2)
 show wpList _ _ _ _ _ (((w3).alloc (.cells Q00 32)).setCells w3.heap.size 0 (hdC X))
 clear F2
 generalize ((w3).alloc (.cells Q00 32)).setCells w3.heap.size 0 (hdC X) = w4 at *
 show wpList _ _ _ _ _ w4
 have gbx : bh < w3.heap.size := by omega
 clear z2 hz2
 generalize w3.heap.size = bx at *
 have qp0 : w4.cell? ⟨bp, 0, none⟩ = some (.int .i64 x) := by simpa using Pbp 0 (.int .i64 x) rfl
 have qp1 : w4.cell? ⟨bp, 1, none⟩ = some (.int .i64 y) := by simpa using Pbp 1 (.int .i64 y) rfl
 have qp2 : w4.cell? ⟨bp, 2, none⟩ = some (.int .i64 z) := by simpa using Pbp 2 (.int .i64 z) rfl
 have qp3 : w4.cell? ⟨bp, 3, none⟩ = some (.int .i64 u) := by simpa using Pbp 3 (.int .i64 u) rfl
 have qa0 : w4.cell? ⟨ba, 0, none⟩ = some (.int .i64 A.camera) := by simpa using Pba 0 (.int .i64 A.camera) rfl
 have qa1 : w4.cell? ⟨ba, 1, none⟩ = some Q0u := by simpa using Pba 1 Q0u rfl
 have qa2 : w4.cell? ⟨ba, 2, none⟩ = some Q0s := by simpa using Pba 2 Q0s rfl
 have qa3 : w4.cell? ⟨ba, 3, none⟩ = some Q0w := by simpa using Pba 3 Q0w rfl
 have qa4 : w4.cell? ⟨ba, 4, none⟩ = some Q14 := by simpa using Pba 4 Q14 rfl
 go_wp2_with (refine wpList_load_mid rfl 32 (.tmp 5) rfl bh 0 ?l4a (hdC hd) _ ?l4b Tryz.underlying32 rfl (qz1 _) ?_)
 try (case l4a => rfl)
 try (case l4b => exact Pbh)
 refine (qz88 w4.heap.size A x y z u hd a0 a1 a2 a3 c0 c1 c2 c3 w4 (Nat.le_refl _) (by omega) I4).mono ?_
 rintro e w5 ⟨rfl, b4⟩
 rw [hX.out, hbI.out]
 clear qp0 qp1 qp2 qp3 qa0 qa1 qa2 qa3 qa4
 have al4 : Below w5.heap.size w5 (((w5).alloc (.cells Q00 32)).setCells w5.heap.size 0 (hdC X)) := Below.setCells (Nat.le_refl _) _ _ _ ((Below.refl _ _).alloc (Nat.le_refl _) _)
 have F4 := qz8 w5 Q00 32 22 (by decide)
 have KK : Below w4.heap.size w4 (((w5).alloc (.cells Q00 32)).setCells w5.heap.size 0 (hdC X)) := b4.trans (al4.mono b4.size)
 have Pbz : (((w5).alloc (.cells Q00 32)).setCells w5.heap.size 0 (hdC X)).rangeAt w5.heap.size 0 (hdC X) := World.rangeAt_setCells_same _ _ _ _ F4
 have z4 : w4.heap.size <= w5.heap.size := b4.size
 have hz6 : w5.heap.size < (((w5).alloc (.cells Q00 32)).setCells w5.heap.size 0 (hdC X)).heap.size := by rw [qzl]; simp
 have K6 := K4.trans (KK.mono (by have := K4.size; omega))
 have I6 : qzr (((w5).alloc (.cells Q00 32)).setCells w5.heap.size 0 (hdC X)).heap.size (((w5).alloc (.cells Q00 32)).setCells w5.heap.size 0 (hdC X)) Q0u Q0s Q0w Q14 A := (I4.below KK).weaken KK.size
 replace Pbp := qz0 Pbp KK (by omega)
 replace Pba := qz0 Pba KK (by omega)
 replace Pbh := qz0 Pbh KK (by omega)
 replace Pbx := qz0 Pbx KK (by omega)
 clear KK I4 b4 al4 K4
 go_wp2_with (first | (refine wpList_store_mid rfl 32 (.tmp 8) (.tmp 38) rfl w5.heap.size 0 (hdC X).toArray ?sx4 ?sy4 ?st4 (qz7 X) (qzb _) ?_; all_goals (have tk4 : True := trivial)) | (clear tk4; refine qz1q _ ?_))
 try (case sx4 => rfl)
 try (case sy4 => rfl)
 try (case st4 => exact F4)
 show wpList _ _ _ _ _ (((w5).alloc (.cells Q00 32)).setCells w5.heap.size 0 (hdC X))
 clear F4
 generalize ((w5).alloc (.cells Q00 32)).setCells w5.heap.size 0 (hdC X) = w6 at *
 show wpList _ _ _ _ _ w6
 have gbz : bx < w5.heap.size := by omega
 clear z4 hz4
 generalize w5.heap.size = bz at *
 have C6 := (C.below K6).weaken K6.size
 clear Pbp Pba I6
 go_wp2_with fail
 refine (qz6t a len cap w6 hlen C6).mono ?_
 rintro e w7 ⟨x', y', z', u', A', d0, d1, d2, d3, e0, e1, e2, e3, hd', n, rfl, hAs', hx', hnl', hvl', I7, far7, b7⟩
 have K7 := K6.trans (b7.mono (by have := K6.size; omega))
 have hz7 : bz < w7.heap.size := by have := b7.size; omega
 replace Pbh := qz0 Pbh b7 (by omega)
 replace Pbx := qz0 Pbx b7 (by omega)
 replace Pbz := qz0 Pbz b7 (by omega)
 clear b7 C6 K6 hz6
 obtain ⟨U, hU⟩ : ∃ X, Hid (qz2a x' y' z' u' A' hd' n = X) := ⟨_, rfl⟩
 obtain ⟨bW, hbW⟩ : ∃ r, Hid (qz1n x' y' z' u' A' hd' n = r) := ⟨_, rfl⟩
 have T1 := World.there_alloc (World.there_alloc (qz8 w7 Q2r 25 4 (by decide)) (.cells Q0c 30)) (.cells Q00 32)
 have T2 := World.there_alloc (qz8 (w7.alloc Q0q) Q0c 30 5 (by decide)) (.cells Q00 32)
 have T3 := qz8 ((w7.alloc Q0q).alloc (.cells Q0c 30)) Q00 32 22 (by decide)
 have al := (((Below.refl w7.heap.size w7).alloc (Nat.le_refl _) Q0q).alloc (by simp) (.cells Q0c 30)).alloc (by simp; omega) (.cells Q00 32)
 have hzA : (((w7.alloc Q0q).alloc (.cells Q0c 30)).alloc (.cells Q00 32)).heap.size = w7.heap.size + 1 + 1 + 1 := by simp
 simp only [World.size_alloc] at T2 T3
 have tok : True := trivial
 go_wp2_with (clear tok; refine qz1q (((w7.alloc Q0q).alloc (.cells Q0c 30)).alloc (.cells Q00 32)) ?_)
 generalize hwA : ((w7.alloc Q0q).alloc (.cells Q0c 30)).alloc (.cells Q00 32) = wA at *
 clear hwA
 show wpList _ _ _ _ _ wA
 have hzA' : w7.heap.size + 1 + 1 < wA.heap.size := by omega
 clear hzA
 have T2' := World.there_setCells T2 (w7.heap.size) 0 Q2g
 have T3' := World.there_setCells (World.there_setCells T3 (w7.heap.size) 0 Q2g) (w7.heap.size + 1) 0 Q1a
 have al5 : Below w7.heap.size w7 ((((wA).setCells (w7.heap.size) 0 Q2g).setCells (w7.heap.size + 1) 0 Q1a).setCells (w7.heap.size + 1 + 1) 0 (hdC hd')) := Below.setCells (by omega) _ _ _ (Below.setCells (by omega) _ _ _ (Below.setCells (by omega) _ _ _ al))
 have hz8 : w7.heap.size + 1 + 1 < (((((wA).setCells (w7.heap.size) 0 Q2g).setCells (w7.heap.size + 1) 0 Q1a).setCells (w7.heap.size + 1 + 1) 0 (hdC hd'))).heap.size := by rw [qzl, qzl, qzl]; omega
 have Pbq : (((((wA).setCells (w7.heap.size) 0 Q2g).setCells (w7.heap.size + 1) 0 Q1a).setCells (w7.heap.size + 1 + 1) 0 (hdC hd'))).rangeAt (w7.heap.size) 0 Q2g := World.rangeAt_setCells_apart (World.rangeAt_setCells_apart (World.rangeAt_setCells_same _ _ _ _ T1) _ _ _ (Or.inl (by omega))) _ _ _ (Or.inl (by omega))
 have Pbb : (((((wA).setCells (w7.heap.size) 0 Q2g).setCells (w7.heap.size + 1) 0 Q1a).setCells (w7.heap.size + 1 + 1) 0 (hdC hd'))).rangeAt (w7.heap.size + 1) 0 Q1a := World.rangeAt_setCells_apart (World.rangeAt_setCells_same _ _ _ _ (World.there_setCells T2 _ _ _)) _ _ _ (Or.inl (by omega))
 have Pbg : (((((wA).setCells (w7.heap.size) 0 Q2g).setCells (w7.heap.size + 1) 0 Q1a).setCells (w7.heap.size + 1 + 1) 0 (hdC hd'))).rangeAt (w7.heap.size + 1 + 1) 0 (hdC hd') := World.rangeAt_setCells_same _ _ _ _ T3'
 have K8 := K7.trans (al5.mono (by have := K7.size; omega))
 have I8 : qzr (((((wA).setCells (w7.heap.size) 0 Q2g).setCells (w7.heap.size + 1) 0 Q1a).setCells (w7.heap.size + 1 + 1) 0 (hdC hd'))).heap.size ((((wA).setCells (w7.heap.size) 0 Q2g).setCells (w7.heap.size + 1) 0 Q1a).setCells (w7.heap.size + 1 + 1) 0 (hdC hd')) (.slice d0 A'.slots.length e0) (.slice d1 A'.guides.length e1) (.slice d2 A'.nodes.length e2) (.slice d3 A'.vers.length e3) A' := (I7.below al5).weaken al5.size
 have lo8 : w.heap.size <= w7.heap.size := by have := K7.size; omega
 replace Pbh := qz0 Pbh al5 (by omega)
 replace Pbx := qz0 Pbx al5 (by omega)
 replace Pbz := qz0 Pbz al5 (by omega)
 refine wpList_store_mid rfl 25 (.tmp 10) (.tmp 43) rfl (w7.heap.size) 0 #[.int .i64 x', .int .i64 y', .int .i64 z', .int .i64 u'] rfl rfl T1 qz2e (by simp [Value.oneCell']) ?_
 refine wpList_store_mid rfl 30 (.tmp 11) (.tmp 44) rfl (w7.heap.size + 1) 0 #[.int .i64 A'.camera, .slice d0 A'.slots.length e0, .slice d1 A'.guides.length e1, .slice d2 A'.nodes.length e2, .slice d3 A'.vers.length e3] rfl rfl T2' qz1x (by simp [Value.oneCell']) ?_
 refine wpList_store_mid rfl 32 (.tmp 12) (.tmp 45) rfl (w7.heap.size + 1 + 1) 0 ((hdC hd')).toArray rfl rfl T3' (qz7 hd') (qzb hd') ?_
 clear al5 al T1 T2 T3 T2' T3' hzA' I7 K7 far7
 show wpList _ _ _ _ _ ((((wA).setCells (w7.heap.size) 0 Q2g).setCells (w7.heap.size + 1) 0 Q1a).setCells (w7.heap.size + 1 + 1) 0 (hdC hd'))
 generalize ((((wA).setCells (w7.heap.size) 0 Q2g).setCells (w7.heap.size + 1) 0 Q1a).setCells (w7.heap.size + 1 + 1) 0 (hdC hd')) = w8 at *
 show wpList _ _ _ _ _ w8
 have or8 : w.heap.size <= w7.heap.size /\ w7.heap.size < w7.heap.size + 1 /\ w7.heap.size + 1 < w7.heap.size + 1 + 1 := by omega
 have gb : bz < w7.heap.size := by omega
 generalize hbh : w7.heap.size + 1 + 1 = bg at *
 generalize hba : w7.heap.size + 1 = bb at *
 generalize hbp : w7.heap.size = bq at *
 clear hbh hba hbp
 clear lo8
 have qp0 : w8.cell? ⟨bq, 0, none⟩ = some (.int .i64 x') := by simpa using Pbq 0 (.int .i64 x') rfl
 have qp1 : w8.cell? ⟨bq, 1, none⟩ = some (.int .i64 y') := by simpa using Pbq 1 (.int .i64 y') rfl
 have qp2 : w8.cell? ⟨bq, 2, none⟩ = some (.int .i64 z') := by simpa using Pbq 2 (.int .i64 z') rfl
 have qp3 : w8.cell? ⟨bq, 3, none⟩ = some (.int .i64 u') := by simpa using Pbq 3 (.int .i64 u') rfl
 have qa0 : w8.cell? ⟨bb, 0, none⟩ = some (.int .i64 A'.camera) := by simpa using Pbb 0 (.int .i64 A'.camera) rfl
 have qa1 : w8.cell? ⟨bb, 1, none⟩ = some (.slice d0 A'.slots.length e0) := by simpa using Pbb 1 (.slice d0 A'.slots.length e0) rfl
 have qa2 : w8.cell? ⟨bb, 2, none⟩ = some (.slice d1 A'.guides.length e1) := by simpa using Pbb 2 (.slice d1 A'.guides.length e1) rfl
 have qa3 : w8.cell? ⟨bb, 3, none⟩ = some (.slice d2 A'.nodes.length e2) := by simpa using Pbb 3 (.slice d2 A'.nodes.length e2) rfl
 have qa4 : w8.cell? ⟨bb, 4, none⟩ = some (.slice d3 A'.vers.length e3) := by simpa using Pbb 4 (.slice d3 A'.vers.length e3) rfl
 go_wp2_with (refine wpList_load_mid rfl 32 (.tmp 12) rfl bg 0 ?l8a (hdC hd') _ ?l8b Tryz.underlying32 rfl (qz1 _) ?_)
 try (case l8a => rfl)
 try (case l8b => exact Pbg)
 refine (qz9k w8.heap.size A' x' y' z' u' hd' n d0 d1 d2 d3 e0 e1 e2 e3 w8 (Nat.le_refl _) (by omega) I8).mono ?_
 rintro e w9 ⟨rfl, b8⟩
 rw [hU.out, hbW.out]
 clear qp0 qp1 qp2 qp3 qa0 qa1 qa2 qa3 qa4
 have al8 : Below w9.heap.size w9 (((w9).alloc (.cells Q00 32)).setCells w9.heap.size 0 (hdC U)) := Below.setCells (Nat.le_refl _) _ _ _ ((Below.refl _ _).alloc (Nat.le_refl _) _)
 have F8 := qz8 w9 Q00 32 22 (by decide)
 have KK : Below w8.heap.size w8 (((w9).alloc (.cells Q00 32)).setCells w9.heap.size 0 (hdC U)) := b8.trans (al8.mono b8.size)
 have Pbu : (((w9).alloc (.cells Q00 32)).setCells w9.heap.size 0 (hdC U)).rangeAt w9.heap.size 0 (hdC U) := World.rangeAt_setCells_same _ _ _ _ F8
 have z8 : w8.heap.size <= w9.heap.size := b8.size
 have hz10 : w9.heap.size < (((w9).alloc (.cells Q00 32)).setCells w9.heap.size 0 (hdC U)).heap.size := by rw [qzl]; simp
 have K10 := K8.trans (KK.mono (by have := K8.size; omega))
 have I10 : qzr (((w9).alloc (.cells Q00 32)).setCells w9.heap.size 0 (hdC U)).heap.size (((w9).alloc (.cells Q00 32)).setCells w9.heap.size 0 (hdC U)) (.slice d0 A'.slots.length e0) (.slice d1 A'.guides.length e1) (.slice d2 A'.nodes.length e2) (.slice d3 A'.vers.length e3) A' := (I8.below KK).weaken KK.size
 replace Pbq := qz0 Pbq KK (by omega)
 replace Pbb := qz0 Pbb KK (by omega)
 replace Pbg := qz0 Pbg KK (by omega)
 replace Pbh := qz0 Pbh KK (by omega)
 replace Pbx := qz0 Pbx KK (by omega)
 replace Pbz := qz0 Pbz KK (by omega)
 clear KK I8 b8 al8 K8
 go_wp2_with (first | (refine wpList_store_mid rfl 32 (.tmp 14) (.tmp 53) rfl w9.heap.size 0 (hdC U).toArray ?sx8 ?sy8 ?st8 (qz7 U) (qzb _) ?_; all_goals (have tk8 : True := trivial)) | (clear tk8; refine qz1q _ ?_))
 try (case sx8 => rfl)
 try (case sy8 => rfl)
 try (case st8 => exact F8)
 show wpList _ _ _ _ _ (((w9).alloc (.cells Q00 32)).setCells w9.heap.size 0 (hdC U))
 clear F8
 generalize ((w9).alloc (.cells Q00 32)).setCells w9.heap.size 0 (hdC U) = w10 at *
 show wpList _ _ _ _ _ w10
 have gbu : bg < w9.heap.size := by omega
 clear z8 hz8
 generalize w9.heap.size = bu at *
 have qp0 : w10.cell? ⟨bq, 0, none⟩ = some (.int .i64 x') := by simpa using Pbq 0 (.int .i64 x') rfl
 have qp1 : w10.cell? ⟨bq, 1, none⟩ = some (.int .i64 y') := by simpa using Pbq 1 (.int .i64 y') rfl
 have qp2 : w10.cell? ⟨bq, 2, none⟩ = some (.int .i64 z') := by simpa using Pbq 2 (.int .i64 z') rfl
 have qp3 : w10.cell? ⟨bq, 3, none⟩ = some (.int .i64 u') := by simpa using Pbq 3 (.int .i64 u') rfl
 have qa0 : w10.cell? ⟨bb, 0, none⟩ = some (.int .i64 A'.camera) := by simpa using Pbb 0 (.int .i64 A'.camera) rfl
 have qa1 : w10.cell? ⟨bb, 1, none⟩ = some (.slice d0 A'.slots.length e0) := by simpa using Pbb 1 (.slice d0 A'.slots.length e0) rfl
 have qa2 : w10.cell? ⟨bb, 2, none⟩ = some (.slice d1 A'.guides.length e1) := by simpa using Pbb 2 (.slice d1 A'.guides.length e1) rfl
 have qa3 : w10.cell? ⟨bb, 3, none⟩ = some (.slice d2 A'.nodes.length e2) := by simpa using Pbb 3 (.slice d2 A'.nodes.length e2) rfl
 have qa4 : w10.cell? ⟨bb, 4, none⟩ = some (.slice d3 A'.vers.length e3) := by simpa using Pbb 4 (.slice d3 A'.vers.length e3) rfl
 go_wp2_with (refine wpList_load_mid rfl 32 (.tmp 12) rfl bg 0 ?l10a (hdC hd') _ ?l10b Tryz.underlying32 rfl (qz1 _) ?_)
 try (case l10a => rfl)
 try (case l10b => exact Pbg)
 refine (qz6m w10.heap.size A' x' y' z' u' hd' n d0 d1 d2 d3 e0 e1 e2 e3 w10 (Nat.le_refl _) (by omega) I10).mono ?_
 rintro e w11 ⟨rfl, b10⟩
 rw [hU.out, hbW.out]
 clear qp0 qp1 qp2 qp3 qa0 qa1 qa2 qa3 qa4
 have al10 : Below w11.heap.size w11 (((w11).alloc (.cells Q00 32)).setCells w11.heap.size 0 (hdC U)) := Below.setCells (Nat.le_refl _) _ _ _ ((Below.refl _ _).alloc (Nat.le_refl _) _)
 have F10 := qz8 w11 Q00 32 22 (by decide)
 have KK : Below w10.heap.size w10 (((w11).alloc (.cells Q00 32)).setCells w11.heap.size 0 (hdC U)) := b10.trans (al10.mono b10.size)
 have Pbv : (((w11).alloc (.cells Q00 32)).setCells w11.heap.size 0 (hdC U)).rangeAt w11.heap.size 0 (hdC U) := World.rangeAt_setCells_same _ _ _ _ F10
 have z10 : w10.heap.size <= w11.heap.size := b10.size
 have hz12 : w11.heap.size < (((w11).alloc (.cells Q00 32)).setCells w11.heap.size 0 (hdC U)).heap.size := by rw [qzl]; simp
 have K12 := K10.trans (KK.mono (by have := K10.size; omega))
 have I12 : qzr (((w11).alloc (.cells Q00 32)).setCells w11.heap.size 0 (hdC U)).heap.size (((w11).alloc (.cells Q00 32)).setCells w11.heap.size 0 (hdC U)) (.slice d0 A'.slots.length e0) (.slice d1 A'.guides.length e1) (.slice d2 A'.nodes.length e2) (.slice d3 A'.vers.length e3) A' := (I10.below KK).weaken KK.size
 replace Pbq := qz0 Pbq KK (by omega)
 replace Pbb := qz0 Pbb KK (by omega)
 replace Pbg := qz0 Pbg KK (by omega)
 replace Pbh := qz0 Pbh KK (by omega)
 replace Pbx := qz0 Pbx KK (by omega)
 replace Pbz := qz0 Pbz KK (by omega)
 replace Pbu := qz0 Pbu KK (by omega)
 clear KK I10 b10 al10 K10
 go_wp2_with (first | (refine wpList_store_mid rfl 32 (.tmp 16) (.tmp 61) rfl w11.heap.size 0 (hdC U).toArray ?sx10 ?sy10 ?st10 (qz7 U) (qzb _) ?_; all_goals (have tk10 : True := trivial)) | (clear tk10; refine qz1q _ ?_))
 try (case sx10 => rfl)
 try (case sy10 => rfl)
 try (case st10 => exact F10)
 show wpList _ _ _ _ _ (((w11).alloc (.cells Q00 32)).setCells w11.heap.size 0 (hdC U))
 clear F10
 generalize ((w11).alloc (.cells Q00 32)).setCells w11.heap.size 0 (hdC U) = w12 at *
 show wpList _ _ _ _ _ w12
 have gbv : bu < w11.heap.size := by omega
 clear z10 hz10
 generalize w11.heap.size = bv at *
 clear I12 Pbq Pbb Pbg
 have ff1 : (bI != bI) = false := by simp
 have ff2 : (bW != bW) = false := by simp
 go_wp2_with (first | ((refine qz12 ?m6w 32 (.tmp 6) rfl bx 0 ?m6x (hdC X) _ ?m6c Tryz.underlying32 rfl (qz1 _) ?_); all_goals (have tkB : True := trivial)) | (clear tkB; refine qz1q _ ?_))
 try (case m6w => rfl)
 try (case m6x => rfl)
 try (case m6c => exact Pbx)
 show wpList _ _ _ _ _ _
 refine qz12 (by first | rfl | kernel_rfl) 32 (.tmp 8) rfl bz 0 rfl (hdC X) _ Pbz Tryz.underlying32 rfl (qz1 _) ?_
 refine qz46 (by first | rfl | kernel_rfl) (.bool false) (qz6v _ _ (.tmp 67) (.tmp 68) _ rfl X rfl rfl _) ?_
 go_wp2_with (first | ((refine qz12 ?m7w 32 (.tmp 14) rfl bu 0 ?m7x (hdC U) _ ?m7c Tryz.underlying32 rfl (qz1 _) ?_); all_goals (have tkB : True := trivial)) | (clear tkB; refine qz1q _ ?_))
 try (case m7w => rfl)
 try (case m7x => rfl)
 try (case m7c => exact Pbu)
 show wpList _ _ _ _ _ _
 refine qz12 (by first | rfl | kernel_rfl) 32 (.tmp 16) rfl bv 0 rfl (hdC U) _ Pbv Tryz.underlying32 rfl (qz1 _) ?_
 refine qz46 (by first | rfl | kernel_rfl) (.bool false) (qz6v _ _ (.tmp 77) (.tmp 78) _ rfl U rfl rfl _) ?_
 have u10 : w12.cell? ⟨bu, 10, none⟩ = some (.int .i64 U.x_) := by simpa using Pbu 10 (.int .i64 U.x_) rfl
 have u16 : w12.cell? ⟨bu, 16, none⟩ = some (.int .i64 U.curr) := by simpa using Pbu 16 (.int .i64 U.curr) rfl
 have u0 : w12.cell? ⟨bu, 0, none⟩ = some (.int .i64 U.at_) := by simpa using Pbu 0 (.int .i64 U.at_) rfl
 have x5 : w12.cell? ⟨bx, 5, none⟩ = some (.int .i64 X.begin) := by simpa using Pbx 5 (.int .i64 X.begin) rfl
 have x0 : w12.cell? ⟨bx, 0, none⟩ = some (.int .i64 X.at_) := by simpa using Pbx 0 (.int .i64 X.at_) rfl
 have h5 : w12.cell? ⟨bh, 5, none⟩ = some (.int .i64 hd.begin) := by simpa using Pbh 5 (.int .i64 hd.begin) rfl
 have kX : bI = true -> X.begin = hd.begin ∨ X.at_ = 0 := fun e => by
  have e' : qz30 x y z u A hd = true := hbI.out.trans e
  have h := hX.out
  unfold qz3v at h
  rw [if_pos e'] at h
  rw [<- h]
  exact qze9 A hd
 have kU : bW = true -> 0 <= n -> U.x_ = n /\ U.curr = n /\ U.at_ = 2 := fun e hn => by
  have e' : qz1n x' y' z' u' A' hd' n = true := hbW.out.trans e
  have h := hU.out
  unfold qz2a at h
  rw [if_pos e'] at h
  rw [<- h]
  exact qzep hn
 clear hX hbI hU hbW Pbu Pbx Pbz Pbv Pbh
 go_upto_region 11 with fail
 clear ff1 ff2
 have ways : (bW = false) ∨ (bW = true /\ ¬ 0 <= n) ∨ (bW = true /\ 0 <= n) := by
  cases bW
  ·exact Or.inl rfl
  ·by_cases hn : 0 <= n
   ·exact Or.inr (Or.inr ⟨rfl, hn⟩)
   ·exact Or.inr (Or.inl ⟨rfl, hn⟩)
 have ends : (bI = false) ∨ (bI = true /\ X.begin = hd.begin) ∨ (bI = true /\ ¬ X.begin = hd.begin /\ X.at_ = 0) := by
  cases bI
  ·exact Or.inl rfl
  ·by_cases hn : X.begin = hd.begin
   ·exact Or.inr (Or.inl ⟨rfl, hn⟩)
   ·exact Or.inr (Or.inr ⟨rfl, hn, (kX rfl).resolve_left hn⟩)
 clear kX
 rcases ways with rfl | ⟨rfl, hn⟩ | ⟨rfl, hn⟩
 ·clear kU u10 u16 u0
  rcases ends with rfl | ⟨rfl, hb⟩ | ⟨rfl, hb, ha⟩
  ·go_wp2
   go_ret
   exact ⟨rfl, K12⟩
  ·rw [hb] at x5
   go_wp2
   go_ret
   exact ⟨rfl, K12⟩
  ·rw [ha] at x0
   go_wp2
   go_ret
   exact ⟨rfl, K12⟩
 ·clear kU u10 u16 u0
  rcases ends with rfl | ⟨rfl, hb⟩ | ⟨rfl, hb, ha⟩
  ·go_wp2
   go_ret
   exact ⟨rfl, K12⟩
  ·rw [hb] at x5
   go_wp2
   go_ret
   exact ⟨rfl, K12⟩
  ·rw [ha] at x0
   go_wp2
   go_ret
   exact ⟨rfl, K12⟩
 ·obtain ⟨k1, k2, k3⟩ := kU rfl hn
  rw [k1] at u10
  rw [k2] at u16
  rw [k3] at u0
  clear kU k1 k2 k3
  rcases ends with rfl | ⟨rfl, hb⟩ | ⟨rfl, hb, ha⟩
  ·go_wp2
   go_ret
   exact ⟨rfl, K12⟩
  ·rw [hb] at x5
   go_wp2
   go_ret
   exact ⟨rfl, K12⟩
  ·rw [ha] at x0
   go_wp2
   go_ret
   exact ⟨rfl, K12⟩
theorem qz90 (os : Os) (started : os.Started) (H : Type) (enc : TypeId × Value -> H) :
  ReturnsInHanded {} Tryz.checked os 3 .any (Rows.fnWentSpec.pre6 enc Tryz.prog Tryz.f3 Rows.fnWentRow.domain false) (Rows.fnWentSpec.post enc Tryz.prog Tryz.f3 false true false false) := by
 refine returnsInHanded_of_change (C := Tryz.checked) own started (by kernel_rfl) Tryz.func3
  (ChangeSpec.witness6 (enc := enc) (C := Tryz.checked) false ⟨#[], #[.slice none 0 0], []⟩ 8 (by kernel_rfl) (by kernel_rfl) (by kernel_rfl) (by kernel_rfl)) ?_
 intro W base args ds gs before hval0 hW hcnd _
 have hval : ∀ (j : Nat) t v, Tryz.f3.params[j]? = some t -> args[j]? = some v -> Value.okWide Tryz.prog W .any base t v := hval0
 have hW' := hW
 obtain ⟨p, q, hA0, hV, rfl, hfz, hnd⟩ := hW
 have hA : DataW.TrodAll enc Tryz.prog W 0 (fun _ => true) true Tryz.f3.params.toList args.toList ds p := hA0
 rw [Tryz.params3] at hA hval
 obtain ⟨v0, vs0, d0, ds0, p0, q0, hargs, rfl, rfl, h0, r0⟩ := trodAll_cons hA
 obtain ⟨rfl, rfl, rfl⟩ := trodAll_nil r0
 obtain rfl : args = #[v0] := by cases args; simp_all
 obtain ⟨rfl, rfl⟩ := trodVars_none hV
 have k0 := h0
 have lt0 : ∀ x ∈ p0, x.block < W.heap.size := by obtain ⟨m, hm⟩ := k0; exact DataW.trod_lt m _ _ _ hm
 obtain ⟨a0, len0, cap0, hv0, w0⟩ := qzbw (hval 0 22 v0 rfl rfl) h0
 subst hv0
 clear hA0 hval0
 refine (qzb1 a0 len0 cap0 W w0).mono fun e W' ⟨he, bel⟩ => ?_
 subst he
 exact ⟨_, rfl, _, _, _, [], _, [], hW', trodAll_mk1 (shut_bool Tryz.underlying4 _), (trodAll_cons_mk (Below.trod qzes (by kernel_rfl) (of_decide_eq_true (by kernel_rfl)) k0 bel lt0) trodAll_mk0), rfl, bel.frame _, fun h => by cases h⟩
theorem fnWent_holds : Rows.FnWentSaid :=
 OpenClaim.holds_of_wide 3 Tryz.f3 rfl rfl rfl rfl rfl rfl rfl ⟨rfl, rfl, rfl, rfl, rfl⟩ rfl rfl rfl rfl rfl (by kernel_rfl) Tryz.func3 (by kernel_rfl)
  (of_decide_eq_true (by kernel_rfl)) (by unfold Func.isWrapper; first | (rw [if_pos (by decide +kernel)]; kernel_rfl) | (rw [if_neg (by decide +kernel)]; exact ⟨rfl, rfl⟩))
  (fun os started H enc _ => qz90 os started H enc)
#print axioms fnWent_holds
end
end Go.Proofs.YtclkglkhhnapiaaGreat
