/-
  What the law's proof goes by, part 23.
-/
import Derived.Lib.QuietBelow
import Derived.BigQuiet
import Derived.Test.YthjkdnlmopafkaaGreatDoorFnSwappedCard00
import Derived.Test.YthjkdnlmopafkaaGreatDoorFnSwappedCard09
import Derived.Test.YthjkdnlmopafkaaGreatDoorFnSwappedCard13
namespace Go.Proofs.YthjkdnlmopafkaaGreatDoor
open Go.ChangeShapes Go.WideShapes Go.ChangeAt Go.RowKit
set_option maxRecDepth 100000
set_option maxHeartbeats 16000000
set_option linter.unusedVariables false
set_option linter.unusedSimpArgs false
set_option linter.unnecessarySimpa false
set_option linter.unusedSectionVars false
section
open Go.ChangeShapes Go.WideShapes Go.ChangeAt Go.RowKit Go.Sort
attribute [local go_sem ↓] Go.wp_at_zero Go.wp_at_succ
def qzaa (A : Ar) (h : Hd) : Ar := { A with vers := A.vers.set h.ver.toNat { vrOf A h.ver with prev := -1 } }
def qz4g (A : Ar) (h : Hd) : Ar × Hd :=
 if h.at_ = 20 then (A, { h with least := Q6w, index := 0, out := 0, at_ := 21 })
 else if h.at_ = 22 then (if (vrOf A h.ver).prev < 0 then (A, qz4q A h) else if qz32 A (vrOf A h.ver).prev = true /\ (vrOf A (vrOf A h.ver).prev).stamp <= h.least then (A, { h with ver := (vrOf A h.ver).prev, at_ := 23 }) else (A, { h with ver := (vrOf A h.ver).prev }))
 else if h.at_ = 23 then (if (vrOf A h.ver).prev < 0 then (A, qz4q A h) else (qzaa A h, qz4q (qzaa A h) { h with out := min (h.out + 1) 1000000 }))
 else (A, h)
theorem Stp.elsewhere {base : Nat} {w0 w w' : World} {b bo : Nat} {s0 g0 n0 r0 s g n r : Value} {A : Ar} {D : List Value} {c : Nat} (S : Stp base w0 w b bo s0 g0 n0 r0 s g n r A D) (k : Only c w w') (hc : Q73 <= c) (h1 : b ≠ c) (h2 : bo ≠ c) (h3 : ∀ q, OwnB s g n r q -> q ≠ c) : Stp base w0 w' b bo s0 g0 n0 r0 s g n r A D :=
 have hB : But (fun q => q = c) w w' := But.of_only k rfl
 ⟨hB.range S.row (Nat.lt_trans S.lt S.hi) h1, hB.there S.th (Nat.lt_trans S.lt S.hi) h1, hB.there S.to S.hi h2, S.lo, S.lt, Q72 S.hi k.size, S.own.kept hB h3, S.but.far k hc, S.blk, S.ne⟩
theorem qzda (A : Ar) (h : Hd) : (qzaa A h).size = A.size := by simp [qzaa, Ar.size]
theorem qzc8 (base : Nat) (A : Ar) (h : Hd) (d : Dd) (tk : Bool) (s g n r : Value) (w : World) (hbase : base <= Q6o) (hA : A.size <= 1048576) (O : qz1t base w s g n r A) (x y z u : Int) (hOk : qz10 x y z u A = true) (hv0 : 0 <= h.ver) (hv1 : h.ver < (Q6r : Int)) (hx0 : 0 <= h.x_) (hx1 : h.x_ < (Q6q : Int)) (ho0 : 0 <= h.out) (ho1 : h.out <= 1000000) (hnot : h.at_ ≠ 21) :
  Calls Tryz.prog 151 #[.agg (Q6j).toArray] w fun e w' => ∃ s' g' n' r', e = .returned (.agg (qza Q6w s' g' n' r' (qz4g A h).2 d tk).toArray) /\ qz29 base w w' s g n r s' g' n' r' (qz4g A h).1 := by
 have hA' := hA
 unfold Ar.size at hA
 obtain ⟨sa, sc, rfl⟩ := qzf O.rs
 obtain ⟨ga, gc, rfl⟩ := qzf O.rg
 obtain ⟨na, nc, rfl⟩ := qzf O.rn
 obtain ⟨rb, rc, rfl⟩ := qz12 O.rr (by omega)
 have S0 := qza3 base w Q0a Q07 Q0c Q05 A Q3n Q0i 60 O rfl rfl
 have hrb := qz2d O.rr (j := rb) rfl
 obtain ⟨vk, hvk⟩ : ∃ k : Nat, h.ver = k := ⟨h.ver.toNat, by omega⟩
 have hvl : vk < Q6r := by omega
 have hver := qz4t hOk vk hvl
 go_enter Tryz.func151, Tryz.ntmps151
 have tok : True := trivial
 go_wp2_with (clear tok; refine qz2j ((w.alloc (.cells (Q3n).toArray 60)).alloc (.cells Q01 60)) ?_)
 generalize hw0 : (w.alloc (.cells (Q3n).toArray 60)).alloc (.cells Q01 60) = w0 at *
 clear hw0
 show wpList _ _ _ _ _ w0
 have hset : (Q5a).setCells Q73 0 (hdC h).toArray.toList = w0.alloc Q0p := qz1c w0 56 (hdC h) [] Q0l rfl
 have FA := qzg w0 Q00 56 22 (by decide)
 have S1 := S0.below ((Q6s Q73 w0).alloc (Q6v _) Q0p)
 have HB := qz6 w0 (hdC h) 56
 have TB := qzg w0 (hdC h).toArray 56 22 (by simp [hdC])
 have hbh := S0.hi
 have hbl : Q73 < (w0.alloc Q0p).heap.size := by simp
 go_upto_region 2 with (first | (refine wpList_load_mid rfl 56 (.tmp 5) rfl w.heap.size 5 ?ax1 (hdC h) _ ?ac1 Tryz.underlying56 rfl (qz4 h) ?_) | (refine wpList_store_mid rfl 56 (.tmp 3) (.tmp 6) rfl w0.heap.size 0 _ rfl rfl FA (qzc h) (qzk h) ?_; rw [hset]))
 try (case ax1 => rfl)
 try (case ac1 => exact (qzv S0.row).2.1)
 generalize hw1 : w0.alloc Q0p = w1 at *
 clear hw1 hset FA S0
 generalize Q73 = bh at *
 have r0 : w1.cell? ⟨bh, 0, none⟩ = some (.int .i64 h.at_) := by simpa using HB 0 _ rfl
 have r11 : w1.cell? ⟨bh, 11, none⟩ = some (.int .i64 h.ver) := by simpa using HB 11 _ rfl
 have x0 := S1.cell 0 rfl
 have x4 := S1.cell 4 rfl
 have q0 := S1.cell 5 rfl
 have q7 := S1.cell 12 rfl
 have q11 := S1.cell 16 rfl
 have q19 := S1.cell 24 rfl
 have q20 := S1.cell 25 rfl
 have f5 := S1.free 5 (by decide)
 have f12 := S1.free 12 (by decide)
 have f16 := S1.free 16 (by decide)
 have f24 := S1.free 24 (by decide)
 have f25 := S1.free 25 (by decide)
 have hnb : ¬ (bh = Q6o) := by omega
 have hnb' : ¬ (Q6o = bh) := by omega
 rw [hvk] at r11
 have hv0' : (0 : Int) <= (vk : Int) := by omega
 have hv1' : (vk : Int) < (Q6r : Int) := by omega
 by_cases e20 : h.at_ = 20
 case pos =>
  have hd : Hid (qz4g A h = (A, { h with least := Q6w, index := 0, out := 0, at_ := 21 })) := by show _ = _; rw [qz4g, if_pos e20]
  rw [e20] at r0
  go_upto_region 29 with fail
  have S2 : Stp base w _ Q6o (Q6o + 1) Q0a Q07 Q0c Q05 Q0a Q07 Q0c Q05 A (qza Q6w Q0a Q07 Q0c Q05 { h with least := Q6w, index := 0, out := 0, at_ := 21 } d tk) := ((((S1.put 24 (by simp [qza, hdC, ddC]) (.int .i64 Q6w)).put 25 (by simp [qza, hdC, ddC]) (.int .i64 0)).put 12 (by simp [qza, hdC, ddC]) (.int .i64 0)).put 5 (by simp [qza, hdC, ddC]) (.int .i64 21))
  go_wp2_with (first | (refine Q6z rfl 60 (.tmp 1) rfl Q6o 0 ?cx20 (qza Q6w Q0a Q07 Q0c Q05 { h with least := Q6w, index := 0, out := 0, at_ := 21 } d tk) _ ?cc20 Q71 rfl (qz7 _ _ _ _ _ _ _ _) ?_) | (refine Q6t rfl 60 (.tmp 2) _ rfl (Q6o + 1) 0 (qza Q6w Q0a Q07 Q0c Q05 { h with least := Q6w, index := 0, out := 0, at_ := 21 } d tk).toArray ?dx20 ?dy20 ?dt20 (qzs _ _ _ _ _ _ _ _) Q0v ?_))
  try (case cx20 => rfl)
  try (case cc20 => exact S2.row)
  try (case dx20 => rfl)
  try (case dy20 => rfl)
  try (case dt20 => exact S2.to)
  refine bodyPost_ret (v := .agg (qza Q6w Q0a Q07 Q0c Q05 { h with least := Q6w, index := 0, out := 0, at_ := 21 } d tk).toArray) ?_ rfl ⟨_, _, _, _, by rw [hd.out], by rw [hd.out]; exact S2.fin⟩
  exact qz3 Tryz.results151 _ _ (Q6o + 1) 0 rfl (qza Q6w Q0a Q07 Q0c Q05 { h with least := Q6w, index := 0, out := 0, at_ := 21 } d tk) _ (S2.out rfl) Q71 rfl (qz7 _ _ _ _ _ _ _ _)
 have hvr : vrOf A h.ver = A.vers[vk] := by rw [hvk, qz38 A vk hvl]
 obtain ⟨c3, c3f⟩ := qz23 S1.own.rr (vk * 5 + 3) (.int .i64 A.vers[vk].prev) (by rw [qzy (sz := 5) (fun _ => rfl) A.vers vk hvl 3 (by omega)]; rfl)
 have hvkH : Hid (h.ver = vk) := hvk
 have hNext5 : ∀ (wq : World), qz1j wq.heap.size wq Q0a Q07 Q0c Q05 A -> Calls Tryz.prog 161 #[.agg Q24, .agg (hdC h).toArray] wq fun e w' => e = .returned (.agg (hdC (qz4q A h)).toArray) /\ Below wq.heap.size wq w' := by
  intro wq Iq
  exact qz84 wq.heap.size A h sa ga na (some ⟨rb, 0, none⟩) sc gc nc rc wq (Q6v _) hA' Iq hx0 hx1
 by_cases e22 : h.at_ = 22
 case pos =>
  rw [e22] at r0
  by_cases hp : A.vers[vk].prev < 0
  case pos =>
   have hd : Hid (qz4g A h = (A, qz4q A h)) := by show _ = _; rw [qz4g, if_neg e20, if_pos e22, hvr, if_pos hp]
   clear hvk
   have z0 := S1.cell 0 rfl; have z1 := S1.cell 1 rfl; have z2 := S1.cell 2 rfl; have z3 := S1.cell 3 rfl; have z4 := S1.cell 4 rfl
   go_upto_region 20 with (first | (refine Q6z rfl 56 (.tmp 3) rfl bh 0 ?nx5 (hdC h) _ ?nc5 Q6x rfl (qz4 h) ?_) | (go_at_call 161; refine (hNext5 _ S1.is).mono ?_; rintro e w5q ⟨rfl, b5q⟩; have S2 := S1.below b5q) | (refine Q6t rfl 56 (.tmp 89) _ rfl Q6o 5 (hdC (qz4q A h)).toArray ?bx5 ?by5 ?bt5 (qzc _) (qzk _) ?_))
   try (case nx5 => rfl)
   try (case nc5 => exact HB)
   try (case bx5 => rfl)
   try (case by5 => rfl)
   try (case bt5 => have T := qz1d S2.th 5 22 (by omega); rw [Nat.zero_add] at T; exact T)
   have S9 := S2.hand (qz4q A h)
   go_wp2_with (first | (refine Q6z rfl 60 (.tmp 1) rfl Q6o 0 ?cx22 Q3s _ ?cc22 Q71 rfl (qz7 _ _ _ _ _ _ _ _) ?_) | (refine Q6t rfl 60 (.tmp 2) _ rfl (Q6o + 1) 0 (Q3s).toArray ?dx22 ?dy22 ?dt22 (qzs _ _ _ _ _ _ _ _) Q0v ?_))
   try (case cx22 => rfl)
   try (case cc22 => exact S9.row)
   try (case dx22 => rfl)
   try (case dy22 => rfl)
   try (case dt22 => exact S9.to)
   refine bodyPost_ret (v := .agg (Q3s).toArray) ?_ rfl ⟨_, _, _, _, by rw [hd.out], by rw [hd.out]; exact S9.fin⟩
   exact qz3 Tryz.results151 _ _ (Q6o + 1) 0 rfl Q3s _ (S9.out rfl) Q71 rfl (qz7 _ _ _ _ _ _ _ _)
  obtain ⟨p, hpp⟩ : ∃ p : Nat, A.vers[vk].prev = p := ⟨A.vers[vk].prev.toNat, by omega⟩
  have hpl : p < Q6r := by omega
  have hpl' : (p : Int) < (Q6r : Int) := by omega
  have hpl0 : (0 : Int) <= (p : Int) := by omega
  have hp3 : ¬ ((p : Int) < 0) := by omega
  have hbk : Hid (qz4g A h = if qz32 A (p : Int) = true /\ A.vers[p].stamp <= h.least then (A, { h with ver := (p : Int), at_ := 23 }) else (A, { h with ver := (p : Int) })) := by show _ = _; rw [qz4g, if_neg e20, if_pos e22, hvr, hpp, if_neg hp3, qz38 A p hpl]
  rw [hpp] at c3
  clear hvk hpp hp hvr hver e22
  go_upto_region 22 with fail
  have S2 : Stp base w _ Q6o (Q6o + 1) Q0a Q07 Q0c Q05 Q0a Q07 Q0c Q05 A (qza Q6w Q0a Q07 Q0c Q05 { h with ver := (p : Int) } d tk) := (S1.put 16 (by simp [qza, hdC, ddC]) (.int .i64 (p : Int)))
  have HBa := (But.of_only (S := fun q => q = Q6o) ((Only.refl Q6o w1).setCell (p := ⟨Q6o, 16, none⟩) (Or.inl rfl) (.int .i64 (p : Int))) rfl).range HB hbl hnb
  generalize w1.setCell ⟨Q6o, 16, none⟩ (.int .i64 (p : Int)) = wa at *
  clear HB TB r0 r11 x0 x4 q0 q7 q11 q19 q20 f5 f12 f16 f24 f25 c3 c3f
  have r19 : wa.cell? ⟨bh, 19, none⟩ = some (.int .i64 h.least) := by simpa using HBa 19 _ rfl
  have a0 := S2.cell 0 rfl
  have a1 := S2.cell 1 rfl
  have a2 := S2.cell 2 rfl
  have a3 := S2.cell 3 rfl
  have a4 := S2.cell 4 rfl
  have s2 := (qz23 S2.own.rr (p * 5 + 2) (.int .i64 A.vers[p].stamp) (by rw [qzy (sz := 5) (fun _ => rfl) A.vers p hpl 2 (by omega)]; rfl)).1
  cases hst : qz32 A (p : Int)
  case false =>
   have hd : Hid (qz4g A h = (A, { h with ver := (p : Int) })) := by show _ = _; rw [hbk.out, if_neg (by rw [hst]; simp)]
   have y0 : ∀ (dq : Nat) (os : Array Obj), (grow (redrawn wa dq) os).cell? ⟨Q6o, 0, none⟩ = some (.int .i64 Q6w) := fun dq os => cell_regrown a0 dq os
   have y1 : ∀ (dq : Nat) (os : Array Obj), (grow (redrawn wa dq) os).cell? ⟨Q6o, 1, none⟩ = some Q0a := fun dq os => cell_regrown a1 dq os
   have y2 : ∀ (dq : Nat) (os : Array Obj), (grow (redrawn wa dq) os).cell? ⟨Q6o, 2, none⟩ = some Q07 := fun dq os => cell_regrown a2 dq os
   have y3 : ∀ (dq : Nat) (os : Array Obj), (grow (redrawn wa dq) os).cell? ⟨Q6o, 3, none⟩ = some Q0c := fun dq os => cell_regrown a3 dq os
   have y4 : ∀ (dq : Nat) (os : Array Obj), (grow (redrawn wa dq) os).cell? ⟨Q6o, 4, none⟩ = some Q05 := fun dq os => cell_regrown a4 dq os
   have y9 : ∀ (dq : Nat) (os : Array Obj), (grow (redrawn wa dq) os).cell? ⟨bh, 19, none⟩ = some (.int .i64 h.least) := fun dq os => cell_regrown r19 dq os
   have ys : ∀ (dq : Nat) (os : Array Obj), (grow (redrawn wa dq) os).cell? ⟨rb, p * 5 + 2, none⟩ = some (.int .i64 A.vers[p].stamp) := fun dq os => cell_regrown s2 dq os
   have cS : ∀ (dq : Nat) (os : Array Obj), Calls Tryz.prog 153 #[.agg Q24, .int .i64 (p : Int)] (grow (redrawn wa dq) os) fun e w'' => e = .returned (.bool false) /\ ∃ q : Regrown, w'' = grow (redrawn wa q.d) q.os := fun dq os => by
    have hbq := below_regrown wa dq os
    have hcl := qz1w wa.heap.size A (p : Int) sa ga na (some ⟨rb, 0, none⟩) sc gc nc rc (grow (redrawn wa dq) os) hbq.size hA' (S2.is.below hbq)
    rw [hst] at hcl
    exact Calls.regrown_of hcl
   refine wp_region_quiet_below (by kernel_rfl) (by kernel_rfl) ?_
   repeat (go_big_quiet_step (exact cS _ _))
   refine wpQuiet_nil ?_
   intro _ hw'
   obtain ⟨⟨dq, osq⟩, hw''⟩ := hw'
   subst hw''
   have S3 := S2.below (below_regrown wa dq osq)
   generalize grow (redrawn wa dq) osq = wb at *
   clear cS y0 y1 y2 y3 y4 y9 ys
   go_upto_region 29 with fail
   go_wp2_with (first | (refine Q6z rfl 60 (.tmp 1) rfl Q6o 0 ?cx221 (qza Q6w Q0a Q07 Q0c Q05 { h with ver := (p : Int) } d tk) _ ?cc221 Q71 rfl (qz7 _ _ _ _ _ _ _ _) ?_) | (refine Q6t rfl 60 (.tmp 2) _ rfl (Q6o + 1) 0 (qza Q6w Q0a Q07 Q0c Q05 { h with ver := (p : Int) } d tk).toArray ?dx221 ?dy221 ?dt221 (qzs _ _ _ _ _ _ _ _) Q0v ?_))
   try (case cx221 => rfl)
   try (case cc221 => exact S3.row)
   try (case dx221 => rfl)
   try (case dy221 => rfl)
   try (case dt221 => exact S3.to)
   refine bodyPost_ret (v := .agg (qza Q6w Q0a Q07 Q0c Q05 { h with ver := (p : Int) } d tk).toArray) ?_ rfl ⟨_, _, _, _, by rw [hd.out], by rw [hd.out]; exact S3.fin⟩
   exact qz3 Tryz.results151 _ _ (Q6o + 1) 0 rfl (qza Q6w Q0a Q07 Q0c Q05 { h with ver := (p : Int) } d tk) _ (S3.out rfl) Q71 rfl (qz7 _ _ _ _ _ _ _ _)
  by_cases hle : A.vers[p].stamp <= h.least
  case neg =>
   have hd : Hid (qz4g A h = (A, { h with ver := (p : Int) })) := by show _ = _; rw [hbk.out, if_neg (fun hq => hle hq.2)]
   have y0 : ∀ (dq : Nat) (os : Array Obj), (grow (redrawn wa dq) os).cell? ⟨Q6o, 0, none⟩ = some (.int .i64 Q6w) := fun dq os => cell_regrown a0 dq os
   have y1 : ∀ (dq : Nat) (os : Array Obj), (grow (redrawn wa dq) os).cell? ⟨Q6o, 1, none⟩ = some Q0a := fun dq os => cell_regrown a1 dq os
   have y2 : ∀ (dq : Nat) (os : Array Obj), (grow (redrawn wa dq) os).cell? ⟨Q6o, 2, none⟩ = some Q07 := fun dq os => cell_regrown a2 dq os
   have y3 : ∀ (dq : Nat) (os : Array Obj), (grow (redrawn wa dq) os).cell? ⟨Q6o, 3, none⟩ = some Q0c := fun dq os => cell_regrown a3 dq os
   have y4 : ∀ (dq : Nat) (os : Array Obj), (grow (redrawn wa dq) os).cell? ⟨Q6o, 4, none⟩ = some Q05 := fun dq os => cell_regrown a4 dq os
   have y9 : ∀ (dq : Nat) (os : Array Obj), (grow (redrawn wa dq) os).cell? ⟨bh, 19, none⟩ = some (.int .i64 h.least) := fun dq os => cell_regrown r19 dq os
   have ys : ∀ (dq : Nat) (os : Array Obj), (grow (redrawn wa dq) os).cell? ⟨rb, p * 5 + 2, none⟩ = some (.int .i64 A.vers[p].stamp) := fun dq os => cell_regrown s2 dq os
   have cS : ∀ (dq : Nat) (os : Array Obj), Calls Tryz.prog 153 #[.agg Q24, .int .i64 (p : Int)] (grow (redrawn wa dq) os) fun e w'' => e = .returned (.bool true) /\ ∃ q : Regrown, w'' = grow (redrawn wa q.d) q.os := fun dq os => by
    have hbq := below_regrown wa dq os
    have hcl := qz1w wa.heap.size A (p : Int) sa ga na (some ⟨rb, 0, none⟩) sc gc nc rc (grow (redrawn wa dq) os) hbq.size hA' (S2.is.below hbq)
    rw [hst] at hcl
    exact Calls.regrown_of hcl
   refine wp_region_quiet_below (by kernel_rfl) (by kernel_rfl) ?_
   repeat (go_big_quiet_step (exact cS _ _))
   refine wpQuiet_nil ?_
   intro _ hw'
   obtain ⟨⟨dq, osq⟩, hw''⟩ := hw'
   subst hw''
   have S3 := S2.below (below_regrown wa dq osq)
   generalize grow (redrawn wa dq) osq = wb at *
   clear cS y0 y1 y2 y3 y4 y9 ys
   go_upto_region 29 with fail
   go_wp2_with (first | (refine Q6z rfl 60 (.tmp 1) rfl Q6o 0 ?cx222 (qza Q6w Q0a Q07 Q0c Q05 { h with ver := (p : Int) } d tk) _ ?cc222 Q71 rfl (qz7 _ _ _ _ _ _ _ _) ?_) | (refine Q6t rfl 60 (.tmp 2) _ rfl (Q6o + 1) 0 (qza Q6w Q0a Q07 Q0c Q05 { h with ver := (p : Int) } d tk).toArray ?dx222 ?dy222 ?dt222 (qzs _ _ _ _ _ _ _ _) Q0v ?_))
   try (case cx222 => rfl)
   try (case cc222 => exact S3.row)
   try (case dx222 => rfl)
   try (case dy222 => rfl)
   try (case dt222 => exact S3.to)
   refine bodyPost_ret (v := .agg (qza Q6w Q0a Q07 Q0c Q05 { h with ver := (p : Int) } d tk).toArray) ?_ rfl ⟨_, _, _, _, by rw [hd.out], by rw [hd.out]; exact S3.fin⟩
   exact qz3 Tryz.results151 _ _ (Q6o + 1) 0 rfl (qza Q6w Q0a Q07 Q0c Q05 { h with ver := (p : Int) } d tk) _ (S3.out rfl) Q71 rfl (qz7 _ _ _ _ _ _ _ _)
  have hd : Hid (qz4g A h = (A, { h with ver := (p : Int), at_ := 23 })) := by show _ = _; rw [hbk.out, if_pos ⟨hst, hle⟩]
  have y0 : ∀ (dq : Nat) (os : Array Obj), (grow (redrawn wa dq) os).cell? ⟨Q6o, 0, none⟩ = some (.int .i64 Q6w) := fun dq os => cell_regrown a0 dq os
  have y1 : ∀ (dq : Nat) (os : Array Obj), (grow (redrawn wa dq) os).cell? ⟨Q6o, 1, none⟩ = some Q0a := fun dq os => cell_regrown a1 dq os
  have y2 : ∀ (dq : Nat) (os : Array Obj), (grow (redrawn wa dq) os).cell? ⟨Q6o, 2, none⟩ = some Q07 := fun dq os => cell_regrown a2 dq os
  have y3 : ∀ (dq : Nat) (os : Array Obj), (grow (redrawn wa dq) os).cell? ⟨Q6o, 3, none⟩ = some Q0c := fun dq os => cell_regrown a3 dq os
  have y4 : ∀ (dq : Nat) (os : Array Obj), (grow (redrawn wa dq) os).cell? ⟨Q6o, 4, none⟩ = some Q05 := fun dq os => cell_regrown a4 dq os
  have y9 : ∀ (dq : Nat) (os : Array Obj), (grow (redrawn wa dq) os).cell? ⟨bh, 19, none⟩ = some (.int .i64 h.least) := fun dq os => cell_regrown r19 dq os
  have ys : ∀ (dq : Nat) (os : Array Obj), (grow (redrawn wa dq) os).cell? ⟨rb, p * 5 + 2, none⟩ = some (.int .i64 A.vers[p].stamp) := fun dq os => cell_regrown s2 dq os
  have cS : ∀ (dq : Nat) (os : Array Obj), Calls Tryz.prog 153 #[.agg Q24, .int .i64 (p : Int)] (grow (redrawn wa dq) os) fun e w'' => e = .returned (.bool true) /\ ∃ q : Regrown, w'' = grow (redrawn wa q.d) q.os := fun dq os => by
   have hbq := below_regrown wa dq os
   have hcl := qz1w wa.heap.size A (p : Int) sa ga na (some ⟨rb, 0, none⟩) sc gc nc rc (grow (redrawn wa dq) os) hbq.size hA' (S2.is.below hbq)
   rw [hst] at hcl
   exact Calls.regrown_of hcl
  refine wp_region_quiet_below (by kernel_rfl) (by kernel_rfl) ?_
  repeat (go_big_quiet_step (exact cS _ _))
  refine wpQuiet_nil ?_
  intro _ hw'
  obtain ⟨⟨dq, osq⟩, hw''⟩ := hw'
  subst hw''
  have S3 := S2.below (below_regrown wa dq osq)
  generalize grow (redrawn wa dq) osq = wb at *
  clear cS y0 y1 y2 y3 y4 y9 ys
  have q0 := S3.cell 5 rfl
  have f5 := S3.free 5 (by decide)
  go_upto_region 29 with fail
  have S4 : Stp base w _ Q6o (Q6o + 1) Q0a Q07 Q0c Q05 Q0a Q07 Q0c Q05 A (qza Q6w Q0a Q07 Q0c Q05 { h with ver := (p : Int), at_ := 23 } d tk) := (S3.put 5 (by simp [qza, hdC, ddC]) (.int .i64 23))
  go_wp2_with (first | (refine Q6z rfl 60 (.tmp 1) rfl Q6o 0 ?cx223 (qza Q6w Q0a Q07 Q0c Q05 { h with ver := (p : Int), at_ := 23 } d tk) _ ?cc223 Q71 rfl (qz7 _ _ _ _ _ _ _ _) ?_) | (refine Q6t rfl 60 (.tmp 2) _ rfl (Q6o + 1) 0 (qza Q6w Q0a Q07 Q0c Q05 { h with ver := (p : Int), at_ := 23 } d tk).toArray ?dx223 ?dy223 ?dt223 (qzs _ _ _ _ _ _ _ _) Q0v ?_))
  try (case cx223 => rfl)
  try (case cc223 => exact S4.row)
  try (case dx223 => rfl)
  try (case dy223 => rfl)
  try (case dt223 => exact S4.to)
  refine bodyPost_ret (v := .agg (qza Q6w Q0a Q07 Q0c Q05 { h with ver := (p : Int), at_ := 23 } d tk).toArray) ?_ rfl ⟨_, _, _, _, by rw [hd.out], by rw [hd.out]; exact S4.fin⟩
  exact qz3 Tryz.results151 _ _ (Q6o + 1) 0 rfl (qza Q6w Q0a Q07 Q0c Q05 { h with ver := (p : Int), at_ := 23 } d tk) _ (S4.out rfl) Q71 rfl (qz7 _ _ _ _ _ _ _ _)
 by_cases e23 : h.at_ = 23
 case neg =>
  have hd : Hid (qz4g A h = (A, h)) := by show _ = _; rw [qz4g, if_neg e20, if_neg e22, if_neg e23]
  have e21 : ¬ (h.at_ = 21) := hnot
  go_upto_region 29 with fail
  go_wp2_with (first | (refine Q6z rfl 60 (.tmp 1) rfl Q6o 0 ?cx29 Q3n _ ?cc29 Q71 rfl (qz7 _ _ _ _ _ _ _ _) ?_) | (refine Q6t rfl 60 (.tmp 2) _ rfl (Q6o + 1) 0 (Q3n).toArray ?dx29 ?dy29 ?dt29 (qzs _ _ _ _ _ _ _ _) Q0v ?_))
  try (case cx29 => rfl)
  try (case cc29 => exact S1.row)
  try (case dx29 => rfl)
  try (case dy29 => rfl)
  try (case dt29 => exact S1.to)
  refine bodyPost_ret (v := .agg (Q3n).toArray) ?_ rfl ⟨_, _, _, _, by rw [hd.out], by rw [hd.out]; exact S1.fin⟩
  exact qz3 Tryz.results151 _ _ (Q6o + 1) 0 rfl Q3n _ (S1.out rfl) Q71 rfl (qz7 _ _ _ _ _ _ _ _)
 rw [e23] at r0
 by_cases hp : A.vers[vk].prev < 0
 case pos =>
  have hd : Hid (qz4g A h = (A, qz4q A h)) := by show _ = _; rw [qz4g, if_neg e20, if_neg e22, if_pos e23, hvr, if_pos hp]
  clear hvk
  have z0 := S1.cell 0 rfl; have z1 := S1.cell 1 rfl; have z2 := S1.cell 2 rfl; have z3 := S1.cell 3 rfl; have z4 := S1.cell 4 rfl
  go_upto_region 29 with (first | (refine Q6z rfl 56 (.tmp 3) rfl bh 0 ?nx5 (hdC h) _ ?nc5 Q6x rfl (qz4 h) ?_) | (go_at_call 161; refine (hNext5 _ S1.is).mono ?_; rintro e w5q ⟨rfl, b5q⟩; have S2 := S1.below b5q) | (refine Q6t rfl 56 (.tmp 139) _ rfl Q6o 5 (hdC (qz4q A h)).toArray ?bx5 ?by5 ?bt5 (qzc _) (qzk _) ?_))
  try (case nx5 => rfl)
  try (case nc5 => exact HB)
  try (case bx5 => rfl)
  try (case by5 => rfl)
  try (case bt5 => have T := qz1d S2.th 5 22 (by omega); rw [Nat.zero_add] at T; exact T)
  have S9 := S2.hand (qz4q A h)
  go_wp2_with (first | (refine Q6z rfl 60 (.tmp 1) rfl Q6o 0 ?cx23 Q3s _ ?cc23 Q71 rfl (qz7 _ _ _ _ _ _ _ _) ?_) | (refine Q6t rfl 60 (.tmp 2) _ rfl (Q6o + 1) 0 (Q3s).toArray ?dx23 ?dy23 ?dt23 (qzs _ _ _ _ _ _ _ _) Q0v ?_))
  try (case cx23 => rfl)
  try (case cc23 => exact S9.row)
  try (case dx23 => rfl)
  try (case dy23 => rfl)
  try (case dt23 => exact S9.to)
  refine bodyPost_ret (v := .agg (Q3s).toArray) ?_ rfl ⟨_, _, _, _, by rw [hd.out], by rw [hd.out]; exact S9.fin⟩
  exact qz3 Tryz.results151 _ _ (Q6o + 1) 0 rfl Q3s _ (S9.out rfl) Q71 rfl (qz7 _ _ _ _ _ _ _ _)
 obtain ⟨H', hH⟩ : ∃ H' : Hd, Hid (H' = { h with out := min (h.out + 1) 1000000 }) := by exact ⟨_, rfl⟩
 have hd : Hid (qz4g A h = (qzaa A h, qz4q (qzaa A h) H')) := by show _ = _; rw [qz4g, if_neg e20, if_neg e22, if_pos e23, hvr, if_neg hp, hH.out]
 have hsA : qzaa A h = { A with vers := A.vers.set vk { A.vers[vk] with prev := -1 } } := by rw [qzaa, hvk, qz38 A vk hvl]; rfl
 have hAs := qzda A h
 have hl : (qzaa A h).vers.length = Q6r := by rw [hsA]; simp
 have S2 := S1.ver (S1.blk rb (Or.inr (Or.inr (Or.inr rfl)))) vk hvl 3 (by omega) { A.vers[vk] with prev := -1 } (.int .i64 (-1)) rfl
 rw [<- hsA] at S2
 have hrn : ¬ (bh = rb) := by omega
 have hrn' : ¬ (rb = bh) := by omega
 have HB2 := (But.of_only (S := fun q => q = rb) ((Only.refl rb w1).setCell (p := ⟨rb, vk * 5 + 3, none⟩) (Or.inl rfl) (.int .i64 (-1))) rfl).range HB hbl hrn
 have TB2 := (But.of_only (S := fun q => q = rb) ((Only.refl rb w1).setCell (p := ⟨rb, vk * 5 + 3, none⟩) (Or.inl rfl) (.int .i64 (-1))) rfl).there TB hbl hrn
 have S3 := S2.elsewhere (c := bh) ((Only.refl bh _).setCell (p := ⟨bh, 7, none⟩) (Or.inl rfl) (.int .i64 (min (h.out + 1) 1000000))) (by omega) (by omega) (by omega) (fun q hq => by have := O.lt q hq; omega)
 have HB3 : ((w1.setCell ⟨rb, vk * 5 + 3, none⟩ (.int .i64 (-1))).setCell ⟨bh, 7, none⟩ (.int .i64 (min (h.out + 1) 1000000))).rangeAt bh 0 (hdC { h with out := min (h.out + 1) 1000000 }) := qzb HB2 7 (by simp [hdC]) _
 rw [<- hH.out] at HB3
 have hHx : H'.x_ = h.x_ := by rw [hH.out]
 have hNext6 : ∀ (wq : World), qz1j wq.heap.size wq Q0a Q07 Q0c Q05 (qzaa A h) -> Calls Tryz.prog 161 #[.agg Q24, .agg (hdC H').toArray] wq fun e w' => e = .returned (.agg (hdC (qz4q (qzaa A h) H')).toArray) /\ Below wq.heap.size wq w' := by
  intro wq Iq
  have := qz84 wq.heap.size (qzaa A h) H' sa ga na (some ⟨rb, 0, none⟩) sc gc nc rc wq (Q6v _) (by rw [hAs]; exact hA') (by rw [hl]; exact Iq) (by rw [hHx]; exact hx0) (by rw [hHx]; exact hx1)
  rw [hl] at this
  exact this
 have r7 : w1.cell? ⟨bh, 7, none⟩ = some (.int .i64 h.out) := by simpa using HB 7 _ rfl
 have r7f : w1.frozen? ⟨bh, 7, none⟩ = false := by simpa using (TB 7 (by decide)).2
 have v1 : -9223372036854775808 <= h.out + 1 := by omega
 have v2 : h.out + 1 <= 9223372036854775807 := by omega
 clear hsA hvk hAs
 generalize qzaa A h = As at *
 go_upto_region 28 with (go_at_call 101; refine (qzq _ _ _).mono ?_; rintro e w' ⟨rfl, hw⟩; obtain rfl := hw.symm)
 generalize (w1.setCell ⟨rb, vk * 5 + 3, none⟩ (.int .i64 (-1))).setCell ⟨bh, 7, none⟩ (.int .i64 (min (h.out + 1) 1000000)) = w3 at *
 clear r0 r11 r7 r7f x0 x4 q0 q7 q11 q19 q20 f5 f12 f16 f24 f25 c3 c3f S1 S2 HB TB HB2 TB2
 have z0 := S3.cell 0 rfl; have z1 := S3.cell 1 rfl; have z2 := S3.cell 2 rfl; have z3 := S3.cell 3 rfl; have z4 := S3.cell 4 rfl
 go_upto_region 29 with (first | (refine Q6z rfl 56 (.tmp 3) rfl bh 0 ?nx6 (hdC H') _ ?nc6 Q6x rfl (qz4 H') ?_) | (go_at_call 161; refine (hNext6 _ S3.is).mono ?_; rintro e w6q ⟨rfl, b6q⟩; have S4 := S3.below b6q) | (refine Q6t rfl 56 (.tmp 139) _ rfl Q6o 5 (hdC (qz4q As H')).toArray ?bx6 ?by6 ?bt6 (qzc _) (qzk _) ?_))
 try (case nx6 => rfl)
 try (case nc6 => exact HB3)
 try (case bx6 => rfl)
 try (case by6 => rfl)
 try (case bt6 => have T := qz1d S4.th 5 22 (by omega); rw [Nat.zero_add] at T; exact T)
 have S9 := S4.hand (qz4q As H')
 go_wp2_with (first | (refine Q6z rfl 60 (.tmp 1) rfl Q6o 0 ?cx24 Q5u _ ?cc24 Q71 rfl (qz7 _ _ _ _ _ _ _ _) ?_) | (refine Q6t rfl 60 (.tmp 2) _ rfl (Q6o + 1) 0 (Q5u).toArray ?dx24 ?dy24 ?dt24 (qzs _ _ _ _ _ _ _ _) Q0v ?_))
 try (case cx24 => rfl)
 try (case cc24 => exact S9.row)
 try (case dx24 => rfl)
 try (case dy24 => rfl)
 try (case dt24 => exact S9.to)
 refine bodyPost_ret (v := .agg (Q5u).toArray) ?_ rfl ⟨_, _, _, _, by rw [hd.out], by rw [hd.out]; exact S9.fin⟩
 exact qz3 Tryz.results151 _ _ (Q6o + 1) 0 rfl Q5u _ (S9.out rfl) Q71 rfl (qz7 _ _ _ _ _ _ _ _)
end
end Go.Proofs.YthjkdnlmopafkaaGreatDoor
