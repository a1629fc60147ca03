/-
  What the law's proof goes by, part 24.
-/
import Derived.Lib.QuietBelow
import Derived.BigQuiet
import Derived.Test.YthjkdnlmopafkaaGreatDoorFnSwappedCard00
import Derived.Test.YthjkdnlmopafkaaGreatDoorFnSwappedCard09
import Derived.Test.YthjkdnlmopafkaaGreatDoorFnSwappedCard13
namespace Go.Proofs.YthjkdnlmopafkaaGreatDoor
open Go.ChangeShapes Go.WideShapes Go.ChangeAt Go.RowKit
set_option maxRecDepth 100000
set_option maxHeartbeats 16000000
set_option linter.unusedVariables false
set_option linter.unusedSimpArgs false
set_option linter.unnecessarySimpa false
set_option linter.unusedSectionVars false
section
open Go.ChangeShapes Go.WideShapes Go.ChangeAt Go.RowKit Go.Sort
attribute [local go_sem ↓] Go.wp_at_zero Go.wp_at_succ
def qzdx (A : Ar) (h : Hd) : Int := if h.index < (Q74 : Int) /\ 0 <= A.slots.getD h.index.toNat 0 then min h.least (A.slots.getD h.index.toNat 0) else h.least
def qz80 (A : Ar) (h : Hd) : Hd :=
 if (Q74 : Int) <= min (h.index + 1) 60 then { h with least := qzdx A h, index := min (h.index + 1) 60, x_ := 0, then_ := 7, at_ := 2 } else { h with least := qzdx A h, index := min (h.index + 1) 60 }
theorem qzck (base : Nat) (A : Ar) (h : Hd) (d : Dd) (tk : Bool) (s g n r : Value) (w : World) (hbase : base <= Q6o) (hA : A.size <= 1048576) (O : qz1t base w s g n r A) (x y z u : Int) (hOk : qz10 x y z u A = true) (hv0 : 0 <= h.ver) (hv1 : h.ver < (Q6r : Int)) (hx0 : 0 <= h.x_) (hx1 : h.x_ < (Q6q : Int)) (ho0 : 0 <= h.out) (ho1 : h.out <= 1000000) (e21 : h.at_ = 21) (hi0 : 0 <= h.index) (hi1 : h.index <= 60) :
  Calls Tryz.prog 151 #[.agg (Q6j).toArray] w fun e w' => ∃ s' g' n' r', e = .returned (.agg (qza Q6w s' g' n' r' (qz80 A h) d tk).toArray) /\ qz29 base w w' s g n r s' g' n' r' A := by
 have hA' := hA
 unfold Ar.size at hA
 obtain ⟨sa, sc, rfl⟩ := qzf O.rs
 obtain ⟨ga, gc, rfl⟩ := qzf O.rg
 obtain ⟨na, nc, rfl⟩ := qzf O.rn
 obtain ⟨rb, rc, rfl⟩ := qz12 O.rr (by omega)
 have S0 := qza3 base w Q0a Q07 Q0c Q05 A Q3n Q0i 60 O rfl rfl
 have hrb := qz2d O.rr (j := rb) rfl
 obtain ⟨vk, hvk⟩ : ∃ k : Nat, h.ver = k := ⟨h.ver.toNat, by omega⟩
 have hvl : vk < Q6r := by omega
 have hver := qz4t hOk vk hvl
 go_enter Tryz.func151, Tryz.ntmps151
 have tok : True := trivial
 go_wp2_with (clear tok; refine qz2j ((w.alloc (.cells (Q3n).toArray 60)).alloc (.cells Q01 60)) ?_)
 generalize hw0 : (w.alloc (.cells (Q3n).toArray 60)).alloc (.cells Q01 60) = w0 at *
 clear hw0
 show wpList _ _ _ _ _ w0
 have hset : (Q5a).setCells Q73 0 (hdC h).toArray.toList = w0.alloc Q0p := qz1c w0 56 (hdC h) [] Q0l rfl
 have FA := qzg w0 Q00 56 22 (by decide)
 have S1 := S0.below ((Q6s Q73 w0).alloc (Q6v _) Q0p)
 have HB := qz6 w0 (hdC h) 56
 have TB := qzg w0 (hdC h).toArray 56 22 (by simp [hdC])
 have hbh := S0.hi
 have hbl : Q73 < (w0.alloc Q0p).heap.size := by simp
 go_upto_region 2 with (first | (refine wpList_load_mid rfl 56 (.tmp 5) rfl w.heap.size 5 ?ax1 (hdC h) _ ?ac1 Tryz.underlying56 rfl (qz4 h) ?_) | (refine wpList_store_mid rfl 56 (.tmp 3) (.tmp 6) rfl w0.heap.size 0 _ rfl rfl FA (qzc h) (qzk h) ?_; rw [hset]))
 try (case ax1 => rfl)
 try (case ac1 => exact (qzv S0.row).2.1)
 generalize hw1 : w0.alloc Q0p = w1 at *
 clear hw1 hset FA S0
 generalize Q73 = bh at *
 have r0 : w1.cell? ⟨bh, 0, none⟩ = some (.int .i64 h.at_) := by simpa using HB 0 _ rfl
 have r19 : w1.cell? ⟨bh, 19, none⟩ = some (.int .i64 h.least) := by simpa using HB 19 _ rfl
 have r20 : w1.cell? ⟨bh, 20, none⟩ = some (.int .i64 h.index) := by simpa using HB 20 _ rfl
 have x1 := S1.cell 1 rfl
 have q0 := S1.cell 5 rfl
 have q1 := S1.cell 6 rfl
 have q10 := S1.cell 15 rfl
 have q19 := S1.cell 24 rfl
 have q20 := S1.cell 25 rfl
 have f5 := S1.free 5 (by decide)
 have f6 := S1.free 6 (by decide)
 have f15 := S1.free 15 (by decide)
 have f24 := S1.free 24 (by decide)
 have f25 := S1.free 25 (by decide)
 have hnb : ¬ (bh = Q6o) := by omega
 have hnb' : ¬ (Q6o = bh) := by omega
 have hv0' : (0 : Int) <= (vk : Int) := by omega
 have hv1' : (vk : Int) < (Q6r : Int) := by omega
 obtain ⟨m, hm⟩ : ∃ m, Hid (min (h.index + 1) 60 = m) := ⟨_, rfl⟩
 obtain ⟨ik, hik⟩ : ∃ k : Nat, h.index = k := ⟨h.index.toNat, by omega⟩
 have hikH : Hid (h.index = ik) := hik
 have v1 : -9223372036854775808 <= h.index + 1 := by omega
 have v2 : h.index + 1 <= 9223372036854775807 := by omega
 rw [e21] at r0
 by_cases hlt : h.index < (Q74 : Int)
 case neg =>
  have hln : qzdx A h = h.least := by rw [qzdx, if_neg (fun hq => hlt hq.1)]
  clear hik
  by_cases hend : (Q74 : Int) <= m
  case pos =>
   have hd : Hid (qz80 A h = { h with index := m, x_ := 0, then_ := 7, at_ := 2 }) := by show _ = _; rw [qz80, hm.out, if_pos hend, hln]
   clear hln e21
   skip
   go_upto_region 12 with (go_at_call 101; refine (qzq _ _ _).mono ?_; rintro e w' ⟨rfl, hw⟩; obtain rfl := hw.symm; first | rw [hm.out] | skip)
   skip
   go_upto_region 29 with fail
   have S8 : Stp base w _ Q6o (Q6o + 1) Q0a Q07 Q0c Q05 Q0a Q07 Q0c Q05 A (qza Q6w Q0a Q07 Q0c Q05 { h with index := m, x_ := 0, then_ := 7, at_ := 2 } d tk) := ((((S1.put 25 (by simp [qza, hdC, ddC]) (.int .i64 m)).put 15 (by simp [qza, hdC, ddC]) (.int .i64 0)).put 6 (by simp [qza, hdC, ddC]) (.int .i64 7)).put 5 (by simp [qza, hdC, ddC]) (.int .i64 2))
   go_wp2_with (first | (refine Q6z rfl 60 (.tmp 1) rfl Q6o 0 ?cx310 (qza Q6w Q0a Q07 Q0c Q05 { h with index := m, x_ := 0, then_ := 7, at_ := 2 } d tk) _ ?cc310 Q71 rfl (qz7 _ _ _ _ _ _ _ _) ?_) | (refine Q6t rfl 60 (.tmp 2) _ rfl (Q6o + 1) 0 (qza Q6w Q0a Q07 Q0c Q05 { h with index := m, x_ := 0, then_ := 7, at_ := 2 } d tk).toArray ?dx310 ?dy310 ?dt310 (qzs _ _ _ _ _ _ _ _) Q0v ?_))
   try (case cx310 => rfl)
   try (case cc310 => exact S8.row)
   try (case dx310 => rfl)
   try (case dy310 => rfl)
   try (case dt310 => exact S8.to)
   refine bodyPost_ret (v := .agg (qza Q6w Q0a Q07 Q0c Q05 { h with index := m, x_ := 0, then_ := 7, at_ := 2 } d tk).toArray) ?_ rfl ⟨_, _, _, _, by rw [hd.out], by exact S8.fin⟩
   exact qz3 Tryz.results151 _ _ (Q6o + 1) 0 rfl (qza Q6w Q0a Q07 Q0c Q05 { h with index := m, x_ := 0, then_ := 7, at_ := 2 } d tk) _ (S8.out rfl) Q71 rfl (qz7 _ _ _ _ _ _ _ _)
  case neg =>
   have hd : Hid (qz80 A h = { h with index := m }) := by show _ = _; rw [qz80, hm.out, if_neg hend, hln]
   clear hln e21
   have hend2 : m < (Q74 : Int) := (by omega)
   go_upto_region 12 with (go_at_call 101; refine (qzq _ _ _).mono ?_; rintro e w' ⟨rfl, hw⟩; obtain rfl := hw.symm; first | rw [hm.out] | skip)
   skip
   go_upto_region 29 with fail
   have S8 : Stp base w _ Q6o (Q6o + 1) Q0a Q07 Q0c Q05 Q0a Q07 Q0c Q05 A (qza Q6w Q0a Q07 Q0c Q05 { h with index := m } d tk) := (S1.put 25 (by simp [qza, hdC, ddC]) (.int .i64 m))
   go_wp2_with (first | (refine Q6z rfl 60 (.tmp 1) rfl Q6o 0 ?cx311 (qza Q6w Q0a Q07 Q0c Q05 { h with index := m } d tk) _ ?cc311 Q71 rfl (qz7 _ _ _ _ _ _ _ _) ?_) | (refine Q6t rfl 60 (.tmp 2) _ rfl (Q6o + 1) 0 (qza Q6w Q0a Q07 Q0c Q05 { h with index := m } d tk).toArray ?dx311 ?dy311 ?dt311 (qzs _ _ _ _ _ _ _ _) Q0v ?_))
   try (case cx311 => rfl)
   try (case cc311 => exact S8.row)
   try (case dx311 => rfl)
   try (case dy311 => rfl)
   try (case dt311 => exact S8.to)
   refine bodyPost_ret (v := .agg (qza Q6w Q0a Q07 Q0c Q05 { h with index := m } d tk).toArray) ?_ rfl ⟨_, _, _, _, by rw [hd.out], by exact S8.fin⟩
   exact qz3 Tryz.results151 _ _ (Q6o + 1) 0 rfl (qza Q6w Q0a Q07 Q0c Q05 { h with index := m } d tk) _ (S8.out rfl) Q71 rfl (qz7 _ _ _ _ _ _ _ _)
 have hil : ik < Q74 := by omega
 have hil' : (ik : Int) < (Q74 : Int) := by omega
 have hil0 : (0 : Int) <= (ik : Int) := by omega
 have hsl : A.slots.getD h.index.toNat 0 = A.slots[ik] := by rw [hik]; simp [hil]
 obtain ⟨sb, sc', es⟩ := qz12 S1.own.rs (by omega)
 cases es
 have cs := (qz23 S1.own.rs ik (.int .i64 A.slots[ik]) (by have := qzy (f := intC) (sz := 1) (fun _ => rfl) A.slots ik hil 0 (by omega); rw [Nat.mul_one, Nat.add_zero] at this; rw [this]; rfl)).1
 have hsb := qz2d O.rs (j := sb) rfl
 rw [hik] at r20
 by_cases hs0 : 0 <= A.slots[ik]
 case neg =>
  have hln : qzdx A h = h.least := by rw [qzdx, hsl, if_neg (fun hq => hs0 hq.2)]
  have hmk : Hid (min ((ik : Int) + 1) 60 = m) := by show _ = _; rw [<- hik]; exact hm.out
  have v3 : -9223372036854775808 <= (ik : Int) + 1 := by omega
  have v4 : (ik : Int) + 1 <= 9223372036854775807 := by omega
  clear hik hsl hlt
  by_cases hend : (Q74 : Int) <= m
  case pos =>
   have hd : Hid (qz80 A h = { h with index := m, x_ := 0, then_ := 7, at_ := 2 }) := by show _ = _; rw [qz80, hm.out, if_pos hend, hln]
   clear hln e21
   skip
   go_upto_region 12 with (go_at_call 101; refine (qzq _ _ _).mono ?_; rintro e w' ⟨rfl, hw⟩; obtain rfl := hw.symm; first | rw [hmk.out] | skip)
   generalize A.slots[ik] = sv at *; clear hil hil' hil0 hs0 v1 v2 v3 v4 hi0 hi1
   go_upto_region 29 with fail
   have S8 : Stp base w _ Q6o (Q6o + 1) Q0e Q07 Q0c Q05 Q0e Q07 Q0c Q05 A (qza Q6w Q0e Q07 Q0c Q05 { h with index := m, x_ := 0, then_ := 7, at_ := 2 } d tk) := ((((S1.put 25 (by simp [qza, hdC, ddC]) (.int .i64 m)).put 15 (by simp [qza, hdC, ddC]) (.int .i64 0)).put 6 (by simp [qza, hdC, ddC]) (.int .i64 7)).put 5 (by simp [qza, hdC, ddC]) (.int .i64 2))
   go_wp2_with (first | (refine Q6z rfl 60 (.tmp 1) rfl Q6o 0 ?cx320 (qza Q6w Q0e Q07 Q0c Q05 { h with index := m, x_ := 0, then_ := 7, at_ := 2 } d tk) _ ?cc320 Q71 rfl (qz7 _ _ _ _ _ _ _ _) ?_) | (refine Q6t rfl 60 (.tmp 2) _ rfl (Q6o + 1) 0 (qza Q6w Q0e Q07 Q0c Q05 { h with index := m, x_ := 0, then_ := 7, at_ := 2 } d tk).toArray ?dx320 ?dy320 ?dt320 (qzs _ _ _ _ _ _ _ _) Q0v ?_))
   try (case cx320 => rfl)
   try (case cc320 => exact S8.row)
   try (case dx320 => rfl)
   try (case dy320 => rfl)
   try (case dt320 => exact S8.to)
   refine bodyPost_ret (v := .agg (qza Q6w Q0e Q07 Q0c Q05 { h with index := m, x_ := 0, then_ := 7, at_ := 2 } d tk).toArray) ?_ rfl ⟨_, _, _, _, by rw [hd.out], by exact S8.fin⟩
   exact qz3 Tryz.results151 _ _ (Q6o + 1) 0 rfl (qza Q6w Q0e Q07 Q0c Q05 { h with index := m, x_ := 0, then_ := 7, at_ := 2 } d tk) _ (S8.out rfl) Q71 rfl (qz7 _ _ _ _ _ _ _ _)
  case neg =>
   have hd : Hid (qz80 A h = { h with index := m }) := by show _ = _; rw [qz80, hm.out, if_neg hend, hln]
   clear hln e21
   have hend2 : m < (Q74 : Int) := (by omega)
   go_upto_region 12 with (go_at_call 101; refine (qzq _ _ _).mono ?_; rintro e w' ⟨rfl, hw⟩; obtain rfl := hw.symm; first | rw [hmk.out] | skip)
   generalize A.slots[ik] = sv at *; clear hil hil' hil0 hs0 v1 v2 v3 v4 hi0 hi1
   go_upto_region 29 with fail
   have S8 : Stp base w _ Q6o (Q6o + 1) Q0e Q07 Q0c Q05 Q0e Q07 Q0c Q05 A (qza Q6w Q0e Q07 Q0c Q05 { h with index := m } d tk) := (S1.put 25 (by simp [qza, hdC, ddC]) (.int .i64 m))
   go_wp2_with (first | (refine Q6z rfl 60 (.tmp 1) rfl Q6o 0 ?cx321 (qza Q6w Q0e Q07 Q0c Q05 { h with index := m } d tk) _ ?cc321 Q71 rfl (qz7 _ _ _ _ _ _ _ _) ?_) | (refine Q6t rfl 60 (.tmp 2) _ rfl (Q6o + 1) 0 (qza Q6w Q0e Q07 Q0c Q05 { h with index := m } d tk).toArray ?dx321 ?dy321 ?dt321 (qzs _ _ _ _ _ _ _ _) Q0v ?_))
   try (case cx321 => rfl)
   try (case cc321 => exact S8.row)
   try (case dx321 => rfl)
   try (case dy321 => rfl)
   try (case dt321 => exact S8.to)
   refine bodyPost_ret (v := .agg (qza Q6w Q0e Q07 Q0c Q05 { h with index := m } d tk).toArray) ?_ rfl ⟨_, _, _, _, by rw [hd.out], by exact S8.fin⟩
   exact qz3 Tryz.results151 _ _ (Q6o + 1) 0 rfl (qza Q6w Q0e Q07 Q0c Q05 { h with index := m } d tk) _ (S8.out rfl) Q71 rfl (qz7 _ _ _ _ _ _ _ _)
 obtain ⟨lm, hlm⟩ : ∃ lm, Hid (min h.least A.slots[ik] = lm) := by exact ⟨_, rfl⟩
 have hln : qzdx A h = lm := by rw [qzdx, hsl, if_pos ⟨hlt, hs0⟩]; exact hlm.out
 have hmk : Hid (min ((ik : Int) + 1) 60 = m) := by show _ = _; rw [<- hik]; exact hm.out
 have v3 : -9223372036854775808 <= (ik : Int) + 1 := by omega
 have v4 : (ik : Int) + 1 <= 9223372036854775807 := by omega
 clear hik hsl hlt
 have hsn : ¬ (Q6o = sb) := by omega
 have hsn2 : ¬ (sb = Q6o) := by omega
 have hHB2 := (But.of_only (S := fun q => q = Q6o) ((Only.refl Q6o w1).setCell (p := ⟨Q6o, 24, none⟩) (Or.inl rfl) (.int .i64 lm)) rfl).range HB hbl hnb
 have S2 := ((S1.put 24 (by simp [qza, hdC, ddC]) (.int .i64 lm))).below ((Q6s _ _).drew)
 have kk1 := S2.cell 1 rfl
 go_upto_region 10 with fail
 go_region_held3 (fun w' => w'.cell? ⟨bh, 19, none⟩ = some (.int .i64 h.least) /\ w'.cell? ⟨w.heap.size, 1, none⟩ = some Q0e /\ w'.cell? ⟨bh, 20, none⟩ = some (.int .i64 (ik : Int)) /\ w'.cell? ⟨sb, ik, none⟩ = some (.int .i64 A.slots[ik])) (go_keep) (first | (go_at_call 101; refine (qzq _ _ _).mono ?_; rintro e w' ⟨rfl, hw⟩; obtain rfl := hw.symm; rw [hlm.out]))
 have r20q : ((w1.setCell ⟨Q6o, 24, none⟩ (.int .i64 lm)).drew).cell? ⟨bh, 20, none⟩ = some (.int .i64 h.index) := by simpa using hHB2 20 _ rfl
 rw [hikH.out] at r20q
 generalize (w1.setCell ⟨Q6o, 24, none⟩ (.int .i64 lm)).drew = w2 at *
 clear kk1 r0 r19 r20 x1 q0 q1 q10 q19 q20 f5 f6 f15 f24 f25 cs S1 HB TB hHB2
 have x1 := S2.cell 1 rfl
 have q0 := S2.cell 5 rfl
 have q1 := S2.cell 6 rfl
 have q10 := S2.cell 15 rfl
 have q20 := S2.cell 25 rfl
 have f5 := S2.free 5 (by decide)
 have f6 := S2.free 6 (by decide)
 have f15 := S2.free 15 (by decide)
 have f25 := S2.free 25 (by decide)
 by_cases hend : (Q74 : Int) <= m
 case pos =>
  have hd : Hid (qz80 A h = { h with least := lm, index := m, x_ := 0, then_ := 7, at_ := 2 }) := by show _ = _; rw [qz80, hm.out, if_pos hend, hln]
  clear hln e21
  skip
  go_upto_region 12 with (go_at_call 101; refine (qzq _ _ _).mono ?_; rintro e w' ⟨rfl, hw⟩; obtain rfl := hw.symm; first | rw [hmk.out] | skip)
  generalize A.slots[ik] = sv at *; clear hil hil' hil0 hs0 v1 v2 v3 v4 hi0 hi1
  go_upto_region 29 with fail
  have S8 : Stp base w _ Q6o (Q6o + 1) Q0e Q07 Q0c Q05 Q0e Q07 Q0c Q05 A (qza Q6w Q0e Q07 Q0c Q05 { h with least := lm, index := m, x_ := 0, then_ := 7, at_ := 2 } d tk) := ((((S2.put 25 (by simp [qza, hdC, ddC]) (.int .i64 m)).put 15 (by simp [qza, hdC, ddC]) (.int .i64 0)).put 6 (by simp [qza, hdC, ddC]) (.int .i64 7)).put 5 (by simp [qza, hdC, ddC]) (.int .i64 2))
  go_wp2_with (first | (refine Q6z rfl 60 (.tmp 1) rfl Q6o 0 ?cx330 (qza Q6w Q0e Q07 Q0c Q05 { h with least := lm, index := m, x_ := 0, then_ := 7, at_ := 2 } d tk) _ ?cc330 Q71 rfl (qz7 _ _ _ _ _ _ _ _) ?_) | (refine Q6t rfl 60 (.tmp 2) _ rfl (Q6o + 1) 0 (qza Q6w Q0e Q07 Q0c Q05 { h with least := lm, index := m, x_ := 0, then_ := 7, at_ := 2 } d tk).toArray ?dx330 ?dy330 ?dt330 (qzs _ _ _ _ _ _ _ _) Q0v ?_))
  try (case cx330 => rfl)
  try (case cc330 => exact S8.row)
  try (case dx330 => rfl)
  try (case dy330 => rfl)
  try (case dt330 => exact S8.to)
  refine bodyPost_ret (v := .agg (qza Q6w Q0e Q07 Q0c Q05 { h with least := lm, index := m, x_ := 0, then_ := 7, at_ := 2 } d tk).toArray) ?_ rfl ⟨_, _, _, _, by rw [hd.out], by exact S8.fin⟩
  exact qz3 Tryz.results151 _ _ (Q6o + 1) 0 rfl (qza Q6w Q0e Q07 Q0c Q05 { h with least := lm, index := m, x_ := 0, then_ := 7, at_ := 2 } d tk) _ (S8.out rfl) Q71 rfl (qz7 _ _ _ _ _ _ _ _)
 case neg =>
  have hd : Hid (qz80 A h = { h with least := lm, index := m }) := by show _ = _; rw [qz80, hm.out, if_neg hend, hln]
  clear hln e21
  have hend2 : m < (Q74 : Int) := (by omega)
  go_upto_region 12 with (go_at_call 101; refine (qzq _ _ _).mono ?_; rintro e w' ⟨rfl, hw⟩; obtain rfl := hw.symm; first | rw [hmk.out] | skip)
  generalize A.slots[ik] = sv at *; clear hil hil' hil0 hs0 v1 v2 v3 v4 hi0 hi1
  go_upto_region 29 with fail
  have S8 : Stp base w _ Q6o (Q6o + 1) Q0e Q07 Q0c Q05 Q0e Q07 Q0c Q05 A (qza Q6w Q0e Q07 Q0c Q05 { h with least := lm, index := m } d tk) := (S2.put 25 (by simp [qza, hdC, ddC]) (.int .i64 m))
  go_wp2_with (first | (refine Q6z rfl 60 (.tmp 1) rfl Q6o 0 ?cx331 (qza Q6w Q0e Q07 Q0c Q05 { h with least := lm, index := m } d tk) _ ?cc331 Q71 rfl (qz7 _ _ _ _ _ _ _ _) ?_) | (refine Q6t rfl 60 (.tmp 2) _ rfl (Q6o + 1) 0 (qza Q6w Q0e Q07 Q0c Q05 { h with least := lm, index := m } d tk).toArray ?dx331 ?dy331 ?dt331 (qzs _ _ _ _ _ _ _ _) Q0v ?_))
  try (case cx331 => rfl)
  try (case cc331 => exact S8.row)
  try (case dx331 => rfl)
  try (case dy331 => rfl)
  try (case dt331 => exact S8.to)
  refine bodyPost_ret (v := .agg (qza Q6w Q0e Q07 Q0c Q05 { h with least := lm, index := m } d tk).toArray) ?_ rfl ⟨_, _, _, _, by rw [hd.out], by exact S8.fin⟩
  exact qz3 Tryz.results151 _ _ (Q6o + 1) 0 rfl (qza Q6w Q0e Q07 Q0c Q05 { h with least := lm, index := m } d tk) _ (S8.out rfl) Q71 rfl (qz7 _ _ _ _ _ _ _ _)
end
end Go.Proofs.YthjkdnlmopafkaaGreatDoor
