/-
  What the law's proof goes by, part 12.
-/
import Derived.Deep.RegionLaw
import Derived.Test.YthjkdnlmopafkaaGreatDoorFnSwappedCard00
import Derived.Test.YthjkdnlmopafkaaGreatDoorFnSwappedCard09
import Derived.Test.YthjkdnlmopafkaaGreatDoorFnSwappedCard10
namespace Go.Proofs.YthjkdnlmopafkaaGreatDoor
open Go.ChangeShapes Go.WideShapes Go.ChangeAt Go.RowKit
set_option maxRecDepth 100000
set_option maxHeartbeats 16000000
set_option linter.unusedVariables false
set_option linter.unusedSimpArgs false
set_option linter.unnecessarySimpa false
set_option linter.unusedSectionVars false
section
attribute [local go_sem ↓] Go.wp_at_zero Go.wp_at_succ
theorem qz9g {x y z u : Int} {A : Ar} (h : qz10 x y z u A = true) : (Q75 : Int) = u /\ ∀ g (hg : g < Q75), 0 <= A.guides[g] /\ A.guides[g] < (Q6q : Int) := by
 have h1 := (qz1r h).1
 have h2 := (qz1r h).2.2.1
 simp only [qz6r, Bool.and_eq_true, beq_iff_eq] at h1
 refine ⟨h1.1.1.2, fun g hg => ?_⟩
 have := (qz1k _ _).1 h2 g hg
 simp only [qz13] at this
 omega
def qz4o (x y z u : Int) (A : Ar) (key : Int) : Int :=
 if 0 <= qz3y x y z u key /\ (ndOf A (A.guides.getD (qz3y x y z u key).toNat 0)).key < key then A.guides.getD (qz3y x y z u key).toNat 0 else 0
theorem qzeo (x y z u k : Int) (h : 0 <= qz3y x y z u k) : qz3y x y z u k < u := by
 unfold qz3y at h ⊢
 split at h
 ·rename_i hh
  rw [if_pos hh]
  simp only [Bool.and_eq_true] at hh
  have hp := (qz2n x y z u).1 hh.1
  have hk := (qz13 _ _ _).1 hh.2
  have : k * u / 64 <= u := by
   apply Int.ediv_le_of_le_mul (by omega)
   have : k * u <= 64 * u := Int.mul_le_mul_of_nonneg_right (by omega) (by omega)
   omega
  omega
 ·omega
theorem qzcf (B : Nat) (A : Ar) (x y z u key : Int) (a0 a1 a2 a3 : Option Addr) (c0 c1 c2 c3 : Nat) (w : World) (hB : B <= Q6o) (hA : A.size <= 1048576) (I : qz1j B w Q0x Q0w Q0t Q11 A) (hOk : qz10 x y z u A = true) :
  Calls Tryz.prog 69 #[.agg Q06, .agg Q02, .int .i64 key] w fun e w' => e = .returned (.int .i64 (qz4o x y z u A key)) /\ Below Q6o w w' := by
 unfold Ar.size at hA
 have P0 := (qz1q w x y z u 25).below ((Q6s _ _).alloc (Q6v _) (.cells Q02 30)) (by simp)
 have X0 : World.rangeAt Q1s (Q6o + 1) 0 Q0j := by
  have h := qz6 Q44 Q0j 30
  simp only [World.size_alloc] at h
  exact h
 have K0 := ((Q6s Q6o w).alloc (Q6v _) (.cells Q06 25)).alloc (by simp) (.cells Q02 30)
 have hz0 : Q6o + 1 < (Q1s).heap.size := by simp
 obtain ⟨p0, p1, p2, p3⟩ := P0
 go_enter Tryz.func69, Tryz.ntmps69
 go_wp2_with fail
 refine (qz7c x y z u key _).mono ?_
 rintro e w1 ⟨rfl, b1⟩
 have X1 := qz0 X0 b1 hz0
 have K1 := K0.trans (b1.mono (by omega))
 have I1 := I.below (K1.mono hB)
 clear p0 p1 p2 p3 X0 K0 b1 I
 obtain ⟨x0, x1, x2, x3, x4⟩ := row5 X1
 by_cases hg0 : 0 <= qz3y x y z u key
 case neg =>
  have hv : Hid (qz4o x y z u A key = 0) := by show _ = _; simp [qz4o, hg0]
  go_wp2_with fail
  have hg2 : ¬ (0 <= qz3y x y z u key) := by omega
  go_quiet (fail)
  go_wp2
  go_ret
  exact ⟨by rw [hv.out]; rfl, ⟨K1.os, K1.tape, K1.output, K1.size, K1.block⟩⟩
 have hgu := qzeo x y z u key hg0
 obtain ⟨hgl, hgs⟩ := qz9g hOk
 obtain ⟨g, hg⟩ : ∃ g : Nat, qz3y x y z u key = g := ⟨(qz3y x y z u key).toNat, by omega⟩
 have hgn : g < Q75 := by omega
 have hgn' : (g : Int) < (Q75 : Int) := by omega
 have hgn0 : (0 : Int) <= (g : Int) := by omega
 obtain ⟨m0, m1⟩ := hgs g hgn
 obtain ⟨m, hm⟩ : ∃ m : Nat, A.guides[g] = m := ⟨A.guides[g].toNat, by omega⟩
 have hml : m < Q6q := by omega
 have hml' : (m : Int) < (Q6q : Int) := by omega
 have hml0 : (0 : Int) <= (m : Int) := by omega
 have hgd : A.guides.getD (qz3y x y z u key).toNat 0 = (m : Int) := by rw [hg, Int.toNat_natCast, List.getD_eq_getElem?_getD, List.getElem?_eq_getElem hgn, Option.getD_some, hm]
 obtain ⟨bg, og, rfl, hbg, RG⟩ := qzu.at I1.g (by omega)
 obtain ⟨bn, on, rfl, hbn, RN⟩ := qzu.at I1.n (by omega)
 have n0 : w1.cell? ⟨bn, on + m * 3, none⟩ = some (.int .i64 A.nodes[m].key) := by simpa using (qzi (sz := 3) (fun _ => rfl) RN m hml) 0 _ rfl
 have g0 : w1.cell? ⟨bg, og + g, none⟩ = some (.int .i64 m) := by have := (qzi (sz := 1) (fun _ => rfl) RG g hgn) 0 (.int .i64 A.guides[g]) rfl; rw [hm] at this; simpa using this
 have hnd : ndOf A (m : Int) = A.nodes[m] := qz1l A m hml
 have hvv : Hid (qz4o x y z u A key = if A.nodes[m].key < key then (m : Int) else 0) := by
  show _ = _
  unfold qz4o
  rw [hgd, hnd]
  by_cases hc : A.nodes[m].key < key
  ·rw [if_pos ⟨hg0, hc⟩, if_pos hc]
  ·rw [if_neg (fun h => hc h.2), if_neg hc]
 rw [hg]
 clear RG RN hgd hg0 hgu hgl hgs hm hg
 by_cases hc : A.nodes[m].key < key
 ·have hv : Hid (qz4o x y z u A key = (m : Int)) := by show _ = _; rw [hvv.out, if_pos hc]
  go_wp2_with fail
  go_quiet (fail)
  go_wp2
  go_ret
  exact ⟨by rw [hv.out]; rfl, ⟨K1.os, K1.tape, K1.output, K1.size, K1.block⟩⟩
 ·have hv : Hid (qz4o x y z u A key = 0) := by show _ = _; rw [hvv.out, if_neg hc]
  go_wp2_with fail
  go_quiet (fail)
  go_wp2
  go_ret
  exact ⟨by rw [hv.out]; rfl, ⟨K1.os, K1.tape, K1.output, K1.size, K1.block⟩⟩
structure Dd where
 kind : Int
 key : Int
 value : Int
 stamp : Int
 clock : Int
def ddC (d : Dd) : List Value := [.int .i64 d.kind, .int .i64 d.key, .int .i64 d.value, .int .i64 d.stamp, .int .i64 d.clock]
def qz3u : Dd := ⟨0, 0, 0, 0, 0⟩
def qze0 (A : Ar) (h : Hd) : Int := if (vrOf A h.ver).kind = 1 then max (vrOf A h.ver).next 0 else h.x_
def qz4i (A : Ar) (h : Hd) : Dd := if (vrOf A h.ver).kind = 0 then qz3u else ⟨(vrOf A h.ver).kind, (ndOf A (qze0 A h)).key, (ndOf A (qze0 A h)).value, h.cam, h.camAt⟩
theorem qz8l (d : Dd) : (Tryz.prog.info? 58).map (fun i => i.size) = some (ddC d).toArray.size := by
 show _ = some 5
 kernel_rfl
theorem qz5u (d : Dd) : (Tryz.prog.info? 58).map (fun i => i.size) = some (ddC d).length := by
 show _ = some 5
 kernel_rfl
theorem qzbj (d : Dd) : (ddC d).toArray.all (·.oneCell') = true := by simp [ddC, Value.oneCell']
theorem qzcv (B : Nat) (A : Ar) (h : Hd) (a0 a1 a2 a3 : Option Addr) (c0 c1 c2 c3 : Nat) (w : World) (hB : B <= Q6o) (hA : A.size <= 1048576) (I : qz1j B w Q0x Q0w Q0t Q11 A) (x y z u : Int) (hOk : qz10 x y z u A = true) (hv0 : 0 <= h.ver) (hv1 : h.ver < (Q6r : Int)) (hx0 : 0 <= h.x_) (hx1 : h.x_ < (Q6q : Int)) :
  Calls Tryz.prog 155 Q5d w fun e w' => e = .returned (.agg (ddC (qz4i A h)).toArray) /\ Below Q6o w w' := by
 unfold Ar.size at hA
 have X0 := Q7b (Q7b (qz6 w Q0j 30) Q0p) (.cells Q2f 58)
 have H0 := Q7b (qz6 Q35 (hdC h) 56) (.cells Q2f 58)
 have G0 := Q7h (qzg Q35 (hdC h).toArray 56 22 (by simp [hdC])) (.cells Q2f 58)
 have F0 := qzg ((Q35).alloc Q0p) Q2f 58 5 (by decide)
 have K0 := (((Q6s Q6o w).alloc (Q6v _) (.cells Q02 30)).alloc (by simp) Q0p).alloc (by simp; omega) (.cells Q2f 58)
 have hz0 : Q6o + 1 + 1 < (((Q35).alloc Q0p).alloc (.cells Q2f 58)).heap.size := by simp
 simp only [World.size_alloc] at H0 G0 F0
 have I0 := I.below (K0.mono hB)
 go_enter Tryz.func155, Tryz.ntmps155
 have tok : True := trivial
 go_wp2_with (clear tok; refine qz2j (((Q35).alloc Q0p).alloc (.cells Q2f 58)) ?_)
 generalize hw0 : ((Q35).alloc Q0p).alloc (.cells Q2f 58) = w0 at *
 clear hw0 I
 show wpList _ _ _ _ _ w0
 obtain ⟨v, hv⟩ : ∃ v : Nat, h.ver = v := ⟨h.ver.toNat, by omega⟩
 have hvl : v < Q6r := by omega
 have hvl' : (v : Int) < (Q6r : Int) := by omega
 have hvl0 : (0 : Int) <= (v : Int) := by omega
 have hvr : vrOf A h.ver = A.vers[v] := by rw [hv, qz38 A v hvl]
 have hver := qz4t hOk v hvl
 obtain ⟨bb, off, rfl, hbb, R⟩ := qzu.at I0.r (by omega)
 have V5 := qzi (sz := 5) (fun _ => rfl) R v hvl
 have v0 : w0.cell? ⟨bb, off + v * 5, none⟩ = some (.int .i64 A.vers[v].next) := by simpa using V5 0 _ rfl
 have v1 : w0.cell? ⟨bb, off + v * 5 + 1, none⟩ = some (.bool A.vers[v].gone) := V5 1 _ rfl
 have v2 : w0.cell? ⟨bb, off + v * 5 + 2, none⟩ = some (.int .i64 A.vers[v].stamp) := V5 2 _ rfl
 have v3 : w0.cell? ⟨bb, off + v * 5 + 3, none⟩ = some (.int .i64 A.vers[v].prev) := V5 3 _ rfl
 have v4 : w0.cell? ⟨bb, off + v * 5 + 4, none⟩ = some (.int .i64 A.vers[v].kind) := V5 4 _ rfl
 have x4 : w0.cell? ⟨Q6o, 4, none⟩ = some Q1e := by simpa using X0 4 _ rfl
 have q11 : w0.cell? ⟨Q6o + 1, 11, none⟩ = some (.int .i64 h.ver) := by simpa using H0 11 (.int .i64 h.ver) rfl
 rw [hv] at q11
 clear R V5
 have tok : True := trivial
 go_wp2_with (clear tok; refine qz2j (w0.alloc Q10) ?_)
 have al := (Q6s Q73 w0).alloc (Q6v _) Q10
 have VB1 := qz6 w0 Q4b 40
 have X1 := qz0 X0 al (by omega)
 have H1 := qz0 H0 al (by omega)
 have G1 := qz5 G0 al (by omega)
 have F1 := qz5 F0 al (by omega)
 have K1 := K0.trans (al.mono (by omega))
 have I1 := I0.below (al.mono (by omega))
 have hz1 := Q72 hz0 al.size
 have hl1 : Q73 < (w0.alloc Q10).heap.size := by simp
 generalize hw1 : w0.alloc Q10 = w1 at *
 show wpList _ _ _ _ _ w1
 clear hw1 al X0 H0 G0 F0 K0 I0
 clear v0 v1 v2 v3 v4 x4 q11
 have hvH : Hid (h.ver = v) := hv
 clear hv hvl' hvl0
 obtain ⟨x0, x1, x2, x3, x4⟩ := row5 X1
 have q10 : w1.cell? ⟨Q6o + 1, 10, none⟩ = some (.int .i64 h.x_) := by simpa using H1 10 (.int .i64 h.x_) rfl
 have q12 : w1.cell? ⟨Q6o + 1, 12, none⟩ = some (.int .i64 h.cam) := by simpa using H1 12 (.int .i64 h.cam) rfl
 have q13 : w1.cell? ⟨Q6o + 1, 13, none⟩ = some (.int .i64 h.camAt) := by simpa using H1 13 (.int .i64 h.camAt) rfl
 have v0 : w1.cell? ⟨Q73, 0, none⟩ = some (.int .i64 A.vers[v].next) := by simpa using VB1 0 _ rfl
 have v4 : w1.cell? ⟨Q73, 4, none⟩ = some (.int .i64 A.vers[v].kind) := by simpa using VB1 4 _ rfl
 by_cases k0 : A.vers[v].kind = 0
 case pos =>
  have hd : Hid (qz4i A h = qz3u) := by show _ = _; simp [qz4i, hvr, k0]
  go_upto_region 6 with fail
  go_wp2_with (refine Q6t rfl 58 (.tmp 4) _ rfl (Q6o + 1 + 1) 0 (ddC qz3u).toArray ?dx1 ?dy1 ?dt1 (qz8l _) (qzbj _) ?_)
  try (case dx1 => rfl)
  try (case dy1 => rfl)
  try (case dt1 => exact F1)
  refine bodyPost_ret (v := .agg (ddC qz3u).toArray) ?_ rfl ⟨by rw [hd.out], ?_⟩
  ·exact qz3 Tryz.results155 _ _ (Q6o + 1 + 1) 0 rfl (ddC qz3u) _ (Q6u _ _ _ _ F1) Tryz.underlying58 rfl (qz5u _)
  ·exact Below.setCells (by omega) _ _ _ K1
 have b0 : (A.vers[v].kind == 0) = false := by simp [k0]
 by_cases k1 : A.vers[v].kind = 1
 case pos =>
  obtain ⟨n, hn⟩ : ∃ n : Nat, max A.vers[v].next 0 = n := ⟨(max A.vers[v].next 0).toNat, by omega⟩
  have hdn : qze0 A h = (n : Int) := by unfold qze0; rw [hvr, if_pos k1, hn]
  have hnl : n < Q6q := by omega
  have hnl' : (n : Int) < (Q6q : Int) := by omega
  have hnl0 : (0 : Int) <= (n : Int) := by omega
  have hnd : ndOf A (n : Int) = A.nodes[n] := qz1l A n hnl
  obtain ⟨bn, on, rfl, hbn, RN⟩ := qzu.at I1.n (by omega)
  have N3 := qzi (sz := 3) (fun _ => rfl) RN n hnl
  have n0 : w1.cell? ⟨bn, on + n * 3, none⟩ = some (.int .i64 A.nodes[n].key) := by simpa using N3 0 _ rfl
  have n1 : w1.cell? ⟨bn, on + n * 3 + 1, none⟩ = some (.int .i64 A.nodes[n].value) := N3 1 _ rfl
  clear RN N3
  obtain ⟨D', hD⟩ : ∃ D' : Dd, Hid (D' = ⟨1, A.nodes[n].key, A.nodes[n].value, h.cam, h.camAt⟩) := by exact ⟨_, rfl⟩
  have hd : Hid (qz4i A h = D') := by show _ = _; rw [hD.out]; unfold qz4i; rw [hvr, if_neg k0, hdn, hnd, k1]
  go_upto_region 7 with (first | (go_at_call 138; refine (qz1e _ _ _).mono ?_; rintro e w' ⟨rfl, hw⟩; obtain rfl := hw.symm))
  clear hn
  refine qz36 18 (by kernel_rfl) (by kernel_rfl) ?_
  simp only [List.take_succ_cons, List.take_zero, List.drop_succ_cons, List.drop_zero]
  repeat (quiet_step (fail))
  refine wpQuiet_nil ?_
  rintro _ ⟨nr, rfl⟩
  have FR : (w1.drewN nr).there (Q6o + 1 + 1) 0 5 := F1
  have KR : Below Q6o w (w1.drewN nr) := ⟨K1.os, K1.tape, K1.output, K1.size, K1.block⟩
  go_wp2_with (refine Q6t rfl 58 (.tmp 4) _ rfl (Q6o + 1 + 1) 0 (ddC D').toArray ?dx2 ?dy2 ?dt2 (qz8l _) (qzbj _) ?_)
  try (case dx2 => rfl)
  try (case dy2 => rw [hD.out]; rfl)
  try (case dt2 => exact FR)
  refine bodyPost_ret (v := .agg (ddC D').toArray) ?_ rfl ⟨by rw [hd.out], ?_⟩
  ·exact qz3 Tryz.results155 _ _ (Q6o + 1 + 1) 0 rfl (ddC D') _ (Q6u _ _ _ _ FR) Tryz.underlying58 rfl (qz5u _)
  ·exact Below.setCells (by omega) _ _ _ KR
 have b1 : (A.vers[v].kind == 1) = false := by simp [k1]
 obtain ⟨n, hn⟩ : ∃ n : Nat, h.x_ = n := ⟨h.x_.toNat, by omega⟩
 have hdn : qze0 A h = (n : Int) := by unfold qze0; rw [hvr, if_neg k1, hn]
 rw [hn] at q10
 have hnl : n < Q6q := by omega
 have hnl' : (n : Int) < (Q6q : Int) := by omega
 have hnl0 : (0 : Int) <= (n : Int) := by omega
 have hnd : ndOf A (n : Int) = A.nodes[n] := qz1l A n hnl
 obtain ⟨bn, on, rfl, hbn, RN⟩ := qzu.at I1.n (by omega)
 have N3 := qzi (sz := 3) (fun _ => rfl) RN n hnl
 have n0 : w1.cell? ⟨bn, on + n * 3, none⟩ = some (.int .i64 A.nodes[n].key) := by simpa using N3 0 _ rfl
 have n1 : w1.cell? ⟨bn, on + n * 3 + 1, none⟩ = some (.int .i64 A.nodes[n].value) := N3 1 _ rfl
 clear RN N3
 obtain ⟨D', hD⟩ : ∃ D' : Dd, Hid (D' = ⟨A.vers[v].kind, A.nodes[n].key, A.nodes[n].value, h.cam, h.camAt⟩) := by exact ⟨_, rfl⟩
 have hd : Hid (qz4i A h = D') := by show _ = _; rw [hD.out]; unfold qz4i; rw [hvr, if_neg k0, hdn, hnd]
 go_upto_region 7 with (first | (go_at_call 138; refine (qz1e _ _ _).mono ?_; rintro e w' ⟨rfl, hw⟩; obtain rfl := hw.symm))
 clear hn
 refine qz36 18 (by kernel_rfl) (by kernel_rfl) ?_
 simp only [List.take_succ_cons, List.take_zero, List.drop_succ_cons, List.drop_zero]
 repeat (quiet_step (fail))
 refine wpQuiet_nil ?_
 rintro _ ⟨nr, rfl⟩
 have FR : (w1.drewN nr).there (Q6o + 1 + 1) 0 5 := F1
 have KR : Below Q6o w (w1.drewN nr) := ⟨K1.os, K1.tape, K1.output, K1.size, K1.block⟩
 go_wp2_with (refine Q6t rfl 58 (.tmp 4) _ rfl (Q6o + 1 + 1) 0 (ddC D').toArray ?dx3 ?dy3 ?dt3 (qz8l _) (qzbj _) ?_)
 try (case dx3 => rfl)
 try (case dy3 => rw [hD.out]; rfl)
 try (case dt3 => exact FR)
 refine bodyPost_ret (v := .agg (ddC D').toArray) ?_ rfl ⟨by rw [hd.out], ?_⟩
 ·exact qz3 Tryz.results155 _ _ (Q6o + 1 + 1) 0 rfl (ddC D') _ (Q6u _ _ _ _ FR) Tryz.underlying58 rfl (qz5u _)
 ·exact Below.setCells (by omega) _ _ _ KR
end
section
attribute [local go_sem ↓] Go.wp_at_zero Go.wp_at_succ
def qza (cam : Int) (s g n r : Value) (h : Hd) (d : Dd) (tk : Bool) : List Value := [.int .i64 cam, s, g, n, r] ++ (hdC h ++ (ddC d ++ [.bool tk]))
theorem qz2r (cam : Int) (s g n r : Value) (h : Hd) (d : Dd) (tk : Bool) : (Q67).length = 33 := rfl
theorem qz2f {w : World} {b o : Nat} {p q : List Value} (R : w.rangeAt b o (p ++ q)) : w.rangeAt b o p /\ w.rangeAt b (o + p.length) q := by
 constructor
 ·intro j v hj
  have hlt : j < p.length := by
   rcases Nat.lt_or_ge j p.length with h | h
   ·exact h
   ·rw [List.getElem?_eq_none h] at hj; cases hj
  exact R j v (by rw [List.getElem?_append_left hlt]; exact hj)
 ·intro j v hj
  have := R (p.length + j) v (by rw [List.getElem?_append_right (by omega)]; simpa using hj)
  rw [<- Nat.add_assoc] at this
  exact this
theorem qz3l {w : World} {b o : Nat} {p q : List Value} (R : w.rangeAt b o p) (R' : w.rangeAt b (o + p.length) q) : w.rangeAt b o (p ++ q) := by
 intro j v hj
 rcases Nat.lt_or_ge j p.length with h | h
 ·rw [List.getElem?_append_left h] at hj
  exact R j v hj
 ·rw [List.getElem?_append_right h] at hj
  have := R' (j - p.length) v hj
  rw [show o + p.length + (j - p.length) = o + j by omega] at this
  exact this
theorem qzv {w : World} {b : Nat} {cam : Int} {s g n r : Value} {h : Hd} {d : Dd} {tk : Bool} (R : w.rangeAt b 0 Q67) : w.rangeAt b 0 [.int .i64 cam, s, g, n, r] /\ w.rangeAt b 5 (hdC h) /\ w.rangeAt b 27 (ddC d) /\ w.cell? ⟨b, 32, none⟩ = some (.bool tk) := by
 unfold qza at R
 obtain ⟨R1, R2⟩ := qz2f R
 obtain ⟨R3, R4⟩ := qz2f R2
 obtain ⟨R5, R6⟩ := qz2f R4
 refine ⟨R1, R3, R5, ?_⟩
 have := R6 0 (.bool tk) rfl
 exact this
theorem qzbh {w : World} {b : Nat} {cam : Int} {s g n r : Value} {h : Hd} {d : Dd} {tk : Bool} (R : w.rangeAt b 0 Q67) (T : w.there b 5 22) (h' : Hd) : (w.setCells b 5 (hdC h')).rangeAt b 0 (qza cam s g n r h' d tk) := by
 unfold qza at R
 obtain ⟨R1, R2⟩ := qz2f R
 obtain ⟨R3, R4⟩ := qz2f R2
 unfold qza
 refine qz3l (Q7d R1 _ _ _ (Or.inr (Or.inl (by simp)))) (qz3l (Q6u w b 5 (hdC h') T) ?_)
 exact Q7d R4 _ _ _ (Or.inr (Or.inr (by simp [hdC])))
theorem qzs (cam : Int) (s g n r : Value) (h : Hd) (d : Dd) (tk : Bool) : (Tryz.prog.info? 60).map (fun i => i.size) = some (Q67).toArray.size := by
 show _ = some 33
 kernel_rfl
theorem qz7 (cam : Int) (s g n r : Value) (h : Hd) (d : Dd) (tk : Bool) : (Tryz.prog.info? 60).map (fun i => i.size) = some (Q67).length := by
 show _ = some 33
 kernel_rfl
theorem qz11 (cam : Int) (a0 a1 a2 a3 : Option Addr) (l0 l1 l2 l3 c0 c1 c2 c3 : Nat) (h : Hd) (d : Dd) (tk : Bool) : (qza cam (.slice a0 l0 c0) (.slice a1 l1 c1) (.slice a2 l2 c2) (.slice a3 l3 c3) h d tk).toArray.all (·.oneCell') = true := by simp [qza, hdC, ddC, Value.oneCell']
def qzb0 (A : Ar) (h : Hd) : Hd :=
 if (vrOf A h.ver).prev < 0 then qz9 h 7 0 0
 else if qz32 A (vrOf A h.ver).prev = true /\ (vrOf A (vrOf A h.ver).prev).stamp <= h.held then useH A { h with ver := (vrOf A h.ver).prev } else { h with ver := (vrOf A h.ver).prev }
end
end Go.Proofs.YthjkdnlmopafkaaGreatDoor
