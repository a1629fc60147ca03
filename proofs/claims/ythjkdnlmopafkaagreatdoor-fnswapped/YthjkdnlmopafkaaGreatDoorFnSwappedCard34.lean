/-
  What the law's proof goes by, part 35.
-/
import Derived.Test.YthjkdnlmopafkaaGreatDoorFnSwappedCard00
import Derived.Test.YthjkdnlmopafkaaGreatDoorFnSwappedCard01
import Derived.Test.YthjkdnlmopafkaaGreatDoorFnSwappedCard07
import Derived.Test.YthjkdnlmopafkaaGreatDoorFnSwappedCard31
import Derived.Test.YthjkdnlmopafkaaGreatDoorFnSwappedCard33
namespace Go.Proofs.YthjkdnlmopafkaaGreatDoor
open Go.ChangeShapes Go.WideShapes Go.ChangeAt Go.RowKit
set_option maxRecDepth 100000
set_option maxHeartbeats 16000000
set_option linter.unusedVariables false
set_option linter.unusedSimpArgs false
set_option linter.unnecessarySimpa false
set_option linter.unusedSectionVars false
section
theorem qz2a (B b : Nat) (a : Option Addr) (len cap : Nat) (i h : Int) (lo hi : Int) (w : World) (hB : B <= b) (hlen : len <= 4096) (D : qz1f .i64 w b a len cap i h) (C : qz17 B w a len) (h1 : lo <= hi) (h2 : -100000 <= lo) (h3 : hi <= 100000) :
  Calls Tryz.prog 30 #[.pointer (some ⟨b, 0, none⟩), .int .i64 lo, .int .i64 hi] w fun e w' => ∃ r i' h', e = .returned (.int .i64 r) /\ lo <= r /\ r <= hi /\ qz1f .i64 w' b a len cap i' h' /\ qz17 B w' a len /\ Only b w w' := by
 go_enter Tryz.func30, Tryz.ntmps30
 go_wp2_with fail
 refine (qzx B b a len cap i h (hi - lo + 1) _ hB hlen D C (by omega) (by omega)).mono ?_
 rintro e w1 ⟨r, i1, h1', rfl, r0, r1, D1, C1, O1⟩
 go_wp2
 go_ret
 exact ⟨lo + r, i1, h1', rfl, by omega, by omega, D1, C1, O1⟩
theorem qz96 (B b : Nat) (a : Option Addr) (len cap : Nat) (i h : Int) (g : Hd) (w : World) (hB : B <= b) (hlen : len <= 4096) (D : qz1f .i64 w b a len cap i h) (C : qz17 B w a len) :
  Calls Tryz.prog 140 #[.pointer (some ⟨b, 0, none⟩), .agg (hdC g).toArray] w fun e w' => ∃ c q v i' h', e = .returned (.tuple #[.int .i64 c, .int .i64 q, .int .i64 v]) /\ qz1f .i64 w' b a len cap i' h' /\ qz17 B w' a len /\ Only b w w' := by
 show Calls Tryz.prog 140 #[.pointer (some ⟨b, 0, none⟩), .agg #[.int .i64 g.at_, .int .i64 g.then_, .int .i64 g.code, .int .i64 g.key, .int .i64 g.value, .int .i64 g.begin, .int .i64 g.reply, .int .i64 g.out, .int .i64 g.sum, .int .i64 g.held, .int .i64 g.x_, .int .i64 g.ver, .int .i64 g.cam, .int .i64 g.camAt, .int .i64 g.pred, .int .i64 g.predVer, .int .i64 g.curr, .int .i64 g.currVer, .int .i64 g.new_, .int .i64 g.least, .int .i64 g.index, .int .i64 g.round]] w fun e w' => ∃ c q v i' h', e = .returned (.tuple #[.int .i64 c, .int .i64 q, .int .i64 v]) /\ qz1f .i64 w' b a len cap i' h' /\ qz17 B w' a len /\ Only b w w'
 have blk := D.blk
 have R0 := qz6 w (hdC g) 56
 have hz0 : (w.alloc Q6a).heap.size = Q6o + 1 := by simp
 have D0 := D.alloc Q6a
 have C0 := C.alloc (by omega) Q6a
 have O0 := (Only.refl b w).alloc Q6a
 go_enter Tryz.func140, Tryz.ntmps140
 go_wp2_with fail
 change Calls Tryz.prog _ _ (w.alloc Q6a) _
 generalize hw0 : w.alloc Q6a = w0 at *
 clear hw0
 refine (qz2a B b a len cap i h 1 8 w0 hB hlen D0 C0 (by omega) (by omega) (by omega)).mono ?_
 rintro e w1 ⟨r, i1, h1, rfl, r0, r1, D1, C1, O1⟩
 have hz1 := O1.size
 have R1 := (fun j v hv => (O1.cell (p := ⟨Q6o, 0 + j, none⟩) (by show Q6o < _; omega) (by show Q6o ≠ b; omega)).trans (R0 j v hv) : w1.rangeAt Q6o 0 (hdC g))
 have x9 : w1.cell? ⟨Q6o, 9, none⟩ = some (.int .i64 g.held) := by simpa using R1 9 (.int .i64 g.held) rfl
 have OO := O0.trans O1
 clear R0 R1 D0 C0 O0 O1 D C
 have fin : ∀ (code : Int) (wq : World) (iq hq : Int), qz1f .i64 wq b a len cap iq hq -> qz17 B wq a len -> Only b w wq -> True := fun _ _ _ _ _ _ _ => trivial
 clear fin
 by_cases hh : g.held < 0
 ·go_wp2_with fail
  refine (qz2g B b a len cap i1 h1 5 _ hB hlen D1 C1 (by omega) (by omega)).mono ?_
  rintro e w2 ⟨r5, i2, h2, rfl, D2, C2, O2⟩
  have OO2 := OO.trans O2
  clear x9 OO O2 D1 C1
  have blk2 := D2.blk
  cases r5
  ·go_wp2_with fail
   refine (qzx B b a len cap i2 h2 6 _ hB hlen (D2.alloc _) (C2.alloc (by omega) _) (by omega) (by omega)).mono ?_
   rintro e w3 ⟨r3, i3, h3, rfl, r30, r31, D3, C3, O3⟩
   have I1 := (qz5i w2 [1, 1, 2, 3, 4, 8] _ 2 rfl).only O3 (by omega)
   obtain ⟨rN, rfl⟩ := Int.eq_ofNat_of_zero_le r30
   obtain ⟨cv, hv⟩ : ∃ v, w3.cell? ⟨Q78, rN, none⟩ = some (.int .i64 v) := ⟨_, I1.2 rN (by simp; omega)⟩
   clear I1
   have r32 : (rN : Int) < 6 := r31
   have OO3 := (OO2.alloc (.cells #[.int .i64 1, .int .i64 1, .int .i64 2, .int .i64 3, .int .i64 4, .int .i64 8] 2)).trans O3
   clear OO2 O3 D2 C2
   go_wp2_with fail
   refine (qzx B b a len cap i3 h3 6 _ hB hlen D3 C3 (by omega) (by omega)).mono ?_
   rintro e w3k ⟨kr, ik, hk, rfl, k0, k1, Dk, Ck, Ok⟩
   have OK := OO3.trans Ok
   by_cases cc1 : cv = 1
   ·rw [cc1]
    go_wp2_with fail
    refine (qzx B b a len cap ik hk 20 _ hB hlen Dk Ck (by omega) (by omega)).mono ?_
    rintro e w3v ⟨vr, iv, hv, rfl, v0, v1, Dv, Cv, Ov⟩
    go_wp2
    go_ret3
    exact ⟨_, _, _, iv, hv, rfl, Dv, Cv, OK.trans Ov⟩
   by_cases cc7 : cv = 7
   ·rw [cc7]
    go_wp2_with fail
    refine (qzx B b a len cap ik hk 64 _ hB hlen Dk Ck (by omega) (by omega)).mono ?_
    rintro e w3v ⟨vr, iv, hv, rfl, v0, v1, Dv, Cv, Ov⟩
    go_wp2
    go_ret3
    exact ⟨_, _, _, iv, hv, rfl, Dv, Cv, OK.trans Ov⟩
   by_cases cc2 : cv = 2
   ·rw [cc2]
    go_wp2
    go_ret3
    exact ⟨_, _, _, ik, hk, rfl, Dk, Ck, OK⟩
   by_cases cc3 : cv = 3
   ·rw [cc3]
    go_wp2
    go_ret3
    exact ⟨_, _, _, ik, hk, rfl, Dk, Ck, OK⟩
   by_cases cc6 : cv = 6
   ·rw [cc6]
    go_wp2
    go_ret3
    exact ⟨_, _, _, ik, hk, rfl, Dk, Ck, OK⟩
   have bb1 : (cv == 1) = false := by simp [cc1]
   have bb7 : (cv == 7) = false := by simp [cc7]
   have bb2 : (cv == 2) = false := by simp [cc2]
   have bb3 : (cv == 3) = false := by simp [cc3]
   have bb6 : (cv == 6) = false := by simp [cc6]
   go_wp2
   go_ret3
   exact ⟨_, _, _, ik, hk, rfl, Dk, Ck, OK⟩
  ·skip
   go_wp2_with fail
   refine (qzx B b a len cap i2 h2 6 _ hB hlen D2 C2 (by omega) (by omega)).mono ?_
   rintro e w2k ⟨kr, ik, hk, rfl, k0, k1, Dk, Ck, Ok⟩
   have OK := OO2.trans Ok
   by_cases cc1 : r = 1
   ·rw [cc1]
    go_wp2_with fail
    refine (qzx B b a len cap ik hk 20 _ hB hlen Dk Ck (by omega) (by omega)).mono ?_
    rintro e w2v ⟨vr, iv, hv, rfl, v0, v1, Dv, Cv, Ov⟩
    go_wp2
    go_ret3
    exact ⟨_, _, _, iv, hv, rfl, Dv, Cv, OK.trans Ov⟩
   by_cases cc7 : r = 7
   ·rw [cc7]
    go_wp2_with fail
    refine (qzx B b a len cap ik hk 64 _ hB hlen Dk Ck (by omega) (by omega)).mono ?_
    rintro e w2v ⟨vr, iv, hv, rfl, v0, v1, Dv, Cv, Ov⟩
    go_wp2
    go_ret3
    exact ⟨_, _, _, iv, hv, rfl, Dv, Cv, OK.trans Ov⟩
   by_cases cc2 : r = 2
   ·rw [cc2]
    go_wp2
    go_ret3
    exact ⟨_, _, _, ik, hk, rfl, Dk, Ck, OK⟩
   by_cases cc3 : r = 3
   ·rw [cc3]
    go_wp2
    go_ret3
    exact ⟨_, _, _, ik, hk, rfl, Dk, Ck, OK⟩
   by_cases cc6 : r = 6
   ·rw [cc6]
    go_wp2
    go_ret3
    exact ⟨_, _, _, ik, hk, rfl, Dk, Ck, OK⟩
   have bb1 : (r == 1) = false := by simp [cc1]
   have bb7 : (r == 7) = false := by simp [cc7]
   have bb2 : (r == 2) = false := by simp [cc2]
   have bb3 : (r == 3) = false := by simp [cc3]
   have bb6 : (r == 6) = false := by simp [cc6]
   go_wp2
   go_ret3
   exact ⟨_, _, _, ik, hk, rfl, Dk, Ck, OK⟩
 go_wp2_with fail
 refine (qzx B b a len cap i1 h1 6 _ hB hlen D1 C1 (by omega) (by omega)).mono ?_
 rintro e w1k ⟨kr, ik, hk, rfl, k0, k1, Dk, Ck, Ok⟩
 have OK := OO.trans Ok
 by_cases cc1 : r = 1
 ·rw [cc1]
  go_wp2_with fail
  refine (qzx B b a len cap ik hk 20 _ hB hlen Dk Ck (by omega) (by omega)).mono ?_
  rintro e w1v ⟨vr, iv, hv, rfl, v0, v1, Dv, Cv, Ov⟩
  go_wp2
  go_ret3
  exact ⟨_, _, _, iv, hv, rfl, Dv, Cv, OK.trans Ov⟩
 by_cases cc7 : r = 7
 ·rw [cc7]
  go_wp2_with fail
  refine (qzx B b a len cap ik hk 64 _ hB hlen Dk Ck (by omega) (by omega)).mono ?_
  rintro e w1v ⟨vr, iv, hv, rfl, v0, v1, Dv, Cv, Ov⟩
  go_wp2
  go_ret3
  exact ⟨_, _, _, iv, hv, rfl, Dv, Cv, OK.trans Ov⟩
 by_cases cc2 : r = 2
 ·rw [cc2]
  go_wp2
  go_ret3
  exact ⟨_, _, _, ik, hk, rfl, Dk, Ck, OK⟩
 by_cases cc3 : r = 3
 ·rw [cc3]
  go_wp2
  go_ret3
  exact ⟨_, _, _, ik, hk, rfl, Dk, Ck, OK⟩
 by_cases cc6 : r = 6
 ·rw [cc6]
  go_wp2
  go_ret3
  exact ⟨_, _, _, ik, hk, rfl, Dk, Ck, OK⟩
 have bb1 : (r == 1) = false := by simp [cc1]
 have bb7 : (r == 7) = false := by simp [cc7]
 have bb2 : (r == 2) = false := by simp [cc2]
 have bb3 : (r == 3) = false := by simp [cc3]
 have bb6 : (r == 6) = false := by simp [cc6]
 go_wp2
 go_ret3
 exact ⟨_, _, _, ik, hk, rfl, Dk, Ck, OK⟩
end
section
attribute [local go_sem ↓] Go.wp_at_zero Go.wp_at_succ
theorem qz5v {b c : Nat} {x w w' : World} (h : Only b x w) (k : Only c w w') (hc : x.heap.size <= c) : Only b x w' :=
 ⟨k.os.trans h.os, k.tape.trans h.tape, k.output.trans h.output, Q77 h.size k.size, fun q hq hn => (k.block q (Q72 hq h.size) (by omega)).trans (h.block q hq hn)⟩
theorem qz49 {B c : Nat} {w w' : World} {v : Value} {n : Nat} {cs : List Value} (S : qzu B w v n cs) (hO : Only c w w') (hB : B <= Q6o) (hne : ∀ q, qz3e v = some q -> q ≠ c) : qzu B w' v n cs := by
 obtain ⟨a', cap', rfl, h⟩ := S
 refine ⟨a', cap', rfl, ?_⟩
 rcases h with h | ⟨bb, off, rfl, lt, R⟩
 ·exact Or.inl h
 ·exact Or.inr ⟨bb, off, rfl, lt, qzh R hO (by omega) (hne bb rfl)⟩
def qzh6 (s g n r hs cs ds ts : Value) (q : Nat) : Prop := qz3e s = some q ∨ qz3e g = some q ∨ qz3e n = some q ∨ qz3e r = some q ∨ qz3e hs = some q ∨ qz3e cs = some q ∨ qz3e ds = some q ∨ qz3e ts = some q
theorem WdIs.far {B c : Nat} {w w' : World} {s g n r hs cs ds ts : Value} {W : Wd} (I : WdIs B w s g n r hs cs ds ts W) (hO : Only c w w') (hB : B <= Q6o) (hne : ∀ q, qzh6 s g n r hs cs ds ts q -> q ≠ c) : WdIs B w' s g n r hs cs ds ts W :=
 ⟨⟨qz49 I.ar.s hO hB (fun q e => hne q (Or.inl e)), qz49 I.ar.g hO hB (fun q e => hne q (Or.inr (Or.inl e))), qz49 I.ar.n hO hB (fun q e => hne q (Or.inr (Or.inr (Or.inl e)))), qz49 I.ar.r hO hB (fun q e => hne q (Or.inr (Or.inr (Or.inr (Or.inl e)))))⟩,
  qz49 I.h hO hB (fun q e => hne q (Or.inr (Or.inr (Or.inr (Or.inr (Or.inl e)))))), qz49 I.c hO hB (fun q e => hne q (Or.inr (Or.inr (Or.inr (Or.inr (Or.inr (Or.inl e))))))), qz49 I.d hO hB (fun q e => hne q (Or.inr (Or.inr (Or.inr (Or.inr (Or.inr (Or.inr (Or.inl e)))))))), qz49 I.t hO hB (fun q e => hne q (Or.inr (Or.inr (Or.inr (Or.inr (Or.inr (Or.inr (Or.inr e))))))))⟩
theorem WdIs.weaken {B B' : Nat} {w : World} {s g n r hs cs ds ts : Value} {W : Wd} (I : WdIs B w s g n r hs cs ds ts W) (hB : B <= B') : WdIs B' w s g n r hs cs ds ts W :=
 ⟨I.ar.weaken hB, I.h.weaken hB, I.c.weaken hB, I.d.weaken hB, I.t.weaken hB⟩
theorem qza9.blk {base : Nat} {w : World} {s g n r hs cs ds ts : Value} {W : Wd} (O : qza9 base w s g n r hs cs ds ts W) (q : Nat) (h : qzh6 s g n r hs cs ds ts q) : base <= q /\ q < Q6o := by
 rcases h with e | e | e | e | e | e | e | e
 ·rw [qz3k O.ar.rs] at e; exact ⟨qz1g O.ar.rs e, qz2d O.ar.rs e⟩
 ·rw [qz3k O.ar.rg] at e; exact ⟨qz1g O.ar.rg e, qz2d O.ar.rg e⟩
 ·rw [qz3k O.ar.rn] at e; exact ⟨qz1g O.ar.rn e, qz2d O.ar.rn e⟩
 ·rw [qz3k O.ar.rr] at e; exact ⟨qz1g O.ar.rr e, qz2d O.ar.rr e⟩
 ·rw [qz3k O.h] at e; exact ⟨qz1g O.h e, qz2d O.h e⟩
 ·rw [qz3k O.c] at e; exact ⟨qz1g O.c e, qz2d O.c e⟩
 ·rw [qz3k O.d] at e; exact ⟨qz1g O.d e, qz2d O.d e⟩
 ·rw [qz3k O.t] at e; exact ⟨qz1g O.t e, qz2d O.t e⟩
theorem qz1t.farN {base c : Nat} {w w' : World} {s g n r : Value} {A : Ar} (O : qz1t base w s g n r A) (hb : Only c w w') (hne : ∀ q, (qz3e s = some q ∨ qz3e g = some q ∨ qz3e n = some q ∨ qz3e r = some q) -> q ≠ c) : qz1t base w' s g n r A :=
 ⟨qzm O.rs hb (fun j e => hne j (Or.inl ((qz3k O.rs).trans e))), qzm O.rg hb (fun j e => hne j (Or.inr (Or.inl ((qz3k O.rg).trans e)))), qzm O.rn hb (fun j e => hne j (Or.inr (Or.inr (Or.inl ((qz3k O.rn).trans e))))), qzm O.rr hb (fun j e => hne j (Or.inr (Or.inr (Or.inr ((qz3k O.rr).trans e))))), O.ne⟩
structure Play (kd : IntKind) (B b b2 b3 : Nat) (w wr : World) (a : Option Addr) (len cap : Nat) (x y z u : Int) (s g n r hs cs ds ts : Value) (W : Wd) : Prop where
 dice : ∃ i h, qz1f kd wr b a len cap i h
 bytes : qz17 B wr a len
 row : wr.rangeAt b3 0 Q4h
 th : wr.there b3 0 14
 rm : wr.there b2 0 14
 is : WdIs wr.heap.size wr s g n r hs cs ds ts W
 far : ∀ q, qzh6 s g n r hs cs ds ts q -> Q6o <= q /\ q ≠ b2 /\ q ≠ b3
 only : Only b w wr
 lo : Q6o <= b2
 lt : b2 < b3
 hi : b3 < wr.heap.size
 own : qz1t Q6o wr s g n r W.A
section
variable {kd : IntKind} {B b b2 b3 : Nat} {w wr w' : World} {a : Option Addr} {len cap : Nat} {x y z u : Int} {s g n r hs cs ds ts : Value} {W : Wd}
theorem Play.draw (P : Play kd B b b2 b3 w wr a len cap x y z u s g n r hs cs ds ts W) (hbw : b < Q6o) {i' h' : Int} (D' : qz1f kd w' b a len cap i' h') (C' : qz17 B w' a len) (O' : Only b wr w') : Play kd B b b2 b3 w w' a len cap x y z u s g n r hs cs ds ts W := by
 have h1 := P.lo
 have h2 := P.lt
 have h3 := P.hi
 exact ⟨⟨i', h', D'⟩, C', qzh P.row O' h3 (by omega), qzj P.th O' h3 (by omega), qzj P.rm O' (by omega) (by omega), (P.is.far O' (Q6v _) (fun q e => by have := (P.far q e).1; omega)).weaken O'.size, P.far, P.only.trans O', h1, h2, Q72 h3 O'.size, P.own.only O' hbw⟩
theorem Play.below (P : Play kd B b b2 b3 w wr a len cap x y z u s g n r hs cs ds ts W) (hB : B <= b) (hb : Below wr.heap.size wr w') : Play kd B b b2 b3 w w' a len cap x y z u s g n r hs cs ds ts W := by
 have h1 := P.lo
 have h2 := P.lt
 have h3 := P.hi
 obtain ⟨i, h, Dd⟩ := P.dice
 exact ⟨⟨i, h, Dd.below hb⟩, P.bytes.below (hb.mono (by have := Dd.blk; omega)), qz0 P.row hb h3, qz5 P.th hb h3, qz5 P.rm hb (by omega), (P.is.below hb).weaken hb.size, P.far, P.only.trans (Only.of_below hb), h1, h2, Q72 h3 hb.size, P.own.below hb⟩
theorem Play.store {s' g' n' r' hs' cs' ds' ts' : Value} {W' : Wd} (P : Play kd B b b2 b3 w wr a len cap x y z u s g n r hs cs ds ts W) (hB : B <= b) (hbw : b < Q6o) (hb : Below wr.heap.size wr w') (O : qza9 wr.heap.size w' s' g' n' r' hs' cs' ds' ts' W') :
  Play kd B b b2 b3 w (w'.setCells b3 0 (wdC x y z u W'.A.camera s' g' n' r' hs' cs' ds' ts' W'.now)) a len cap x y z u s' g' n' r' hs' cs' ds' ts' W' := by
 have Q := P.below hB hb
 have h1 := Q.lo
 have h2 := Q.lt
 have h3 := Q.hi
 have h4 := P.hi
 have hO := qze b3 (wdC x y z u W'.A.camera s' g' n' r' hs' cs' ds' ts' W'.now) 0 w'
 obtain ⟨i, h, Dd⟩ := Q.dice
 have hz := hb.size
 have hw := P.only.size
 refine ⟨⟨i, h, Dd.only hO (by omega)⟩, Q.bytes.below (hO.below (by omega) (by have := Dd.blk; omega)), Q6u _ _ _ _ Q.th, Q7f Q.th _ _ _, Q7f Q.rm _ _ _, (O.only hO h4).is, fun q e => ?_, qz5v Q.only hO (by omega), h1, h2, by rw [qzp]; exact h3, (O.ar.only hO h4).lo hw⟩
 have := O.blk q e
 omega
theorem Play.again (P : Play kd B b b2 b3 w wr a len cap x y z u s g n r hs cs ds ts W) (hB : B <= b) (hbw : b < Q6o) (hb : Below wr.heap.size wr w') :
  Play kd B b b2 b3 w (w'.setCells b3 0 Q4h) a len cap x y z u s g n r hs cs ds ts W := by
 have Q := P.below hB hb
 have h1 := Q.lo
 have h2 := Q.lt
 have h3 := Q.hi
 have hO := qze b3 Q4h 0 w'
 obtain ⟨i, h, Dd⟩ := Q.dice
 exact ⟨⟨i, h, Dd.only hO (by omega)⟩, Q.bytes.below (hO.below (by omega) (by have := Dd.blk; omega)), Q6u _ _ _ _ Q.th, Q7f Q.th _ _ _, Q7f Q.rm _ _ _, (Q.is.far hO (Q6v _) (fun q e => (Q.far q e).2.2)).weaken hO.size, Q.far, qz5v Q.only hO (by omega), h1, h2, by rw [qzp]; exact h3, Q.own.farN hO (fun q e => (Q.far q (e.elim Or.inl (fun e => Or.inr (e.elim Or.inl (fun e => Or.inr (e.elim Or.inl (fun e => Or.inr (Or.inl e)))))))).2.2)⟩
theorem Play.slices (P : Play kd B b b2 b3 w wr a len cap x y z u s g n r hs cs ds ts W) : ∃ (a0 a1 a2 a3 a4 a5 a6 a7 : Option Addr) (c0 c1 c2 c3 c4 c5 c6 c7 : Nat), s = .slice a0 W.A.slots.length c0 /\ g = .slice a1 W.A.guides.length c1 /\ n = .slice a2 W.A.nodes.length c2 /\ r = .slice a3 W.A.vers.length c3 /\ hs = .slice a4 Q76 c4 /\ cs = .slice a5 Q79 c5 /\ ds = .slice a6 Q7c c6 /\ ts = .slice a7 Q7a c7 := by
 obtain ⟨a0, c0, e0, _⟩ := P.is.ar.s
 obtain ⟨a1, c1, e1, _⟩ := P.is.ar.g
 obtain ⟨a2, c2, e2, _⟩ := P.is.ar.n
 obtain ⟨a3, c3, e3, _⟩ := P.is.ar.r
 obtain ⟨a4, c4, e4, _⟩ := P.is.h
 obtain ⟨a5, c5, e5, _⟩ := P.is.c
 obtain ⟨a6, c6, e6, _⟩ := P.is.d
 obtain ⟨a7, c7, e7, _⟩ := P.is.t
 exact ⟨a0, a1, a2, a3, a4, a5, a6, a7, c0, c1, c2, c3, c4, c5, c6, c7, e0, e1, e2, e3, e4, e5, e6, e7⟩
theorem Play.cell (P : Play kd B b b2 b3 w wr a len cap x y z u s g n r hs cs ds ts W) (k : Nat) {v : Value} (hv : Q4h[k]? = some v) : wr.cell? ⟨b3, k, none⟩ = some v := by
 have := P.row k v hv
 rwa [Nat.zero_add] at this
end
end
section
attribute [local go_sem ↓] Go.wp_at_zero Go.wp_at_succ
theorem qz6l (B : Nat) (x y z u : Int) (W : Wd) (a0 a1 a2 a3 a4 a5 a6 a7 : Option Addr) (c0 c1 c2 c3 c4 c5 c6 c7 : Nat) (k : Nat) (h : Hd) (w : World) (hB : B <= Q6o) (hW : W.size <= 1000000) (I : WdIs B w Q4l Q4j Q4k Q4n Q6k Q66 Q65 Q63 W) (hk : k < Q76) (hkh : W.hands[k] = h) (h0 : h.at_ = 0) :
  Calls Tryz.prog 111 #[.agg Q0d, .int .i64 (k : Int)] w fun e w' => e = .returned (.tuple #[.agg Q0d, .bool false]) /\ Below Q6o w w' := by
 unfold Wd.size at hW
 obtain ⟨hb, ho, rfl, hbB, Rh⟩ : ∃ hb ho, a4 = some ⟨hb, ho, none⟩ /\ hb < B /\ w.rangeAt hb ho (qz8 hdC W.hands) := by
  obtain ⟨a', cap', e4, h4⟩ := I.h
  cases e4
  rcases h4 with h4 | ⟨hb, ho, e, h5, h6⟩
  ·omega
  ·exact ⟨hb, ho, e, h5, h6⟩
 have X0 := Q7b (qz6 w Q0o 50) (.cells Q04 50)
 have F0 := qzg (w.alloc (.cells Q03 50)) Q04 50 14 (by decide)
 have K0 := ((Q6s Q6o w).alloc (Q6v _) (.cells Q03 50)).alloc (by simp) (.cells Q04 50)
 have E0 := qz0 (qzi (f := hdC) (sz := 22) (fun _ => rfl) Rh k hk) K0 (Q72 hbB hB)
 rw [hkh] at E0
 have FA := qzg Q2c Q00 56 22 (by decide)
 have hset : ((Q2c).alloc (.cells Q00 56)).setCells (Q2c).heap.size 0 (hdC h).toArray.toList = (Q2c).alloc (.cells Q08 56) := qz1c Q2c 56 (hdC h) [] Q0l rfl
 have X1 := Q7b X0 (.cells Q08 56)
 have F1 := Q7h F0 (.cells Q08 56)
 have H1 : ((Q2c).alloc (.cells Q08 56)).rangeAt (Q2c).heap.size 0 (hdC h) := qz6 Q2c (hdC h) 56
 have hz1 : ((Q2c).alloc (.cells Q08 56)).heap.size = Q6o + 3 := by simp
 simp only [World.size_alloc] at F0 F1 H1 FA hset
 have K1 := K0.alloc (by simp; omega) (.cells Q08 56)
 obtain ⟨x0, x1, x2, x3, x4, x5, x6, x7, x8, x9, x10, x11, x12, x13⟩ := qzf9 X0
 have hk1 : (k : Int) < (Q76 : Int) := by omega
 have hk0 : (0 : Int) <= (k : Int) := by omega
 clear Rh I X0 F0 K0
 go_enter Tryz.func111, Tryz.ntmps111
 go_upto_region 2 with (first | (refine wpList_load_mid rfl 56 (.tmp 13) rfl hb (ho + k * 22) rfl (hdC h) _ ?hc0 Tryz.underlying56 rfl (qz4 h) ?_) | (refine wpList_store_mid rfl 56 (.tmp 6) (.tmp 14) rfl (w.heap.size + 1 + 1) 0 _ rfl rfl FA (qzc h) (qzk _) ?_; rw [hset]))
 case hc0 => exact E0
 clear FA hset E0 x0 x1 x2 x3 x4 x5 x6 x7 x8 x9 x10 x11 x12 x13
 generalize hw1 : ((Q2c).alloc (.cells Q08 56)) = w1 at *
 clear hw1
 have y0 : w1.cell? ⟨Q6o + 1 + 1, 0, none⟩ = some (.int .i64 0) := by rw [<- h0]; simpa using H1 0 (.int .i64 h.at_) rfl
 go_wp2_with (first | (refine wpList_load_mid rfl 50 (.tmp 2) rfl w.heap.size 0 rfl Q0o _ ?lf Tryz.underlying50 rfl qzn ?_) | (refine wpList_store_mid rfl 50 (.tmp 4) (.tmp 23) rfl (w.heap.size + 1) 0 Q03 ?fx ?fy ?ft qzn (by simp [Value.oneCell']) ?_))
 try (case lf => exact X1)
 try (case fx => rfl)
 try (case fy => rfl)
 try (case ft => exact F1)
 refine bodyPost_ret (v := .tuple #[.agg Q03, .bool false]) ?_ rfl ⟨rfl, ?_⟩
 ·exact qzl Tryz.results111 _ _ (Q6o + 1) 0 rfl Q0o _ (Q6u _ _ _ _ F1) Q7e rfl qzn
 ·exact Below.setCells (by omega) _ _ _ K1
end
end Go.Proofs.YthjkdnlmopafkaaGreatDoor
