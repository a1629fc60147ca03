/-
  What the law's proof goes by, part 35.
-/
import Derived.Test.YthjkdnlmopafkaaGreatFnSealed00
import Derived.Test.YthjkdnlmopafkaaGreatFnSealed01
import Derived.Test.YthjkdnlmopafkaaGreatFnSealed06
import Derived.Test.YthjkdnlmopafkaaGreatFnSealed31
import Derived.Test.YthjkdnlmopafkaaGreatFnSealed33
namespace Go.Proofs.YthjkdnlmopafkaaGreat
open Go.ChangeShapes Go.WideShapes Go.ChangeAt Go.RowKit
set_option maxRecDepth 100000
set_option maxHeartbeats 16000000
set_option linter.unusedVariables false
set_option linter.unusedSimpArgs false
set_option linter.unnecessarySimpa false
set_option linter.unusedSectionVars false
section
theorem qz3r (B b : Nat) (a : Option Addr) (len cap : Nat) (i h : Int) (lo hi : Int) (w : World) (hB : B <= b) (hlen : len <= 4096) (D : qz20 .i64 w b a len cap i h) (C : qz1p B w a len) (h1 : lo <= hi) (h2 : -100000 <= lo) (h3 : hi <= 100000) :
  Calls Tryz.prog 45 Q6p w fun e w' => ∃ r i' h', e = .returned (.int .i64 r) /\ lo <= r /\ r <= hi /\ qz20 .i64 w' b a len cap i' h' /\ qz1p B w' a len /\ Only b w w' := by
 go_enter Tryz.func45, Tryz.ntmps45
 go_wp2_with fail
 refine (qz13 B b a len cap i h (hi - lo + 1) _ hB hlen D C (by omega) (by omega)).mono ?_
 rintro e w1 ⟨r, i1, h1', rfl, r0, r1, D1, C1, O1⟩
 go_wp2
 go_ret
 exact ⟨lo + r, i1, h1', rfl, by omega, by omega, D1, C1, O1⟩
theorem qz66 (B b : Nat) (a : Option Addr) (len cap : Nat) (i h : Int) (g : Hd) (w : World) (hB : B <= b) (hlen : len <= 4096) (D : qz20 .i64 w b a len cap i h) (C : qz1p B w a len) :
  Calls Tryz.prog 127 #[.pointer (some ⟨b, 0, none⟩), .agg (hdC g).toArray] w fun e w' => ∃ c q v i' h', e = .returned (.tuple #[.int .i64 c, .int .i64 q, .int .i64 v]) /\ qz20 .i64 w' b a len cap i' h' /\ qz1p B w' a len /\ Only b w w' := by
 show Calls Tryz.prog 127 #[.pointer (some ⟨b, 0, none⟩), .agg #[.int .i64 g.at_, .int .i64 g.then_, .int .i64 g.code, .int .i64 g.key, .int .i64 g.value, .int .i64 g.begin, .int .i64 g.reply, .int .i64 g.out, .int .i64 g.sum, .int .i64 g.held, .int .i64 g.x_, .int .i64 g.ver, .int .i64 g.cam, .int .i64 g.camAt, .int .i64 g.pred, .int .i64 g.predVer, .int .i64 g.curr, .int .i64 g.currVer, .int .i64 g.new_, .int .i64 g.least, .int .i64 g.index, .int .i64 g.round]] w fun e w' => ∃ c q v i' h', e = .returned (.tuple #[.int .i64 c, .int .i64 q, .int .i64 v]) /\ qz20 .i64 w' b a len cap i' h' /\ qz1p B w' a len /\ Only b w w'
 have blk := D.blk
 have R0 := qz6 w (hdC g) 53
 have hz0 : (w.alloc Q6s).heap.size = Q7b + 1 := by simp
 have D0 := D.alloc Q6s
 have C0 := C.alloc (by omega) Q6s
 have O0 := (Only.refl b w).alloc Q6s
 go_enter Tryz.func127, Tryz.ntmps127
 go_wp2_with fail
 change Calls Tryz.prog _ _ (w.alloc Q6s) _
 generalize hw0 : w.alloc Q6s = w0 at *
 clear hw0
 refine (qz3r B b a len cap i h 1 8 w0 hB hlen D0 C0 (by omega) (by omega) (by omega)).mono ?_
 rintro e w1 ⟨r, i1, h1, rfl, r0, r1, D1, C1, O1⟩
 have hz1 := O1.size
 have R1 := (fun j v hv => (O1.cell (p := ⟨Q7b, 0 + j, none⟩) (by show Q7b < _; omega) (by show Q7b ≠ b; omega)).trans (R0 j v hv) : w1.rangeAt Q7b 0 (hdC g))
 have x9 : w1.cell? ⟨Q7b, 9, none⟩ = some (.int .i64 g.held) := by simpa using R1 9 (.int .i64 g.held) rfl
 have OO := O0.trans O1
 clear R0 R1 D0 C0 O0 O1 D C
 have fin : ∀ (code : Int) (wq : World) (iq hq : Int), qz20 .i64 wq b a len cap iq hq -> qz1p B wq a len -> Only b w wq -> True := fun _ _ _ _ _ _ _ => trivial
 clear fin
 by_cases hh : g.held < 0
 ·go_wp2_with fail
  refine (qz4u B b a len cap i1 h1 5 _ hB hlen D1 C1 (by omega) (by omega)).mono ?_
  rintro e w2 ⟨r5, i2, h2, rfl, D2, C2, O2⟩
  have OO2 := OO.trans O2
  clear x9 OO O2 D1 C1
  have blk2 := D2.blk
  cases r5
  ·go_wp2_with fail
   refine (qz13 B b a len cap i2 h2 6 _ hB hlen (D2.alloc _) (C2.alloc (by omega) _) (by omega) (by omega)).mono ?_
   rintro e w3 ⟨r3, i3, h3, rfl, r30, r31, D3, C3, O3⟩
   have I1 := (qz5w w2 [1, 1, 2, 3, 4, 8] _ 2 rfl).only O3 (by omega)
   obtain ⟨rN, rfl⟩ := Int.eq_ofNat_of_zero_le r30
   obtain ⟨cv, hv⟩ : ∃ v, w3.cell? ⟨Q7x, rN, none⟩ = some (.int .i64 v) := ⟨_, I1.2 rN (by simp; omega)⟩
   clear I1
   have r32 : (rN : Int) < 6 := r31
   have OO3 := (OO2.alloc (.cells #[.int .i64 1, .int .i64 1, .int .i64 2, .int .i64 3, .int .i64 4, .int .i64 8] 2)).trans O3
   clear OO2 O3 D2 C2
   go_wp2_with fail
   refine (qz13 B b a len cap i3 h3 6 _ hB hlen D3 C3 (by omega) (by omega)).mono ?_
   rintro e w3k ⟨kr, ik, hk, rfl, k0, k1, Dk, Ck, Ok⟩
   have OK := OO3.trans Ok
   by_cases cc1 : cv = 1
   ·rw [cc1]
    go_wp2_with fail
    refine (qz13 B b a len cap ik hk 20 _ hB hlen Dk Ck (by omega) (by omega)).mono ?_
    rintro e w3v ⟨vr, iv, hv, rfl, v0, v1, Dv, Cv, Ov⟩
    go_wp2
    go_ret3
    exact ⟨_, _, _, iv, hv, rfl, Dv, Cv, OK.trans Ov⟩
   by_cases cc7 : cv = 7
   ·rw [cc7]
    go_wp2_with fail
    refine (qz13 B b a len cap ik hk 64 _ hB hlen Dk Ck (by omega) (by omega)).mono ?_
    rintro e w3v ⟨vr, iv, hv, rfl, v0, v1, Dv, Cv, Ov⟩
    go_wp2
    go_ret3
    exact ⟨_, _, _, iv, hv, rfl, Dv, Cv, OK.trans Ov⟩
   by_cases cc2 : cv = 2
   ·rw [cc2]
    go_wp2
    go_ret3
    exact ⟨_, _, _, ik, hk, rfl, Dk, Ck, OK⟩
   by_cases cc3 : cv = 3
   ·rw [cc3]
    go_wp2
    go_ret3
    exact ⟨_, _, _, ik, hk, rfl, Dk, Ck, OK⟩
   by_cases cc6 : cv = 6
   ·rw [cc6]
    go_wp2
    go_ret3
    exact ⟨_, _, _, ik, hk, rfl, Dk, Ck, OK⟩
   have bb1 : (cv == 1) = false := by simp [cc1]
   have bb7 : (cv == 7) = false := by simp [cc7]
   have bb2 : (cv == 2) = false := by simp [cc2]
   have bb3 : (cv == 3) = false := by simp [cc3]
   have bb6 : (cv == 6) = false := by simp [cc6]
   go_wp2
   go_ret3
   exact ⟨_, _, _, ik, hk, rfl, Dk, Ck, OK⟩
  ·skip
   go_wp2_with fail
   refine (qz13 B b a len cap i2 h2 6 _ hB hlen D2 C2 (by omega) (by omega)).mono ?_
   rintro e w2k ⟨kr, ik, hk, rfl, k0, k1, Dk, Ck, Ok⟩
   have OK := OO2.trans Ok
   by_cases cc1 : r = 1
   ·rw [cc1]
    go_wp2_with fail
    refine (qz13 B b a len cap ik hk 20 _ hB hlen Dk Ck (by omega) (by omega)).mono ?_
    rintro e w2v ⟨vr, iv, hv, rfl, v0, v1, Dv, Cv, Ov⟩
    go_wp2
    go_ret3
    exact ⟨_, _, _, iv, hv, rfl, Dv, Cv, OK.trans Ov⟩
   by_cases cc7 : r = 7
   ·rw [cc7]
    go_wp2_with fail
    refine (qz13 B b a len cap ik hk 64 _ hB hlen Dk Ck (by omega) (by omega)).mono ?_
    rintro e w2v ⟨vr, iv, hv, rfl, v0, v1, Dv, Cv, Ov⟩
    go_wp2
    go_ret3
    exact ⟨_, _, _, iv, hv, rfl, Dv, Cv, OK.trans Ov⟩
   by_cases cc2 : r = 2
   ·rw [cc2]
    go_wp2
    go_ret3
    exact ⟨_, _, _, ik, hk, rfl, Dk, Ck, OK⟩
   by_cases cc3 : r = 3
   ·rw [cc3]
    go_wp2
    go_ret3
    exact ⟨_, _, _, ik, hk, rfl, Dk, Ck, OK⟩
   by_cases cc6 : r = 6
   ·rw [cc6]
    go_wp2
    go_ret3
    exact ⟨_, _, _, ik, hk, rfl, Dk, Ck, OK⟩
   have bb1 : (r == 1) = false := by simp [cc1]
   have bb7 : (r == 7) = false := by simp [cc7]
   have bb2 : (r == 2) = false := by simp [cc2]
   have bb3 : (r == 3) = false := by simp [cc3]
   have bb6 : (r == 6) = false := by simp [cc6]
   go_wp2
   go_ret3
   exact ⟨_, _, _, ik, hk, rfl, Dk, Ck, OK⟩
 go_wp2_with fail
 refine (qz13 B b a len cap i1 h1 6 _ hB hlen D1 C1 (by omega) (by omega)).mono ?_
 rintro e w1k ⟨kr, ik, hk, rfl, k0, k1, Dk, Ck, Ok⟩
 have OK := OO.trans Ok
 by_cases cc1 : r = 1
 ·rw [cc1]
  go_wp2_with fail
  refine (qz13 B b a len cap ik hk 20 _ hB hlen Dk Ck (by omega) (by omega)).mono ?_
  rintro e w1v ⟨vr, iv, hv, rfl, v0, v1, Dv, Cv, Ov⟩
  go_wp2
  go_ret3
  exact ⟨_, _, _, iv, hv, rfl, Dv, Cv, OK.trans Ov⟩
 by_cases cc7 : r = 7
 ·rw [cc7]
  go_wp2_with fail
  refine (qz13 B b a len cap ik hk 64 _ hB hlen Dk Ck (by omega) (by omega)).mono ?_
  rintro e w1v ⟨vr, iv, hv, rfl, v0, v1, Dv, Cv, Ov⟩
  go_wp2
  go_ret3
  exact ⟨_, _, _, iv, hv, rfl, Dv, Cv, OK.trans Ov⟩
 by_cases cc2 : r = 2
 ·rw [cc2]
  go_wp2
  go_ret3
  exact ⟨_, _, _, ik, hk, rfl, Dk, Ck, OK⟩
 by_cases cc3 : r = 3
 ·rw [cc3]
  go_wp2
  go_ret3
  exact ⟨_, _, _, ik, hk, rfl, Dk, Ck, OK⟩
 by_cases cc6 : r = 6
 ·rw [cc6]
  go_wp2
  go_ret3
  exact ⟨_, _, _, ik, hk, rfl, Dk, Ck, OK⟩
 have bb1 : (r == 1) = false := by simp [cc1]
 have bb7 : (r == 7) = false := by simp [cc7]
 have bb2 : (r == 2) = false := by simp [cc2]
 have bb3 : (r == 3) = false := by simp [cc3]
 have bb6 : (r == 6) = false := by simp [cc6]
 go_wp2
 go_ret3
 exact ⟨_, _, _, ik, hk, rfl, Dk, Ck, OK⟩
end
section
attribute [local go_sem ↓] Go.wp_at_zero Go.wp_at_succ
theorem qz7p {b c : Nat} {x w w' : World} (h : Only b x w) (k : Only c w w') (hc : x.heap.size <= c) : Only b x w' :=
 ⟨k.os.trans h.os, k.tape.trans h.tape, k.output.trans h.output, Q7u h.size k.size, fun q hq hn => (k.block q (Q7o hq h.size) (by omega)).trans (h.block q hq hn)⟩
theorem qz4j {B c : Nat} {w w' : World} {v : Value} {n : Nat} {cs : List Value} (S : qzq B w v n cs) (hO : Only c w w') (hB : B <= Q7b) (hne : ∀ q, qz32 v = some q -> q ≠ c) : qzq B w' v n cs := by
 obtain ⟨a', cap', rfl, h⟩ := S
 refine ⟨a', cap', rfl, ?_⟩
 rcases h with h | ⟨bb, off, rfl, lt, R⟩
 ·exact Or.inl h
 ·exact Or.inr ⟨bb, off, rfl, lt, qz24 R hO (by omega) (hne bb rfl)⟩
def qzgg (s g n r hs cs ds ts : Value) (q : Nat) : Prop := qz32 s = some q ∨ qz32 g = some q ∨ qz32 n = some q ∨ qz32 r = some q ∨ qz32 hs = some q ∨ qz32 cs = some q ∨ qz32 ds = some q ∨ qz32 ts = some q
theorem WdIs.far {B c : Nat} {w w' : World} {s g n r hs cs ds ts : Value} {W : Wd} (I : WdIs B w s g n r hs cs ds ts W) (hO : Only c w w') (hB : B <= Q7b) (hne : ∀ q, qzgg s g n r hs cs ds ts q -> q ≠ c) : WdIs B w' s g n r hs cs ds ts W :=
 ⟨⟨qz4j I.ar.s hO hB (fun q e => hne q (Or.inl e)), qz4j I.ar.g hO hB (fun q e => hne q (Or.inr (Or.inl e))), qz4j I.ar.n hO hB (fun q e => hne q (Or.inr (Or.inr (Or.inl e)))), qz4j I.ar.r hO hB (fun q e => hne q (Or.inr (Or.inr (Or.inr (Or.inl e)))))⟩,
  qz4j I.h hO hB (fun q e => hne q (Or.inr (Or.inr (Or.inr (Or.inr (Or.inl e)))))), qz4j I.c hO hB (fun q e => hne q (Or.inr (Or.inr (Or.inr (Or.inr (Or.inr (Or.inl e))))))), qz4j I.d hO hB (fun q e => hne q (Or.inr (Or.inr (Or.inr (Or.inr (Or.inr (Or.inr (Or.inl e)))))))), qz4j I.t hO hB (fun q e => hne q (Or.inr (Or.inr (Or.inr (Or.inr (Or.inr (Or.inr (Or.inr e))))))))⟩
theorem WdIs.weaken {B B' : Nat} {w : World} {s g n r hs cs ds ts : Value} {W : Wd} (I : WdIs B w s g n r hs cs ds ts W) (hB : B <= B') : WdIs B' w s g n r hs cs ds ts W :=
 ⟨I.ar.weaken hB, I.h.weaken hB, I.c.weaken hB, I.d.weaken hB, I.t.weaken hB⟩
theorem qz83.blk {base : Nat} {w : World} {s g n r hs cs ds ts : Value} {W : Wd} (O : qz83 base w s g n r hs cs ds ts W) (q : Nat) (h : qzgg s g n r hs cs ds ts q) : base <= q /\ q < Q7b := by
 rcases h with e | e | e | e | e | e | e | e
 ·rw [qz4i O.ar.rs] at e; exact ⟨qz1n O.ar.rs e, qz2t O.ar.rs e⟩
 ·rw [qz4i O.ar.rg] at e; exact ⟨qz1n O.ar.rg e, qz2t O.ar.rg e⟩
 ·rw [qz4i O.ar.rn] at e; exact ⟨qz1n O.ar.rn e, qz2t O.ar.rn e⟩
 ·rw [qz4i O.ar.rr] at e; exact ⟨qz1n O.ar.rr e, qz2t O.ar.rr e⟩
 ·rw [qz4i O.h] at e; exact ⟨qz1n O.h e, qz2t O.h e⟩
 ·rw [qz4i O.c] at e; exact ⟨qz1n O.c e, qz2t O.c e⟩
 ·rw [qz4i O.d] at e; exact ⟨qz1n O.d e, qz2t O.d e⟩
 ·rw [qz4i O.t] at e; exact ⟨qz1n O.t e, qz2t O.t e⟩
structure Play (B b b2 b3 : Nat) (w wr : World) (a : Option Addr) (len cap : Nat) (x y z u : Int) (s g n r hs cs ds ts : Value) (W : Wd) : Prop where
 dice : ∃ i h, qz20 .i64 wr b a len cap i h
 bytes : qz1p B wr a len
 row : wr.rangeAt b3 0 Q3g
 th : wr.there b3 0 14
 rm : wr.there b2 0 14
 is : WdIs wr.heap.size wr s g n r hs cs ds ts W
 far : ∀ q, qzgg s g n r hs cs ds ts q -> Q7b <= q /\ q ≠ b2 /\ q ≠ b3
 only : Only b w wr
 lo : Q7b <= b2
 lt : b2 < b3
 hi : b3 < wr.heap.size
section
variable {B b b2 b3 : Nat} {w wr w' : World} {a : Option Addr} {len cap : Nat} {x y z u : Int} {s g n r hs cs ds ts : Value} {W : Wd}
theorem Play.draw (P : Play B b b2 b3 w wr a len cap x y z u s g n r hs cs ds ts W) (hbw : b < Q7b) {i' h' : Int} (D' : qz20 .i64 w' b a len cap i' h') (C' : qz1p B w' a len) (O' : Only b wr w') : Play B b b2 b3 w w' a len cap x y z u s g n r hs cs ds ts W := by
 have h1 := P.lo
 have h2 := P.lt
 have h3 := P.hi
 exact ⟨⟨i', h', D'⟩, C', qz24 P.row O' h3 (by omega), qz15 P.th O' h3 (by omega), qz15 P.rm O' (by omega) (by omega), (P.is.far O' (Q7l _) (fun q e => by have := (P.far q e).1; omega)).weaken O'.size, P.far, P.only.trans O', h1, h2, Q7o h3 O'.size⟩
theorem Play.below (P : Play B b b2 b3 w wr a len cap x y z u s g n r hs cs ds ts W) (hB : B <= b) (hb : Below wr.heap.size wr w') : Play B b b2 b3 w w' a len cap x y z u s g n r hs cs ds ts W := by
 have h1 := P.lo
 have h2 := P.lt
 have h3 := P.hi
 obtain ⟨i, h, Dd⟩ := P.dice
 exact ⟨⟨i, h, Dd.below hb⟩, P.bytes.below (hb.mono (by have := Dd.blk; omega)), qz0 P.row hb h3, qz2 P.th hb h3, qz2 P.rm hb (by omega), (P.is.below hb).weaken hb.size, P.far, P.only.trans (Only.of_below hb), h1, h2, Q7o h3 hb.size⟩
theorem Play.store {s' g' n' r' hs' cs' ds' ts' : Value} {W' : Wd} (P : Play B b b2 b3 w wr a len cap x y z u s g n r hs cs ds ts W) (hB : B <= b) (hbw : b < Q7b) (hb : Below wr.heap.size wr w') (O : qz83 wr.heap.size w' s' g' n' r' hs' cs' ds' ts' W') :
  Play B b b2 b3 w (w'.setCells b3 0 Q5m) a len cap x y z u s' g' n' r' hs' cs' ds' ts' W' := by
 have Q := P.below hB hb
 have h1 := Q.lo
 have h2 := Q.lt
 have h3 := Q.hi
 have h4 := P.hi
 have hO := qzi b3 Q5m 0 w'
 obtain ⟨i, h, Dd⟩ := Q.dice
 have hz := hb.size
 have hw := P.only.size
 refine ⟨⟨i, h, Dd.only hO (by omega)⟩, Q.bytes.below (hO.below (by omega) (by have := Dd.blk; omega)), Q7c _ _ _ _ Q.th, Q81 Q.th _ _ _, Q81 Q.rm _ _ _, (O.only hO h4).is, fun q e => ?_, qz7p Q.only hO (by omega), h1, h2, by rw [qzn]; exact h3⟩
 have := O.blk q e
 omega
theorem Play.again (P : Play B b b2 b3 w wr a len cap x y z u s g n r hs cs ds ts W) (hB : B <= b) (hbw : b < Q7b) (hb : Below wr.heap.size wr w') :
  Play B b b2 b3 w (w'.setCells b3 0 Q3g) a len cap x y z u s g n r hs cs ds ts W := by
 have Q := P.below hB hb
 have h1 := Q.lo
 have h2 := Q.lt
 have h3 := Q.hi
 have hO := qzi b3 Q3g 0 w'
 obtain ⟨i, h, Dd⟩ := Q.dice
 exact ⟨⟨i, h, Dd.only hO (by omega)⟩, Q.bytes.below (hO.below (by omega) (by have := Dd.blk; omega)), Q7c _ _ _ _ Q.th, Q81 Q.th _ _ _, Q81 Q.rm _ _ _, (Q.is.far hO (Q7l _) (fun q e => (Q.far q e).2.2)).weaken hO.size, Q.far, qz7p Q.only hO (by omega), h1, h2, by rw [qzn]; exact h3⟩
theorem Play.slices (P : Play B b b2 b3 w wr a len cap x y z u s g n r hs cs ds ts W) : ∃ (a0 a1 a2 a3 a4 a5 a6 a7 : Option Addr) (c0 c1 c2 c3 c4 c5 c6 c7 : Nat), s = .slice a0 W.A.slots.length c0 /\ g = .slice a1 W.A.guides.length c1 /\ n = .slice a2 W.A.nodes.length c2 /\ r = .slice a3 W.A.vers.length c3 /\ hs = .slice a4 Q7s c4 /\ cs = .slice a5 Q7y c5 /\ ds = .slice a6 Q82 c6 /\ ts = .slice a7 Q7z c7 := by
 obtain ⟨a0, c0, e0, _⟩ := P.is.ar.s
 obtain ⟨a1, c1, e1, _⟩ := P.is.ar.g
 obtain ⟨a2, c2, e2, _⟩ := P.is.ar.n
 obtain ⟨a3, c3, e3, _⟩ := P.is.ar.r
 obtain ⟨a4, c4, e4, _⟩ := P.is.h
 obtain ⟨a5, c5, e5, _⟩ := P.is.c
 obtain ⟨a6, c6, e6, _⟩ := P.is.d
 obtain ⟨a7, c7, e7, _⟩ := P.is.t
 exact ⟨a0, a1, a2, a3, a4, a5, a6, a7, c0, c1, c2, c3, c4, c5, c6, c7, e0, e1, e2, e3, e4, e5, e6, e7⟩
theorem Play.cell (P : Play B b b2 b3 w wr a len cap x y z u s g n r hs cs ds ts W) (k : Nat) {v : Value} (hv : Q3g[k]? = some v) : wr.cell? ⟨b3, k, none⟩ = some v := by
 have := P.row k v hv
 rwa [Nat.zero_add] at this
end
end
section
attribute [local go_sem ↓] Go.wp_at_zero Go.wp_at_succ
theorem qz2y {B c : Nat} {w w' : World} {v : Value} {n : Nat} {cs : List Value} (S : qzq B w v n cs) (hO : Only c w w') (hB : B <= Q7b) (hne : ∀ q, 0 < n /\ qz32 v = some q -> q ≠ c) : qzq B w' v n cs := by
 obtain ⟨a', cap', rfl, h⟩ := S
 refine ⟨a', cap', rfl, ?_⟩
 rcases Nat.eq_zero_or_pos n with h0 | h0
 ·exact Or.inl h0
 ·rcases h with h | ⟨bb, off, rfl, lt, R⟩
  ·omega
  ·exact Or.inr ⟨bb, off, rfl, lt, qz24 R hO (by omega) (hne bb ⟨h0, rfl⟩)⟩
def qzda (W : Wd) (s g n r hs cs ds ts : Value) (q : Nat) : Prop := (0 < W.A.slots.length /\ qz32 s = some q) ∨ (0 < W.A.guides.length /\ qz32 g = some q) ∨ (0 < W.A.nodes.length /\ qz32 n = some q) ∨ (0 < W.A.vers.length /\ qz32 r = some q) ∨ (0 < Q7s /\ qz32 hs = some q) ∨ (0 < Q7y /\ qz32 cs = some q) ∨ (0 < Q82 /\ qz32 ds = some q) ∨ (0 < Q7z /\ qz32 ts = some q)
theorem qzda.all {W : Wd} {s g n r hs cs ds ts : Value} {q : Nat} (h : qzda W s g n r hs cs ds ts q) : qzgg s g n r hs cs ds ts q := by
 rcases h with h | h | h | h | h | h | h | h
 ·exact Or.inl h.2
 ·exact Or.inr (Or.inl h.2)
 ·exact Or.inr (Or.inr (Or.inl h.2))
 ·exact Or.inr (Or.inr (Or.inr (Or.inl h.2)))
 ·exact Or.inr (Or.inr (Or.inr (Or.inr (Or.inl h.2))))
 ·exact Or.inr (Or.inr (Or.inr (Or.inr (Or.inr (Or.inl h.2)))))
 ·exact Or.inr (Or.inr (Or.inr (Or.inr (Or.inr (Or.inr (Or.inl h.2))))))
 ·exact Or.inr (Or.inr (Or.inr (Or.inr (Or.inr (Or.inr (Or.inr (h.2)))))))
theorem qz46 {B : Nat} {w : World} {v : Value} {n : Nat} {cs : List Value} {q : Nat} (S : qzq B w v n cs) (h : 0 < n /\ qz32 v = some q) : q < B := by
 obtain ⟨a', cap', rfl, hh⟩ := S
 rcases hh with hh | ⟨bb, off, rfl, lt, R⟩
 ·omega
 ·have := h.2
  simp [qz32] at this
  omega
theorem WdIs.lt {B : Nat} {w : World} {s g n r hs cs ds ts : Value} {W : Wd} (I : WdIs B w s g n r hs cs ds ts W) {q : Nat} (h : qzda W s g n r hs cs ds ts q) : q < B := by
 rcases h with h | h | h | h | h | h | h | h
 ·exact qz46 I.ar.s h
 ·exact qz46 I.ar.g h
 ·exact qz46 I.ar.n h
 ·exact qz46 I.ar.r h
 ·exact qz46 I.h h
 ·exact qz46 I.c h
 ·exact qz46 I.d h
 ·exact qz46 I.t h
theorem WdIs.farN {B c : Nat} {w w' : World} {s g n r hs cs ds ts : Value} {W : Wd} (I : WdIs B w s g n r hs cs ds ts W) (hO : Only c w w') (hB : B <= Q7b) (hne : ∀ q, qzda W s g n r hs cs ds ts q -> q ≠ c) : WdIs B w' s g n r hs cs ds ts W :=
 ⟨⟨qz2y I.ar.s hO hB (fun q e => hne q (Or.inl e)), qz2y I.ar.g hO hB (fun q e => hne q (Or.inr (Or.inl e))), qz2y I.ar.n hO hB (fun q e => hne q (Or.inr (Or.inr (Or.inl e)))), qz2y I.ar.r hO hB (fun q e => hne q (Or.inr (Or.inr (Or.inr (Or.inl e)))))⟩,
  qz2y I.h hO hB (fun q e => hne q (Or.inr (Or.inr (Or.inr (Or.inr (Or.inl e)))))), qz2y I.c hO hB (fun q e => hne q (Or.inr (Or.inr (Or.inr (Or.inr (Or.inr (Or.inl e))))))), qz2y I.d hO hB (fun q e => hne q (Or.inr (Or.inr (Or.inr (Or.inr (Or.inr (Or.inr (Or.inl e)))))))), qz2y I.t hO hB (fun q e => hne q (Or.inr (Or.inr (Or.inr (Or.inr (Or.inr (Or.inr (Or.inr (e)))))))))⟩
structure qzag (B b b3 : Nat) (w wr : World) (a : Option Addr) (len cap : Nat) (x y z u : Int) (s g n r hs cs ds ts : Value) (W : Wd) : Prop where
 dice : ∃ i h, qz20 .i64 wr b a len cap i h
 bytes : qz1p B wr a len
 row : wr.rangeAt b3 0 Q3g
 th : wr.there b3 0 14
 is : WdIs wr.heap.size wr s g n r hs cs ds ts W
 far : ∀ q, qzda W s g n r hs cs ds ts q -> Q7b <= q /\ q ≠ b3
 only : Only b w wr
 lo : Q7b <= b3
 hi : b3 < wr.heap.size
section
variable {B b b3 : Nat} {w wr w' : World} {a : Option Addr} {len cap : Nat} {x y z u : Int} {s g n r hs cs ds ts : Value} {W : Wd}
theorem qzag.draw (P : qzag B b b3 w wr a len cap x y z u s g n r hs cs ds ts W) (hbw : b < Q7b) {i' h' : Int} (D' : qz20 .i64 w' b a len cap i' h') (C' : qz1p B w' a len) (O' : Only b wr w') : qzag B b b3 w w' a len cap x y z u s g n r hs cs ds ts W := by
 have h1 := P.lo
 have h3 := P.hi
 exact ⟨⟨i', h', D'⟩, C', qz24 P.row O' h3 (by omega), qz15 P.th O' h3 (by omega), (P.is.farN O' (Q7l _) (fun q e => by have := (P.far q e).1; omega)).weaken O'.size, P.far, P.only.trans O', h1, Q7o h3 O'.size⟩
theorem qzag.below (P : qzag B b b3 w wr a len cap x y z u s g n r hs cs ds ts W) (hB : B <= b) (hb : Below wr.heap.size wr w') : qzag B b b3 w w' a len cap x y z u s g n r hs cs ds ts W := by
 have h1 := P.lo
 have h3 := P.hi
 obtain ⟨i, h, Dd⟩ := P.dice
 exact ⟨⟨i, h, Dd.below hb⟩, P.bytes.below (hb.mono (by have := Dd.blk; omega)), qz0 P.row hb h3, qz2 P.th hb h3, (P.is.below hb).weaken hb.size, P.far, P.only.trans (Only.of_below hb), h1, Q7o h3 hb.size⟩
theorem qzag.store {s' g' n' r' hs' cs' ds' ts' : Value} {W' : Wd} (P : qzag B b b3 w wr a len cap x y z u s g n r hs cs ds ts W) (hB : B <= b) (hbw : b < Q7b) (hb : Below wr.heap.size wr w') (O : qz83 wr.heap.size w' s' g' n' r' hs' cs' ds' ts' W') :
  qzag B b b3 w (w'.setCells b3 0 Q5m) a len cap x y z u s' g' n' r' hs' cs' ds' ts' W' := by
 have Q := P.below hB hb
 have h1 := Q.lo
 have h3 := Q.hi
 have h4 := P.hi
 have hO := qzi b3 Q5m 0 w'
 obtain ⟨i, h, Dd⟩ := Q.dice
 have hz := hb.size
 have hw := P.only.size
 refine ⟨⟨i, h, Dd.only hO (by omega)⟩, Q.bytes.below (hO.below (by omega) (by have := Dd.blk; omega)), Q7c _ _ _ _ Q.th, Q81 Q.th _ _ _, (O.only hO h4).is, fun q e => ?_, qz7p Q.only hO (by omega), h1, by rw [qzn]; exact h3⟩
 have := O.blk q e.all
 omega
theorem qzag.slices (P : qzag B b b3 w wr a len cap x y z u s g n r hs cs ds ts W) : ∃ (a0 a1 a2 a3 a4 a5 a6 a7 : Option Addr) (c0 c1 c2 c3 c4 c5 c6 c7 : Nat), s = .slice a0 W.A.slots.length c0 /\ g = .slice a1 W.A.guides.length c1 /\ n = .slice a2 W.A.nodes.length c2 /\ r = .slice a3 W.A.vers.length c3 /\ hs = .slice a4 Q7s c4 /\ cs = .slice a5 Q7y c5 /\ ds = .slice a6 Q82 c6 /\ ts = .slice a7 Q7z c7 := by
 obtain ⟨a0, c0, e0, _⟩ := P.is.ar.s
 obtain ⟨a1, c1, e1, _⟩ := P.is.ar.g
 obtain ⟨a2, c2, e2, _⟩ := P.is.ar.n
 obtain ⟨a3, c3, e3, _⟩ := P.is.ar.r
 obtain ⟨a4, c4, e4, _⟩ := P.is.h
 obtain ⟨a5, c5, e5, _⟩ := P.is.c
 obtain ⟨a6, c6, e6, _⟩ := P.is.d
 obtain ⟨a7, c7, e7, _⟩ := P.is.t
 exact ⟨a0, a1, a2, a3, a4, a5, a6, a7, c0, c1, c2, c3, c4, c5, c6, c7, e0, e1, e2, e3, e4, e5, e6, e7⟩
theorem qzag.cell (P : qzag B b b3 w wr a len cap x y z u s g n r hs cs ds ts W) (k : Nat) {v : Value} (hv : Q3g[k]? = some v) : wr.cell? ⟨b3, k, none⟩ = some v := by
 have := P.row k v hv
 rwa [Nat.zero_add] at this
end
end
section
attribute [local go_sem ↓] Go.wp_at_zero Go.wp_at_succ
theorem qz5t (B : Nat) (x y z u : Int) (W : Wd) (a0 a1 a2 a3 a4 a5 a6 a7 : Option Addr) (c0 c1 c2 c3 c4 c5 c6 c7 : Nat) (k : Nat) (h : Hd) (w : World) (hB : B <= Q7b) (hW : W.size <= 1000000) (I : WdIs B w Q4b Q46 Q4a Q4h Q55 Q5h Q5g Q5f W) (hk : k < Q7s) (hkh : W.hands[k] = h) (h0 : h.at_ = 0) :
  Calls Tryz.prog 121 #[.agg Q08, .int .i64 (k : Int)] w fun e w' => e = .returned (.tuple #[.agg Q08, .bool false]) /\ Below Q7b w w' := by
 unfold Wd.size at hW
 obtain ⟨hb, ho, rfl, hbB, Rh⟩ : ∃ hb ho, a4 = some ⟨hb, ho, none⟩ /\ hb < B /\ w.rangeAt hb ho (qzf hdC W.hands) := by
  obtain ⟨a', cap', e4, h4⟩ := I.h
  cases e4
  rcases h4 with h4 | ⟨hb, ho, e, h5, h6⟩
  ·omega
  ·exact ⟨hb, ho, e, h5, h6⟩
 have X0 := Q7n (qz6 w Q0t 38) (.cells Q03 38)
 have F0 := qza (w.alloc (.cells Q04 38)) Q03 38 14 (by decide)
 have K0 := ((Q7g Q7b w).alloc (Q7l _) (.cells Q04 38)).alloc (by simp) (.cells Q03 38)
 have E0 := qz0 (qze (f := hdC) (sz := 22) (fun _ => rfl) Rh k hk) K0 (Q7o hbB hB)
 rw [hkh] at E0
 have FA := qza Q2m Q00 53 22 (by decide)
 have hset : ((Q2m).alloc (.cells Q00 53)).setCells (Q2m).heap.size 0 (hdC h).toArray.toList = (Q2m).alloc (.cells Q07 53) := qz10 Q2m 53 (hdC h) [] Q0l rfl
 have X1 := Q7n X0 (.cells Q07 53)
 have F1 := Q80 F0 (.cells Q07 53)
 have H1 : ((Q2m).alloc (.cells Q07 53)).rangeAt (Q2m).heap.size 0 (hdC h) := qz6 Q2m (hdC h) 53
 have hz1 : ((Q2m).alloc (.cells Q07 53)).heap.size = Q7b + 3 := by simp
 simp only [World.size_alloc] at F0 F1 H1 FA hset
 have K1 := K0.alloc (by simp; omega) (.cells Q07 53)
 obtain ⟨x0, x1, x2, x3, x4, x5, x6, x7, x8, x9, x10, x11, x12, x13⟩ := qzfl X0
 have hk1 : (k : Int) < (Q7s : Int) := by omega
 have hk0 : (0 : Int) <= (k : Int) := by omega
 clear Rh I X0 F0 K0
 go_enter Tryz.func121, Tryz.ntmps121
 go_upto_region 2 with (first | (refine wpList_load_mid rfl 53 (.tmp 13) rfl hb (ho + k * 22) rfl (hdC h) _ ?hc0 Tryz.underlying53 rfl (qz1 h) ?_) | (refine wpList_store_mid rfl 53 (.tmp 6) (.tmp 14) rfl (w.heap.size + 1 + 1) 0 _ rfl rfl FA (qz7 h) (qzd _) ?_; rw [hset]))
 case hc0 => exact E0
 clear FA hset E0 x0 x1 x2 x3 x4 x5 x6 x7 x8 x9 x10 x11 x12 x13
 generalize hw1 : ((Q2m).alloc (.cells Q07 53)) = w1 at *
 clear hw1
 have y0 : w1.cell? ⟨Q7b + 1 + 1, 0, none⟩ = some (.int .i64 0) := by rw [<- h0]; simpa using H1 0 (.int .i64 h.at_) rfl
 go_wp2_with (first | (refine wpList_load_mid rfl 38 (.tmp 2) rfl w.heap.size 0 rfl Q0t _ ?lf Tryz.underlying38 rfl qzj ?_) | (refine wpList_store_mid rfl 38 (.tmp 4) (.tmp 23) rfl (w.heap.size + 1) 0 Q04 ?fx ?fy ?ft qzj (by simp [Value.oneCell']) ?_))
 try (case lf => exact X1)
 try (case fx => rfl)
 try (case fy => rfl)
 try (case ft => exact F1)
 refine bodyPost_ret (v := .tuple #[.agg Q04, .bool false]) ?_ rfl ⟨rfl, ?_⟩
 ·exact qzk Tryz.results121 _ _ (Q7b + 1) 0 rfl Q0t _ (Q7c _ _ _ _ F1) Q83 rfl qzj
 ·exact Below.setCells (by omega) _ _ _ K1
end
end Go.Proofs.YthjkdnlmopafkaaGreat
