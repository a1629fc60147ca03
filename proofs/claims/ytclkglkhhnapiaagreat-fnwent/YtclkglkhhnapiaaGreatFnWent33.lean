/-
  What the law's proof goes by, part 34.
-/
import Derived.Test.YtclkglkhhnapiaaGreatFnWent00
import Derived.Test.YtclkglkhhnapiaaGreatFnWent01
import Derived.Test.YtclkglkhhnapiaaGreatFnWent05
import Derived.Test.YtclkglkhhnapiaaGreatFnWent30
import Derived.Test.YtclkglkhhnapiaaGreatFnWent32
namespace Go.Proofs.YtclkglkhhnapiaaGreat
open Go.ChangeShapes Go.WideShapes Go.ChangeAt Go.RowKit
set_option maxRecDepth 100000
set_option maxHeartbeats 16000000
set_option linter.unusedVariables false
set_option linter.unusedSimpArgs false
set_option linter.unnecessarySimpa false
set_option linter.unusedSectionVars false
section
theorem qz3k (B b : Nat) (a : Option Addr) (len cap : Nat) (i h : Int) (lo hi : Int) (w : World) (hB : B <= b) (hlen : len <= 4096) (D : qz1s .i64 w b a len cap i h) (C : qz1h B w a len) (h1 : lo <= hi) (h2 : -100000 <= lo) (h3 : hi <= 100000) :
  Calls Tryz.prog 40 #[.pointer (some ⟨b, 0, none⟩), .int .i64 lo, .int .i64 hi] w fun e w' => ∃ r i' h', e = .returned (.int .i64 r) /\ lo <= r /\ r <= hi /\ qz1s .i64 w' b a len cap i' h' /\ qz1h B w' a len /\ Only b w w' := by
 go_enter Tryz.func40, Tryz.ntmps40
 go_wp2_with fail
 refine (qz10 B b a len cap i h (hi - lo + 1) _ hB hlen D C (by omega) (by omega)).mono ?_
 rintro e w1 ⟨r, i1, h1', rfl, r0, r1, D1, C1, O1⟩
 go_wp2
 go_ret
 exact ⟨lo + r, i1, h1', rfl, by omega, by omega, D1, C1, O1⟩
theorem qz5q (B b : Nat) (a : Option Addr) (len cap : Nat) (i h : Int) (g : Hd) (w : World) (hB : B <= b) (hlen : len <= 4096) (D : qz1s .i64 w b a len cap i h) (C : qz1h B w a len) :
  Calls Tryz.prog 128 #[.pointer (some ⟨b, 0, none⟩), .agg (hdC g).toArray] w fun e w' => ∃ c q v i' h', e = .returned (.tuple #[.int .i64 c, .int .i64 q, .int .i64 v]) /\ qz1s .i64 w' b a len cap i' h' /\ qz1h B w' a len /\ Only b w w' := by
 show Calls Tryz.prog 128 #[.pointer (some ⟨b, 0, none⟩), .agg #[.int .i64 g.at_, .int .i64 g.then_, .int .i64 g.code, .int .i64 g.key, .int .i64 g.value, .int .i64 g.begin, .int .i64 g.reply, .int .i64 g.out, .int .i64 g.sum, .int .i64 g.held, .int .i64 g.x_, .int .i64 g.ver, .int .i64 g.cam, .int .i64 g.camAt, .int .i64 g.pred, .int .i64 g.predVer, .int .i64 g.curr, .int .i64 g.currVer, .int .i64 g.new_, .int .i64 g.least, .int .i64 g.index, .int .i64 g.round]] w fun e w' => ∃ c q v i' h', e = .returned (.tuple #[.int .i64 c, .int .i64 q, .int .i64 v]) /\ qz1s .i64 w' b a len cap i' h' /\ qz1h B w' a len /\ Only b w w'
 have blk := D.blk
 have R0 := qz6 w (hdC g) 32
 have hz0 : (w.alloc (.cells (hdC g).toArray 32)).heap.size = w.heap.size + 1 := by simp
 have D0 := D.alloc (.cells (hdC g).toArray 32)
 have C0 := C.alloc (by omega) (.cells (hdC g).toArray 32)
 have O0 := (Only.refl b w).alloc (.cells (hdC g).toArray 32)
 go_enter Tryz.func128, Tryz.ntmps128
 go_wp2_with fail
 change Calls Tryz.prog _ _ (w.alloc (.cells (hdC g).toArray 32)) _
 generalize hw0 : w.alloc (.cells (hdC g).toArray 32) = w0 at *
 clear hw0
 refine (qz3k B b a len cap i h 1 8 w0 hB hlen D0 C0 (by omega) (by omega) (by omega)).mono ?_
 rintro e w1 ⟨r, i1, h1, rfl, r0, r1, D1, C1, O1⟩
 have hz1 := O1.size
 have R1 := (fun j v hv => (O1.cell (p := ⟨w.heap.size, 0 + j, none⟩) (by show w.heap.size < _; omega) (by show w.heap.size ≠ b; omega)).trans (R0 j v hv) : w1.rangeAt w.heap.size 0 (hdC g))
 have x9 : w1.cell? ⟨w.heap.size, 9, none⟩ = some (.int .i64 g.held) := by simpa using R1 9 (.int .i64 g.held) rfl
 have OO := O0.trans O1
 clear R0 R1 D0 C0 O0 O1 D C
 have fin : ∀ (code : Int) (wq : World) (iq hq : Int), qz1s .i64 wq b a len cap iq hq -> qz1h B wq a len -> Only b w wq -> True := fun _ _ _ _ _ _ _ => trivial
 clear fin
 by_cases hh : g.held < 0
 ·go_wp2_with fail
  refine (qz4d B b a len cap i1 h1 5 _ hB hlen D1 C1 (by omega) (by omega)).mono ?_
  rintro e w2 ⟨r5, i2, h2, rfl, D2, C2, O2⟩
  have OO2 := OO.trans O2
  clear x9 OO O2 D1 C1
  have blk2 := D2.blk
  cases r5
  ·go_wp2_with fail
   refine (qz10 B b a len cap i2 h2 6 _ hB hlen (D2.alloc _) (C2.alloc (by omega) _) (by omega) (by omega)).mono ?_
   rintro e w3 ⟨r3, i3, h3, rfl, r30, r31, D3, C3, O3⟩
   have I1 := (qz5a w2 [1, 1, 2, 3, 4, 8] _ 2 rfl).only O3 (by omega)
   obtain ⟨rN, rfl⟩ := Int.eq_ofNat_of_zero_le r30
   obtain ⟨cv, hv⟩ : ∃ v, w3.cell? ⟨w2.heap.size, rN, none⟩ = some (.int .i64 v) := ⟨_, I1.2 rN (by simp; omega)⟩
   clear I1
   have r32 : (rN : Int) < 6 := r31
   have OO3 := (OO2.alloc (.cells #[.int .i64 1, .int .i64 1, .int .i64 2, .int .i64 3, .int .i64 4, .int .i64 8] 2)).trans O3
   clear OO2 O3 D2 C2
   go_wp2_with fail
   refine (qz10 B b a len cap i3 h3 6 _ hB hlen D3 C3 (by omega) (by omega)).mono ?_
   rintro e w3k ⟨kr, ik, hk, rfl, k0, k1, Dk, Ck, Ok⟩
   have OK := OO3.trans Ok
   by_cases cc1 : cv = 1
   ·rw [cc1]
    go_wp2_with fail
    refine (qz10 B b a len cap ik hk 20 _ hB hlen Dk Ck (by omega) (by omega)).mono ?_
    rintro e w3v ⟨vr, iv, hv, rfl, v0, v1, Dv, Cv, Ov⟩
    go_wp2
    go_ret3
    exact ⟨_, _, _, iv, hv, rfl, Dv, Cv, OK.trans Ov⟩
   by_cases cc7 : cv = 7
   ·rw [cc7]
    go_wp2_with fail
    refine (qz10 B b a len cap ik hk 64 _ hB hlen Dk Ck (by omega) (by omega)).mono ?_
    rintro e w3v ⟨vr, iv, hv, rfl, v0, v1, Dv, Cv, Ov⟩
    go_wp2
    go_ret3
    exact ⟨_, _, _, iv, hv, rfl, Dv, Cv, OK.trans Ov⟩
   by_cases cc2 : cv = 2
   ·rw [cc2]
    go_wp2
    go_ret3
    exact ⟨_, _, _, ik, hk, rfl, Dk, Ck, OK⟩
   by_cases cc3 : cv = 3
   ·rw [cc3]
    go_wp2
    go_ret3
    exact ⟨_, _, _, ik, hk, rfl, Dk, Ck, OK⟩
   by_cases cc6 : cv = 6
   ·rw [cc6]
    go_wp2
    go_ret3
    exact ⟨_, _, _, ik, hk, rfl, Dk, Ck, OK⟩
   have bb1 : (cv == 1) = false := by simp [cc1]
   have bb7 : (cv == 7) = false := by simp [cc7]
   have bb2 : (cv == 2) = false := by simp [cc2]
   have bb3 : (cv == 3) = false := by simp [cc3]
   have bb6 : (cv == 6) = false := by simp [cc6]
   go_wp2
   go_ret3
   exact ⟨_, _, _, ik, hk, rfl, Dk, Ck, OK⟩
  ·skip
   go_wp2_with fail
   refine (qz10 B b a len cap i2 h2 6 _ hB hlen D2 C2 (by omega) (by omega)).mono ?_
   rintro e w2k ⟨kr, ik, hk, rfl, k0, k1, Dk, Ck, Ok⟩
   have OK := OO2.trans Ok
   by_cases cc1 : r = 1
   ·rw [cc1]
    go_wp2_with fail
    refine (qz10 B b a len cap ik hk 20 _ hB hlen Dk Ck (by omega) (by omega)).mono ?_
    rintro e w2v ⟨vr, iv, hv, rfl, v0, v1, Dv, Cv, Ov⟩
    go_wp2
    go_ret3
    exact ⟨_, _, _, iv, hv, rfl, Dv, Cv, OK.trans Ov⟩
   by_cases cc7 : r = 7
   ·rw [cc7]
    go_wp2_with fail
    refine (qz10 B b a len cap ik hk 64 _ hB hlen Dk Ck (by omega) (by omega)).mono ?_
    rintro e w2v ⟨vr, iv, hv, rfl, v0, v1, Dv, Cv, Ov⟩
    go_wp2
    go_ret3
    exact ⟨_, _, _, iv, hv, rfl, Dv, Cv, OK.trans Ov⟩
   by_cases cc2 : r = 2
   ·rw [cc2]
    go_wp2
    go_ret3
    exact ⟨_, _, _, ik, hk, rfl, Dk, Ck, OK⟩
   by_cases cc3 : r = 3
   ·rw [cc3]
    go_wp2
    go_ret3
    exact ⟨_, _, _, ik, hk, rfl, Dk, Ck, OK⟩
   by_cases cc6 : r = 6
   ·rw [cc6]
    go_wp2
    go_ret3
    exact ⟨_, _, _, ik, hk, rfl, Dk, Ck, OK⟩
   have bb1 : (r == 1) = false := by simp [cc1]
   have bb7 : (r == 7) = false := by simp [cc7]
   have bb2 : (r == 2) = false := by simp [cc2]
   have bb3 : (r == 3) = false := by simp [cc3]
   have bb6 : (r == 6) = false := by simp [cc6]
   go_wp2
   go_ret3
   exact ⟨_, _, _, ik, hk, rfl, Dk, Ck, OK⟩
 go_wp2_with fail
 refine (qz10 B b a len cap i1 h1 6 _ hB hlen D1 C1 (by omega) (by omega)).mono ?_
 rintro e w1k ⟨kr, ik, hk, rfl, k0, k1, Dk, Ck, Ok⟩
 have OK := OO.trans Ok
 by_cases cc1 : r = 1
 ·rw [cc1]
  go_wp2_with fail
  refine (qz10 B b a len cap ik hk 20 _ hB hlen Dk Ck (by omega) (by omega)).mono ?_
  rintro e w1v ⟨vr, iv, hv, rfl, v0, v1, Dv, Cv, Ov⟩
  go_wp2
  go_ret3
  exact ⟨_, _, _, iv, hv, rfl, Dv, Cv, OK.trans Ov⟩
 by_cases cc7 : r = 7
 ·rw [cc7]
  go_wp2_with fail
  refine (qz10 B b a len cap ik hk 64 _ hB hlen Dk Ck (by omega) (by omega)).mono ?_
  rintro e w1v ⟨vr, iv, hv, rfl, v0, v1, Dv, Cv, Ov⟩
  go_wp2
  go_ret3
  exact ⟨_, _, _, iv, hv, rfl, Dv, Cv, OK.trans Ov⟩
 by_cases cc2 : r = 2
 ·rw [cc2]
  go_wp2
  go_ret3
  exact ⟨_, _, _, ik, hk, rfl, Dk, Ck, OK⟩
 by_cases cc3 : r = 3
 ·rw [cc3]
  go_wp2
  go_ret3
  exact ⟨_, _, _, ik, hk, rfl, Dk, Ck, OK⟩
 by_cases cc6 : r = 6
 ·rw [cc6]
  go_wp2
  go_ret3
  exact ⟨_, _, _, ik, hk, rfl, Dk, Ck, OK⟩
 have bb1 : (r == 1) = false := by simp [cc1]
 have bb7 : (r == 7) = false := by simp [cc7]
 have bb2 : (r == 2) = false := by simp [cc2]
 have bb3 : (r == 3) = false := by simp [cc3]
 have bb6 : (r == 6) = false := by simp [cc6]
 go_wp2
 go_ret3
 exact ⟨_, _, _, ik, hk, rfl, Dk, Ck, OK⟩
end
section
attribute [local go_sem ↓] Go.wp_at_zero Go.wp_at_succ
theorem qz6h {b c : Nat} {x w w' : World} (h : Only b x w) (k : Only c w w') (hc : x.heap.size <= c) : Only b x w' :=
 ⟨k.os.trans h.os, k.tape.trans h.tape, k.output.trans h.output, Nat.le_trans h.size k.size, fun q hq hn => (k.block q (Nat.lt_of_lt_of_le hq h.size) (by omega)).trans (h.block q hq hn)⟩
theorem qz44 {B c : Nat} {w w' : World} {v : Value} {n : Nat} {cs : List Value} (S : qzt B w v n cs) (hO : Only c w w') (hB : B <= w.heap.size) (hne : ∀ q, qz42 v = some q -> q ≠ c) : qzt B w' v n cs := by
 obtain ⟨a', cap', rfl, h⟩ := S
 refine ⟨a', cap', rfl, ?_⟩
 rcases h with h | ⟨bb, off, rfl, lt, R⟩
 ·exact Or.inl h
 ·exact Or.inr ⟨bb, off, rfl, lt, qz17 R hO (by omega) (hne bb rfl)⟩
def qzeu (s g n r hs cs ds ts : Value) (q : Nat) : Prop := qz42 s = some q ∨ qz42 g = some q ∨ qz42 n = some q ∨ qz42 r = some q ∨ qz42 hs = some q ∨ qz42 cs = some q ∨ qz42 ds = some q ∨ qz42 ts = some q
theorem WdIs.far {B c : Nat} {w w' : World} {s g n r hs cs ds ts : Value} {W : Wd} (I : WdIs B w s g n r hs cs ds ts W) (hO : Only c w w') (hB : B <= w.heap.size) (hne : ∀ q, qzeu s g n r hs cs ds ts q -> q ≠ c) : WdIs B w' s g n r hs cs ds ts W :=
 ⟨⟨qz44 I.ar.s hO hB (fun q e => hne q (Or.inl e)), qz44 I.ar.g hO hB (fun q e => hne q (Or.inr (Or.inl e))), qz44 I.ar.n hO hB (fun q e => hne q (Or.inr (Or.inr (Or.inl e)))), qz44 I.ar.r hO hB (fun q e => hne q (Or.inr (Or.inr (Or.inr (Or.inl e)))))⟩,
  qz44 I.h hO hB (fun q e => hne q (Or.inr (Or.inr (Or.inr (Or.inr (Or.inl e)))))), qz44 I.c hO hB (fun q e => hne q (Or.inr (Or.inr (Or.inr (Or.inr (Or.inr (Or.inl e))))))), qz44 I.d hO hB (fun q e => hne q (Or.inr (Or.inr (Or.inr (Or.inr (Or.inr (Or.inr (Or.inl e)))))))), qz44 I.t hO hB (fun q e => hne q (Or.inr (Or.inr (Or.inr (Or.inr (Or.inr (Or.inr (Or.inr e))))))))⟩
theorem WdIs.weaken {B B' : Nat} {w : World} {s g n r hs cs ds ts : Value} {W : Wd} (I : WdIs B w s g n r hs cs ds ts W) (hB : B <= B') : WdIs B' w s g n r hs cs ds ts W :=
 ⟨I.ar.weaken hB, I.h.weaken hB, I.c.weaken hB, I.d.weaken hB, I.t.weaken hB⟩
theorem qz77.blk {base : Nat} {w : World} {s g n r hs cs ds ts : Value} {W : Wd} (O : qz77 base w s g n r hs cs ds ts W) (q : Nat) (h : qzeu s g n r hs cs ds ts q) : base <= q /\ q < w.heap.size := by
 rcases h with e | e | e | e | e | e | e | e
 ·rw [qz48 O.ar.rs] at e; exact ⟨qz1l O.ar.rs e, qz2p O.ar.rs e⟩
 ·rw [qz48 O.ar.rg] at e; exact ⟨qz1l O.ar.rg e, qz2p O.ar.rg e⟩
 ·rw [qz48 O.ar.rn] at e; exact ⟨qz1l O.ar.rn e, qz2p O.ar.rn e⟩
 ·rw [qz48 O.ar.rr] at e; exact ⟨qz1l O.ar.rr e, qz2p O.ar.rr e⟩
 ·rw [qz48 O.h] at e; exact ⟨qz1l O.h e, qz2p O.h e⟩
 ·rw [qz48 O.c] at e; exact ⟨qz1l O.c e, qz2p O.c e⟩
 ·rw [qz48 O.d] at e; exact ⟨qz1l O.d e, qz2p O.d e⟩
 ·rw [qz48 O.t] at e; exact ⟨qz1l O.t e, qz2p O.t e⟩
structure Play (B b b2 b3 : Nat) (w wr : World) (a : Option Addr) (len cap : Nat) (x y z u : Int) (s g n r hs cs ds ts : Value) (W : Wd) : Prop where
 dice : ∃ i h, qz1s .i64 wr b a len cap i h
 bytes : qz1h B wr a len
 row : wr.rangeAt b3 0 (wdC x y z u W.A.camera s g n r hs cs ds ts W.now)
 th : wr.there b3 0 14
 rm : wr.there b2 0 14
 is : WdIs wr.heap.size wr s g n r hs cs ds ts W
 far : ∀ q, qzeu s g n r hs cs ds ts q -> w.heap.size <= q /\ q ≠ b2 /\ q ≠ b3
 only : Only b w wr
 lo : w.heap.size <= b2
 lt : b2 < b3
 hi : b3 < wr.heap.size
section
variable {B b b2 b3 : Nat} {w wr w' : World} {a : Option Addr} {len cap : Nat} {x y z u : Int} {s g n r hs cs ds ts : Value} {W : Wd}
theorem Play.draw (P : Play B b b2 b3 w wr a len cap x y z u s g n r hs cs ds ts W) (hbw : b < w.heap.size) {i' h' : Int} (D' : qz1s .i64 w' b a len cap i' h') (C' : qz1h B w' a len) (O' : Only b wr w') : Play B b b2 b3 w w' a len cap x y z u s g n r hs cs ds ts W := by
 have h1 := P.lo
 have h2 := P.lt
 have h3 := P.hi
 exact ⟨⟨i', h', D'⟩, C', qz17 P.row O' h3 (by omega), qzx P.th O' h3 (by omega), qzx P.rm O' (by omega) (by omega), (P.is.far O' (Nat.le_refl _) (fun q e => by have := (P.far q e).1; omega)).weaken O'.size, P.far, P.only.trans O', h1, h2, Nat.lt_of_lt_of_le h3 O'.size⟩
theorem Play.below (P : Play B b b2 b3 w wr a len cap x y z u s g n r hs cs ds ts W) (hB : B <= b) (hb : Below wr.heap.size wr w') : Play B b b2 b3 w w' a len cap x y z u s g n r hs cs ds ts W := by
 have h1 := P.lo
 have h2 := P.lt
 have h3 := P.hi
 obtain ⟨i, h, Dd⟩ := P.dice
 exact ⟨⟨i, h, Dd.below hb⟩, P.bytes.below (hb.mono (by have := Dd.blk; omega)), qz0 P.row hb h3, qz2 P.th hb h3, qz2 P.rm hb (by omega), (P.is.below hb).weaken hb.size, P.far, P.only.trans (Only.of_below hb), h1, h2, Nat.lt_of_lt_of_le h3 hb.size⟩
theorem Play.store {s' g' n' r' hs' cs' ds' ts' : Value} {W' : Wd} (P : Play B b b2 b3 w wr a len cap x y z u s g n r hs cs ds ts W) (hB : B <= b) (hbw : b < w.heap.size) (hb : Below wr.heap.size wr w') (O : qz77 wr.heap.size w' s' g' n' r' hs' cs' ds' ts' W') :
  Play B b b2 b3 w (w'.setCells b3 0 (wdC x y z u W'.A.camera s' g' n' r' hs' cs' ds' ts' W'.now)) a len cap x y z u s' g' n' r' hs' cs' ds' ts' W' := by
 have Q := P.below hB hb
 have h1 := Q.lo
 have h2 := Q.lt
 have h3 := Q.hi
 have h4 := P.hi
 have hO := qzj b3 (wdC x y z u W'.A.camera s' g' n' r' hs' cs' ds' ts' W'.now) 0 w'
 obtain ⟨i, h, Dd⟩ := Q.dice
 have hz := hb.size
 have hw := P.only.size
 refine ⟨⟨i, h, Dd.only hO (by omega)⟩, Q.bytes.below (hO.below (by omega) (by have := Dd.blk; omega)), World.rangeAt_setCells_same _ _ _ _ Q.th, World.there_setCells Q.th _ _ _, World.there_setCells Q.rm _ _ _, (O.only hO h4).is, fun q e => ?_, qz6h Q.only hO (by omega), h1, h2, by rw [qzl]; exact h3⟩
 have := O.blk q e
 omega
theorem Play.again (P : Play B b b2 b3 w wr a len cap x y z u s g n r hs cs ds ts W) (hB : B <= b) (hbw : b < w.heap.size) (hb : Below wr.heap.size wr w') :
  Play B b b2 b3 w (w'.setCells b3 0 (wdC x y z u W.A.camera s g n r hs cs ds ts W.now)) a len cap x y z u s g n r hs cs ds ts W := by
 have Q := P.below hB hb
 have h1 := Q.lo
 have h2 := Q.lt
 have h3 := Q.hi
 have hO := qzj b3 (wdC x y z u W.A.camera s g n r hs cs ds ts W.now) 0 w'
 obtain ⟨i, h, Dd⟩ := Q.dice
 exact ⟨⟨i, h, Dd.only hO (by omega)⟩, Q.bytes.below (hO.below (by omega) (by have := Dd.blk; omega)), World.rangeAt_setCells_same _ _ _ _ Q.th, World.there_setCells Q.th _ _ _, World.there_setCells Q.rm _ _ _, (Q.is.far hO (Nat.le_refl _) (fun q e => (Q.far q e).2.2)).weaken hO.size, Q.far, qz6h Q.only hO (by omega), h1, h2, by rw [qzl]; exact h3⟩
theorem Play.slices (P : Play B b b2 b3 w wr a len cap x y z u s g n r hs cs ds ts W) : ∃ (a0 a1 a2 a3 a4 a5 a6 a7 : Option Addr) (c0 c1 c2 c3 c4 c5 c6 c7 : Nat), s = .slice a0 W.A.slots.length c0 /\ g = .slice a1 W.A.guides.length c1 /\ n = .slice a2 W.A.nodes.length c2 /\ r = .slice a3 W.A.vers.length c3 /\ hs = .slice a4 W.hands.length c4 /\ cs = .slice a5 W.calls.length c5 /\ ds = .slice a6 W.deeds.length c6 /\ ts = .slice a7 W.ticks.length c7 := by
 obtain ⟨a0, c0, e0, _⟩ := P.is.ar.s
 obtain ⟨a1, c1, e1, _⟩ := P.is.ar.g
 obtain ⟨a2, c2, e2, _⟩ := P.is.ar.n
 obtain ⟨a3, c3, e3, _⟩ := P.is.ar.r
 obtain ⟨a4, c4, e4, _⟩ := P.is.h
 obtain ⟨a5, c5, e5, _⟩ := P.is.c
 obtain ⟨a6, c6, e6, _⟩ := P.is.d
 obtain ⟨a7, c7, e7, _⟩ := P.is.t
 exact ⟨a0, a1, a2, a3, a4, a5, a6, a7, c0, c1, c2, c3, c4, c5, c6, c7, e0, e1, e2, e3, e4, e5, e6, e7⟩
theorem Play.cell (P : Play B b b2 b3 w wr a len cap x y z u s g n r hs cs ds ts W) (k : Nat) {v : Value} (hv : (wdC x y z u W.A.camera s g n r hs cs ds ts W.now)[k]? = some v) : wr.cell? ⟨b3, k, none⟩ = some v := by
 have := P.row k v hv
 rwa [Nat.zero_add] at this
end
end
section
attribute [local go_sem ↓] Go.wp_at_zero Go.wp_at_succ
theorem qz2u {B c : Nat} {w w' : World} {v : Value} {n : Nat} {cs : List Value} (S : qzt B w v n cs) (hO : Only c w w') (hB : B <= w.heap.size) (hne : ∀ q, 0 < n /\ qz42 v = some q -> q ≠ c) : qzt B w' v n cs := by
 obtain ⟨a', cap', rfl, h⟩ := S
 refine ⟨a', cap', rfl, ?_⟩
 rcases Nat.eq_zero_or_pos n with h0 | h0
 ·exact Or.inl h0
 ·rcases h with h | ⟨bb, off, rfl, lt, R⟩
  ·omega
  ·exact Or.inr ⟨bb, off, rfl, lt, qz17 R hO (by omega) (hne bb ⟨h0, rfl⟩)⟩
def qzbn (W : Wd) (s g n r hs cs ds ts : Value) (q : Nat) : Prop := (0 < W.A.slots.length /\ qz42 s = some q) ∨ (0 < W.A.guides.length /\ qz42 g = some q) ∨ (0 < W.A.nodes.length /\ qz42 n = some q) ∨ (0 < W.A.vers.length /\ qz42 r = some q) ∨ (0 < W.hands.length /\ qz42 hs = some q) ∨ (0 < W.calls.length /\ qz42 cs = some q) ∨ (0 < W.deeds.length /\ qz42 ds = some q) ∨ (0 < W.ticks.length /\ qz42 ts = some q)
theorem qzbn.all {W : Wd} {s g n r hs cs ds ts : Value} {q : Nat} (h : qzbn W s g n r hs cs ds ts q) : qzeu s g n r hs cs ds ts q := by
 rcases h with h | h | h | h | h | h | h | h
 ·exact Or.inl h.2
 ·exact Or.inr (Or.inl h.2)
 ·exact Or.inr (Or.inr (Or.inl h.2))
 ·exact Or.inr (Or.inr (Or.inr (Or.inl h.2)))
 ·exact Or.inr (Or.inr (Or.inr (Or.inr (Or.inl h.2))))
 ·exact Or.inr (Or.inr (Or.inr (Or.inr (Or.inr (Or.inl h.2)))))
 ·exact Or.inr (Or.inr (Or.inr (Or.inr (Or.inr (Or.inr (Or.inl h.2))))))
 ·exact Or.inr (Or.inr (Or.inr (Or.inr (Or.inr (Or.inr (Or.inr (h.2)))))))
theorem qz2k {B : Nat} {w : World} {v : Value} {n : Nat} {cs : List Value} {q : Nat} (S : qzt B w v n cs) (h : 0 < n /\ qz42 v = some q) : q < B := by
 obtain ⟨a', cap', rfl, hh⟩ := S
 rcases hh with hh | ⟨bb, off, rfl, lt, R⟩
 ·omega
 ·have := h.2
  simp [qz42] at this
  omega
theorem WdIs.lt {B : Nat} {w : World} {s g n r hs cs ds ts : Value} {W : Wd} (I : WdIs B w s g n r hs cs ds ts W) {q : Nat} (h : qzbn W s g n r hs cs ds ts q) : q < B := by
 rcases h with h | h | h | h | h | h | h | h
 ·exact qz2k I.ar.s h
 ·exact qz2k I.ar.g h
 ·exact qz2k I.ar.n h
 ·exact qz2k I.ar.r h
 ·exact qz2k I.h h
 ·exact qz2k I.c h
 ·exact qz2k I.d h
 ·exact qz2k I.t h
theorem WdIs.farN {B c : Nat} {w w' : World} {s g n r hs cs ds ts : Value} {W : Wd} (I : WdIs B w s g n r hs cs ds ts W) (hO : Only c w w') (hB : B <= w.heap.size) (hne : ∀ q, qzbn W s g n r hs cs ds ts q -> q ≠ c) : WdIs B w' s g n r hs cs ds ts W :=
 ⟨⟨qz2u I.ar.s hO hB (fun q e => hne q (Or.inl e)), qz2u I.ar.g hO hB (fun q e => hne q (Or.inr (Or.inl e))), qz2u I.ar.n hO hB (fun q e => hne q (Or.inr (Or.inr (Or.inl e)))), qz2u I.ar.r hO hB (fun q e => hne q (Or.inr (Or.inr (Or.inr (Or.inl e)))))⟩,
  qz2u I.h hO hB (fun q e => hne q (Or.inr (Or.inr (Or.inr (Or.inr (Or.inl e)))))), qz2u I.c hO hB (fun q e => hne q (Or.inr (Or.inr (Or.inr (Or.inr (Or.inr (Or.inl e))))))), qz2u I.d hO hB (fun q e => hne q (Or.inr (Or.inr (Or.inr (Or.inr (Or.inr (Or.inr (Or.inl e)))))))), qz2u I.t hO hB (fun q e => hne q (Or.inr (Or.inr (Or.inr (Or.inr (Or.inr (Or.inr (Or.inr (e)))))))))⟩
structure qz98 (B b b3 : Nat) (w wr : World) (a : Option Addr) (len cap : Nat) (x y z u : Int) (s g n r hs cs ds ts : Value) (W : Wd) : Prop where
 dice : ∃ i h, qz1s .i64 wr b a len cap i h
 bytes : qz1h B wr a len
 row : wr.rangeAt b3 0 (wdC x y z u W.A.camera s g n r hs cs ds ts W.now)
 th : wr.there b3 0 14
 is : WdIs wr.heap.size wr s g n r hs cs ds ts W
 far : ∀ q, qzbn W s g n r hs cs ds ts q -> w.heap.size <= q /\ q ≠ b3
 only : Only b w wr
 lo : w.heap.size <= b3
 hi : b3 < wr.heap.size
section
variable {B b b3 : Nat} {w wr w' : World} {a : Option Addr} {len cap : Nat} {x y z u : Int} {s g n r hs cs ds ts : Value} {W : Wd}
theorem qz98.draw (P : qz98 B b b3 w wr a len cap x y z u s g n r hs cs ds ts W) (hbw : b < w.heap.size) {i' h' : Int} (D' : qz1s .i64 w' b a len cap i' h') (C' : qz1h B w' a len) (O' : Only b wr w') : qz98 B b b3 w w' a len cap x y z u s g n r hs cs ds ts W := by
 have h1 := P.lo
 have h3 := P.hi
 exact ⟨⟨i', h', D'⟩, C', qz17 P.row O' h3 (by omega), qzx P.th O' h3 (by omega), (P.is.farN O' (Nat.le_refl _) (fun q e => by have := (P.far q e).1; omega)).weaken O'.size, P.far, P.only.trans O', h1, Nat.lt_of_lt_of_le h3 O'.size⟩
theorem qz98.below (P : qz98 B b b3 w wr a len cap x y z u s g n r hs cs ds ts W) (hB : B <= b) (hb : Below wr.heap.size wr w') : qz98 B b b3 w w' a len cap x y z u s g n r hs cs ds ts W := by
 have h1 := P.lo
 have h3 := P.hi
 obtain ⟨i, h, Dd⟩ := P.dice
 exact ⟨⟨i, h, Dd.below hb⟩, P.bytes.below (hb.mono (by have := Dd.blk; omega)), qz0 P.row hb h3, qz2 P.th hb h3, (P.is.below hb).weaken hb.size, P.far, P.only.trans (Only.of_below hb), h1, Nat.lt_of_lt_of_le h3 hb.size⟩
theorem qz98.store {s' g' n' r' hs' cs' ds' ts' : Value} {W' : Wd} (P : qz98 B b b3 w wr a len cap x y z u s g n r hs cs ds ts W) (hB : B <= b) (hbw : b < w.heap.size) (hb : Below wr.heap.size wr w') (O : qz77 wr.heap.size w' s' g' n' r' hs' cs' ds' ts' W') :
  qz98 B b b3 w (w'.setCells b3 0 (wdC x y z u W'.A.camera s' g' n' r' hs' cs' ds' ts' W'.now)) a len cap x y z u s' g' n' r' hs' cs' ds' ts' W' := by
 have Q := P.below hB hb
 have h1 := Q.lo
 have h3 := Q.hi
 have h4 := P.hi
 have hO := qzj b3 (wdC x y z u W'.A.camera s' g' n' r' hs' cs' ds' ts' W'.now) 0 w'
 obtain ⟨i, h, Dd⟩ := Q.dice
 have hz := hb.size
 have hw := P.only.size
 refine ⟨⟨i, h, Dd.only hO (by omega)⟩, Q.bytes.below (hO.below (by omega) (by have := Dd.blk; omega)), World.rangeAt_setCells_same _ _ _ _ Q.th, World.there_setCells Q.th _ _ _, (O.only hO h4).is, fun q e => ?_, qz6h Q.only hO (by omega), h1, by rw [qzl]; exact h3⟩
 have := O.blk q e.all
 omega
theorem qz98.slices (P : qz98 B b b3 w wr a len cap x y z u s g n r hs cs ds ts W) : ∃ (a0 a1 a2 a3 a4 a5 a6 a7 : Option Addr) (c0 c1 c2 c3 c4 c5 c6 c7 : Nat), s = .slice a0 W.A.slots.length c0 /\ g = .slice a1 W.A.guides.length c1 /\ n = .slice a2 W.A.nodes.length c2 /\ r = .slice a3 W.A.vers.length c3 /\ hs = .slice a4 W.hands.length c4 /\ cs = .slice a5 W.calls.length c5 /\ ds = .slice a6 W.deeds.length c6 /\ ts = .slice a7 W.ticks.length c7 := by
 obtain ⟨a0, c0, e0, _⟩ := P.is.ar.s
 obtain ⟨a1, c1, e1, _⟩ := P.is.ar.g
 obtain ⟨a2, c2, e2, _⟩ := P.is.ar.n
 obtain ⟨a3, c3, e3, _⟩ := P.is.ar.r
 obtain ⟨a4, c4, e4, _⟩ := P.is.h
 obtain ⟨a5, c5, e5, _⟩ := P.is.c
 obtain ⟨a6, c6, e6, _⟩ := P.is.d
 obtain ⟨a7, c7, e7, _⟩ := P.is.t
 exact ⟨a0, a1, a2, a3, a4, a5, a6, a7, c0, c1, c2, c3, c4, c5, c6, c7, e0, e1, e2, e3, e4, e5, e6, e7⟩
theorem qz98.cell (P : qz98 B b b3 w wr a len cap x y z u s g n r hs cs ds ts W) (k : Nat) {v : Value} (hv : (wdC x y z u W.A.camera s g n r hs cs ds ts W.now)[k]? = some v) : wr.cell? ⟨b3, k, none⟩ = some v := by
 have := P.row k v hv
 rwa [Nat.zero_add] at this
end
end
section
attribute [local go_sem ↓] Go.wp_at_zero Go.wp_at_succ
theorem qz5c (B : Nat) (x y z u : Int) (W : Wd) (a0 a1 a2 a3 a4 a5 a6 a7 : Option Addr) (c0 c1 c2 c3 c4 c5 c6 c7 : Nat) (k : Nat) (h : Hd) (w : World) (hB : B <= w.heap.size) (hW : W.size <= 1000000) (I : WdIs B w (.slice a0 W.A.slots.length c0) (.slice a1 W.A.guides.length c1) (.slice a2 W.A.nodes.length c2) (.slice a3 W.A.vers.length c3) (.slice a4 W.hands.length c4) (.slice a5 W.calls.length c5) (.slice a6 W.deeds.length c6) (.slice a7 W.ticks.length c7) W) (hk : k < W.hands.length) (hkh : W.hands[k] = h) (h0 : h.at_ = 0) :
  Calls Tryz.prog 152 #[.agg Q08, .int .i64 (k : Int)] w fun e w' => e = .returned (.tuple #[.agg Q08, .bool false]) /\ Below w.heap.size w w' := by
 unfold Wd.size at hW
 obtain ⟨hb, ho, rfl, hbB, Rh⟩ : ∃ hb ho, a4 = some ⟨hb, ho, none⟩ /\ hb < B /\ w.rangeAt hb ho (qzn hdC W.hands) := by
  obtain ⟨a', cap', e4, h4⟩ := I.h
  cases e4
  rcases h4 with h4 | ⟨hb, ho, e, h5, h6⟩
  ·omega
  ·exact ⟨hb, ho, e, h5, h6⟩
 have X0 := World.rangeAt_alloc (qz6 w Q0v 59) (.cells Q03 59)
 have F0 := qz8 (w.alloc (.cells Q04 59)) Q03 59 14 (by decide)
 have K0 := ((Below.refl w.heap.size w).alloc (Nat.le_refl _) (.cells Q04 59)).alloc (by simp) (.cells Q03 59)
 have E0 := qz0 (qzi (f := hdC) (sz := 22) (fun _ => rfl) Rh k hk) K0 (Nat.lt_of_lt_of_le hbB hB)
 rw [hkh] at E0
 have FA := qz8 Q2j Q00 32 22 (by decide)
 have hset : ((Q2j).alloc (.cells Q00 32)).setCells (Q2j).heap.size 0 (hdC h).toArray.toList = (Q2j).alloc (.cells Q07 32) := qzy Q2j 32 (hdC h) [] Q0l rfl
 have X1 := World.rangeAt_alloc X0 (.cells Q07 32)
 have F1 := World.there_alloc F0 (.cells Q07 32)
 have H1 : ((Q2j).alloc (.cells Q07 32)).rangeAt (Q2j).heap.size 0 (hdC h) := qz6 Q2j (hdC h) 32
 have hz1 : ((Q2j).alloc (.cells Q07 32)).heap.size = w.heap.size + 3 := by simp
 simp only [World.size_alloc] at F0 F1 H1 FA hset
 have K1 := K0.alloc (by simp; omega) (.cells Q07 32)
 obtain ⟨x0, x1, x2, x3, x4, x5, x6, x7, x8, x9, x10, x11, x12, x13⟩ := qzdx X0
 have hk1 : (k : Int) < (W.hands.length : Int) := by omega
 have hk0 : (0 : Int) <= (k : Int) := by omega
 clear Rh I X0 F0 K0
 go_enter Tryz.func152, Tryz.ntmps152
 go_upto_region 2 with (first | (refine wpList_load_mid rfl 32 (.tmp 13) rfl hb (ho + k * 22) rfl (hdC h) _ ?hc0 Tryz.underlying32 rfl (qz1 h) ?_) | (refine wpList_store_mid rfl 32 (.tmp 6) (.tmp 14) rfl (w.heap.size + 1 + 1) 0 _ rfl rfl FA (qz7 h) (qzb _) ?_; rw [hset]))
 case hc0 => exact E0
 clear FA hset E0 x0 x1 x2 x3 x4 x5 x6 x7 x8 x9 x10 x11 x12 x13
 generalize hw1 : ((Q2j).alloc (.cells Q07 32)) = w1 at *
 clear hw1
 have y0 : w1.cell? ⟨w.heap.size + 1 + 1, 0, none⟩ = some (.int .i64 0) := by rw [<- h0]; simpa using H1 0 (.int .i64 h.at_) rfl
 go_wp2_with (first | (refine wpList_load_mid rfl 59 (.tmp 2) rfl w.heap.size 0 rfl Q0v _ ?lf Tryz.underlying59 rfl qzh ?_) | (refine wpList_store_mid rfl 59 (.tmp 4) (.tmp 23) rfl (w.heap.size + 1) 0 Q04 ?fx ?fy ?ft qzh (by simp [Value.oneCell']) ?_))
 try (case lf => exact X1)
 try (case fx => rfl)
 try (case fy => rfl)
 try (case ft => exact F1)
 refine bodyPost_ret (v := .tuple #[.agg Q04, .bool false]) ?_ rfl ⟨rfl, ?_⟩
 ·exact qzf Tryz.results152 _ _ (w.heap.size + 1) 0 rfl Q0v _ (World.rangeAt_setCells_same _ _ _ _ F1) Tryz.underlying59 rfl qzh
 ·exact Below.setCells (by omega) _ _ _ K1
end
end Go.Proofs.YtclkglkhhnapiaaGreat
