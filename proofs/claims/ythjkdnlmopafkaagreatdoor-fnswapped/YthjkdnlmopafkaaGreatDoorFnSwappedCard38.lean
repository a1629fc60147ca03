/-
  What the law's proof goes by, part 39.
-/
import Derived.Test.YthjkdnlmopafkaaGreatDoorFnSwappedCard00
import Derived.Test.YthjkdnlmopafkaaGreatDoorFnSwappedCard36
import Derived.Test.YthjkdnlmopafkaaGreatDoorFnSwappedCard37
namespace Go.Proofs.YthjkdnlmopafkaaGreatDoor
open Go.ChangeShapes Go.WideShapes Go.ChangeAt Go.RowKit
set_option maxRecDepth 100000
set_option maxHeartbeats 16000000
set_option linter.unusedVariables false
set_option linter.unusedSimpArgs false
set_option linter.unnecessarySimpa false
set_option linter.unusedSectionVars false
section
attribute [local go_sem ↓] Go.wp_at_zero Go.wp_at_succ
def qzha (b4 : Nat) (x y z u c : Int) (s g n r : Value) : Nat -> Value -> Prop
 | 0, v => v = .pointer (some ⟨b4, 0, none⟩)
 | 1, v => v = .agg Q06
 | 2, v => v = .agg #[.int .i64 c, s, g, n, r]
 | _, _ => True
def qzhq (b b5 sb gb nb rb c0 c1 c2 c3 ni vi : Nat) (A : Ar) : Nat -> Value -> Prop
 | 0, v => v = .pointer (some ⟨b5, 2, none⟩)
 | 1, v => v = .slice (some ⟨gb, 0, none⟩) Q75 c1
 | 2, v => v = .pointer (some ⟨b, 0, none⟩)
 | 3, v => v = .pointer (some ⟨b5, 3, none⟩)
 | 4, v => v = .slice (some ⟨nb, 0, none⟩) Q6q c2
 | 5, v => v = .int .i64 (Q6q : Int)
 | 6, v => ∃ m : Int, v = .int .i64 m
 | 7, v => v = .pointer (some ⟨gb, 0, none⟩)
 | _, _ => True
def qzhr (b b5 sb gb nb rb c0 c1 c2 c3 ni vi : Nat) (A : Ar) : Nat -> Value -> Prop
 | 0, v => v = .pointer (some ⟨b5, 3, none⟩)
 | 1, v => v = .slice (some ⟨nb, 0, none⟩) Q6q c2
 | 2, v => v = .int .i64 (ni : Int)
 | 3, v => v = .pointer (some ⟨b, 0, none⟩)
 | 4, v => ∃ m : Int, v = .int .i64 m
 | 5, v => v = .pointer (some ⟨nb, ni * 3, none⟩)
 | 6, v => v = .pointer (some ⟨nb, ni * 3, none⟩)
 | _, _ => True
def qzhh (b b5 sb gb nb rb c0 c1 c2 c3 ni vi : Nat) (A : Ar) : Nat -> Value -> Prop
 | 0, v => v = .pointer (some ⟨b5, 3, none⟩)
 | 1, v => v = .slice (some ⟨nb, 0, none⟩) Q6q c2
 | 2, v => v = .int .i64 (ni : Int)
 | 3, v => v = .pointer (some ⟨b, 0, none⟩)
 | 4, v => v = .pointer (some ⟨b5, 4, none⟩)
 | 5, v => v = .slice (some ⟨rb, 0, none⟩) Q6r c3
 | 6, v => v = .int .i64 (Q6r : Int)
 | 7, v => ∃ m : Int, v = .int .i64 m
 | 8, v => v = .pointer (some ⟨nb, ni * 3, none⟩)
 | 9, v => v = .pointer (some ⟨nb, ni * 3 + 2, none⟩)
 | _, _ => True
def qzhp (b b5 sb gb nb rb c0 c1 c2 c3 ni vi : Nat) (A : Ar) : Nat -> Value -> Prop
 | 0, v => v = .pointer (some ⟨b5, 4, none⟩)
 | 1, v => v = .slice (some ⟨rb, 0, none⟩) Q6r c3
 | 2, v => v = .int .i64 (vi : Int)
 | 3, v => v = .pointer (some ⟨b, 0, none⟩)
 | 4, v => v = .pointer (some ⟨b5, 3, none⟩)
 | 5, v => v = .slice (some ⟨nb, 0, none⟩) Q6q c2
 | 6, v => v = .int .i64 (Q6q : Int)
 | 7, v => ∃ m : Int, v = .int .i64 m
 | 8, v => v = .pointer (some ⟨rb, vi * 5, none⟩)
 | 9, v => v = .pointer (some ⟨rb, vi * 5, none⟩)
 | _, _ => True
def qzhb (b b5 sb gb nb rb c0 c1 c2 c3 ni vi : Nat) (A : Ar) : Nat -> Value -> Prop
 | 0, v => v = .pointer (some ⟨b5, 4, none⟩)
 | 1, v => v = .slice (some ⟨rb, 0, none⟩) Q6r c3
 | 2, v => v = .int .i64 (vi : Int)
 | 3, v => v = .pointer (some ⟨b, 0, none⟩)
 | 4, v => v = .pointer (some ⟨b5, 0, none⟩)
 | 5, v => v = .int .i64 Q6w
 | 6, v => v = .int .i64 (Q6w + 1)
 | 7, v => ∃ m : Int, v = .int .i64 m
 | 8, v => v = .pointer (some ⟨rb, vi * 5, none⟩)
 | 9, v => v = .pointer (some ⟨rb, vi * 5 + 2, none⟩)
 | _, _ => True
def qzhg (b b5 sb gb nb rb c0 c1 c2 c3 ni vi : Nat) (A : Ar) : Nat -> Value -> Prop
 | 0, v => v = .pointer (some ⟨b5, 4, none⟩)
 | 1, v => v = .slice (some ⟨rb, 0, none⟩) Q6r c3
 | 2, v => v = .int .i64 (vi : Int)
 | 3, v => v = .pointer (some ⟨b, 0, none⟩)
 | 4, v => v = .int .i64 (vi : Int)
 | 5, v => ∃ m : Int, v = .int .i64 m
 | 6, v => v = .pointer (some ⟨rb, vi * 5, none⟩)
 | 7, v => v = .pointer (some ⟨rb, vi * 5 + 3, none⟩)
 | _, _ => True
def qzho (b b5 sb gb nb rb c0 c1 c2 c3 ni vi : Nat) (A : Ar) : Nat -> Value -> Prop
 | 0, v => v = .pointer (some ⟨b5, 4, none⟩)
 | 1, v => v = .slice (some ⟨rb, 0, none⟩) Q6r c3
 | 2, v => v = .int .i64 (vi : Int)
 | 3, v => v = .pointer (some ⟨b, 0, none⟩)
 | 4, v => ∃ m : Int, v = .int .i64 m
 | 5, v => v = .pointer (some ⟨rb, vi * 5, none⟩)
 | 6, v => v = .pointer (some ⟨rb, vi * 5 + 4, none⟩)
 | _, _ => True
def qzhs (b b5 sb gb nb rb c0 c1 c2 c3 ni vi : Nat) (A : Ar) : Nat -> Value -> Prop
 | 0, v => v = .pointer (some ⟨b5, 1, none⟩)
 | 1, v => v = .slice (some ⟨sb, 0, none⟩) Q74 c0
 | 2, v => v = .pointer (some ⟨b, 0, none⟩)
 | 3, v => ∃ m : Int, v = .int .i64 m
 | 4, v => v = .pointer (some ⟨sb, 0, none⟩)
 | _, _ => True
theorem qz1u : (Tryz.prog.info? 25).map (fun i => i.size) = some 4 := by kernel_rfl
theorem qz15 : (Tryz.prog.info? 30).map (fun i => i.size) = some 5 := by kernel_rfl
def L2D (B b : Nat) (w : World) (a : Option Addr) (len cap : Nat) (e : Ending) (w' : World) : Prop := ∃ (x y z u : Int) (A : Ar) (s g n r : Value), e = .returned (.tuple #[.agg Q06, .agg Q1t]) /\ qz3w x y z u = true /\ qzcz A /\ qz1t Q6o w' s g n r A /\ (∃ i h, qz1f .i64 w' b a len cap i h) /\ qz17 B w' a len /\ Only b w w'
theorem qza6 (B b : Nat) (a : Option Addr) (len cap : Nat) (i h : Int) (w : World) (hB : B <= b) (hlen : len <= 4096) (D : qz1f .i64 w b a len cap i h) (C : qz17 B w a len) :
  Calls Tryz.prog 65 Q58 w fun e w' => L2D B b w a len cap e w' := by
 have hbw := D.blk
 have T2 := Q7h (qzg w Q3t 25 4 (by decide)) (.cells Q09 30)
 have T3 := qzg (w.alloc Q0y) Q09 30 5 (by decide)
 simp only [World.size_alloc] at T3
 have D0 := (D.alloc Q0y).alloc (.cells Q09 30)
 have C0 := (C.alloc (by omega) Q0y).alloc (by simp; omega) (.cells Q09 30)
 have O0 := ((Only.refl b w).alloc Q0y).alloc (.cells Q09 30)
 have hz0 : (Q50).heap.size = Q6o + 1 + 1 := by simp
 go_enter Tryz.func65, Tryz.ntmps65
 go_wp2_with fail
 generalize hw0 : Q50 = w0 at *
 clear hw0
 refine (qzci B b a len cap i h w0 hB hlen D0 C0).mono ?_
 rintro e w1 ⟨x, y, z, u, s, g, n, r, hs, cs, ds, ts, W, rfl, V1, hnow, I1, far1, Ow1, ⟨i1, h1, D1⟩, C1, O1⟩
 obtain ⟨a0, c0, rfl, -⟩ := id I1.ar.s
 obtain ⟨a1, c1, rfl, -⟩ := id I1.ar.g
 obtain ⟨a2, c2, rfl, -⟩ := id I1.ar.n
 obtain ⟨a3, c3, rfl, -⟩ := id I1.ar.r
 obtain ⟨a4, c4, rfl, -⟩ := id I1.h
 obtain ⟨a5, c5, rfl, -⟩ := id I1.c
 obtain ⟨a6, c6, rfl, -⟩ := id I1.d
 obtain ⟨a7, c7, rfl, -⟩ := id I1.t
 have hz1 := O1.size
 have OO1 := O0.trans O1
 have F1 := qzg w1 Q04 50 14 (by decide)
 have al1 := Below.setCells (Q6v _) Q0g 0 _ ((Q6s Q6y w1).alloc (Q6v _) (.cells Q04 50))
 have ROW : (Q57).rangeAt Q6y 0 (Q0n ++ (Q1c ++ [.slice a4 Q76 c4, .slice a5 Q79 c5, .slice a6 Q7c c6, .slice a7 Q7a c7, .int .i64 W.now])) := Q6u _ _ _ _ F1
 obtain ⟨RO1, RO2⟩ := qz2f ROW
 obtain ⟨RO3, -⟩ := qz2f RO2
 replace RO3 : (Q57).rangeAt Q6y 4 Q1c := RO3
 have hz4 : Q6y < (Q57).heap.size := by rw [qzp]; simp
 go_upto_region 2 with (refine wpList_store_mid rfl 50 (.tmp 4) (.tmp 9) rfl w1.heap.size 0 (Q0g).toArray ?sx ?sy ?st qzn (by simp [wdC, Value.oneCell']) ?_)
 try (case sx => rfl)
 try (case sy => rfl)
 try (case st => exact F1)
 have T2a := qz5 (qzj T2 O1 (by omega) (by omega)) al1 (by omega)
 have T3a := qz5 (qzj T3 O1 (by omega) (by omega)) al1 (by omega)
 have Dx := D1.below al1
 have Cx := C1.below (al1.mono (by have := D1.blk; omega))
 have Owx := (Ow1.below al1).lo (base' := Q6o) (by omega)
 have hlt1 : ∀ q, OwnB Q4l Q4j Q4k Q4n q -> Q6o + 1 < q /\ q < Q6y := fun q e => ⟨by have := Ow1.ge q e; omega, Ow1.lt q e⟩
 have OO2 := OO1.trans (Only.of_below al1)
 clear ROW RO2 F1 D1 C1 Ow1 O0 O1 OO1 D0 C0 T2 T3 I1 far1
 generalize Q57 = w4 at *
 have ob4 := al1.size
 clear al1
 generalize Q6y = b4 at *
 have FA := qzg w4 Q09 30 5 (by decide)
 have al4 := Below.setCells (Q6v _) Q1c 0 _ ((Q6s w4.heap.size w4).alloc (Q6v _) (.cells Q09 30))
 have hz5 : w4.heap.size < (Q6g).heap.size := by rw [qzp]; simp
 have P5 : Any2 B b Q6o (Q6o + 1) b4 w4.heap.size w Q6g a len cap x y z u Q4l Q4j Q4k Q4n W.A :=
  ⟨⟨i1, h1, Dx.below al4⟩, Cx.below (al4.mono (by have := Dx.blk; omega)), Q6u _ _ _ _ FA, Q7f FA _ _ _, qz0 RO1 al4 (by omega), qz5 T2a al4 (by omega), qz5 T3a al4 (by omega), Owx.below al4, fun q e => by have := hlt1 q e; omega, OO2.trans (Only.of_below al4), by omega, by have p := V1.ar; have q := V1.plan; have := p.sl; have := p.gl; have := p.nl; have := p.vl; exact ⟨by omega, by omega, ⟨by omega, by omega⟩, ⟨by omega, by omega⟩⟩⟩
 have hplan := V1.ar.pl
 have hcam := V1.ar.cam
 have hsl := V1.ar.sl
 have hgl := V1.ar.gl
 have hxr := V1.plan
 go_wp2_with (first | (refine wpList_load_mid rfl 30 (.tmp 10) rfl b4 4 ?l1a Q1c _ ?l1b Tryz.underlying30 rfl qz15 ?_) | ((refine wpList_store_mid rfl 30 (.tmp 5) (.tmp 11) rfl w4.heap.size 0 Q1f ?s1x ?s1y ?s1t qz15 (by simp [Value.oneCell']) ?_); all_goals (have tkA : True := trivial)) | (clear tkA; refine qz2j _ ?_))
 try (case l1a => rfl)
 try (case l1b => exact RO3)
 try (case s1x => rfl)
 try (case s1y => rfl)
 try (case s1t => exact FA)
 generalize Q6g = w5 at *
 generalize w4.heap.size = b5 at *
 clear FA al4 RO1 RO3 T2a T3a Dx Cx Owx hlt1 OO2 hz4 V1
 generalize W.A = A at *
 rename_i K1 h1 K0 h0
 have fin : ∀ (AA : Act) (s g n r : Value) (A' : Ar) (wr : World), AA.tmps.size = 122 -> AA.tmps.getD 2 undef = .pointer (some ⟨Q6o, 0, none⟩) -> AA.tmps.getD 3 undef = .pointer (some ⟨(Q6o + 1), 0, none⟩) -> AA.tmps.getD 4 undef = .pointer (some ⟨b4, 0, none⟩) -> AA.tmps.getD 5 undef = .pointer (some ⟨b5, 0, none⟩) -> AA.defers = [] -> Any2 B b Q6o (Q6o + 1) b4 b5 w wr a len cap x y z u s g n r A' -> K1 AA wr := by
  intro AA s g n r A' wr hsz e2 e3 e4 e5 ed P
  refine h1 _ _ ?_
  clear h1 h0
  have l := P.lo
  have hz := P.only.size
  obtain ⟨a0, c0, rfl⟩ := qzf P.own.rs
  obtain ⟨a1, c1, rfl⟩ := qzf P.own.rg
  obtain ⟨a2, c2, rfl⟩ := qzf P.own.rn
  obtain ⟨a3, c3, rfl⟩ := qzf P.own.rr
  go_wp2_with fail
  refine qz3q 5 (by kernel_rfl) (qz8d 3 4 B b wr a len cap Q6o (Q6o + 1) b4 b5 x y z u A'.camera (.slice a0 A'.slots.length c0) (.slice a1 A'.guides.length c1) (.slice a2 A'.nodes.length c2) (.slice a3 A'.vers.length c3)) (by obtain ⟨i0, h0, Dd⟩ := P.dice; exact ⟨⟨i0, h0, Dd.below ⟨rfl, rfl, rfl, Q6v _, fun _ _ => rfl⟩⟩, P.bytes.below ⟨rfl, rfl, rfl, Q6v _, fun _ _ => rfl⟩, P.pl, P.row, P.r2, P.r3, (fun h => by cases h), (fun h => by cases h), ⟨rfl, rfl, rfl, Q6v _, fun _ _ _ => rfl⟩, by have := P.lo; omega, by decide⟩) (fun _ i v _ => qzha b4 x y z u A'.camera (.slice a0 A'.slots.length c0) (.slice a1 A'.guides.length c1) (.slice a2 A'.nodes.length c2) (.slice a3 A'.vers.length c3) i v) (by kernel_rfl) (by kernel_rfl) (by kernel_rfl) (by kernel_rfl) (by rw [hsz]; kernel_rfl) ?step ?final
  case step =>
   intro i o hik ho' L aa V hLi hLk hcl J hnn hd' K hK
   obtain ⟨j1, j2, j3, j4, j5, j6, j7, j8, j9, j10, j11⟩ := id J
   match i, ho' with
   | 0, ho' =>
    obtain rfl := Q6p ho'
    have e4' : aa.eval (.tmp 4) = .pointer (some ⟨b4, 0, none⟩) := (hnn 4 rfl).trans e4
    refine qz1 (v := .pointer (some ⟨b4, 0, none⟩)) (w' := V) ?_ (hK _ _ rfl (J.on 0 (by decide) (by decide)) (fun j v' _ _ q => q))
    clear J j1 j2 j3 j4 j5 j6 j7 j8 j9 j10 j11
    generalize aa.eval = ev at *
    go_simp
   | 1, ho' =>
    obtain rfl := Q6p ho'
    exact qz1s 25 (.tmp 119) rfl b4 0 (hd' ⟨0, .data⟩ (by simp) rfl 119 rfl).2 Q0n _ j3 Tryz.underlying25 rfl qz1u (hK _ _ rfl (J.on 1 (by decide) (by decide)) (fun j v' _ _ q => q))
   | 2, ho' =>
    obtain rfl := Q6p ho'
    exact qz1s 30 (.tmp 5) rfl b5 0 ((hnn 5 rfl).trans e5) Q64 _ j4 Q7g rfl qz15 (hK _ _ rfl (J.on 2 (by decide) (by decide)) (fun j v' _ _ q => q))
   | 3, ho' =>
    obtain rfl := Q6p ho'
    refine wp_store_mid 25 (.tmp 2) (.tmp 120) rfl (Q6o) 0 Q06 ((hnn 2 rfl).trans e2) (hd' ⟨1, .data⟩ (by simp) rfl 120 rfl).2 j5 qz1u (by simp [Value.oneCell']) ?_
    exact hK _ _ trivial J.st0 (fun j v' _ _ q => q)
   | 4, ho' =>
    obtain rfl := Q6p ho'
    refine wp_store_mid 30 (.tmp 3) (.tmp 121) rfl (Q6o + 1) 0 Q5n ((hnn 3 rfl).trans e3) (hd' ⟨2, .data⟩ (by simp) rfl 121 rfl).2 j6 qz15 (by simp [Value.oneCell']) ?_
    exact hK _ _ trivial J.st1 (fun j v' _ _ q => q)
   | n + 5, ho' => omega
  case final =>
   intro L vs V' hLall J hG
   have r1 := J.k9 (hLall 3 (by decide))
   have r2 := J.k10 (hLall 4 (by decide))
   have hBt := J.k12
   have OV : qz1t Q6o V' (.slice a0 A'.slots.length c0) (.slice a1 A'.guides.length c1) (.slice a2 A'.nodes.length c2) (.slice a3 A'.vers.length c3) A' := P.own.kept hBt (fun q hq h => by have := P.far q hq; have := P.own.ge q hq; omega)
   have OnV : Only b w V' := qz88 P.only hBt (fun q h1 h2 h => by omega)
   obtain ⟨dd, cc⟩ := (⟨J.dice, J.bytes⟩ : _ /\ _)
   clear J hBt hG hLall
   generalize hl : laid _ vs _ _ _ = BB
   have f2 : BB.tmps.getD 2 undef = .pointer (some ⟨Q6o, 0, none⟩) := by
    rw [<- hl]
    exact (qz21 _ vs _ 2 _ AA (of_decide_eq_true (by kernel_rfl))).trans e2
   have f3 : BB.tmps.getD 3 undef = .pointer (some ⟨(Q6o + 1), 0, none⟩) := by
    rw [<- hl]
    exact (qz21 _ vs _ 3 _ AA (of_decide_eq_true (by kernel_rfl))).trans e3
   have fd : BB.defers = [] := by
    rw [<- hl]
    exact (qz7v _ vs _ _ AA).trans ed
   clear hl e2 e3 e4 e5 ed hsz
   simp only [List.drop_succ_cons, List.drop_zero]
   go_wp2_with fail
   refine bodyPost_ret (v := .tuple #[.agg (Q06 : Array Value), .agg Q5n]) ?_ fd ⟨x, y, z, u, A', _, _, _, _, rfl, hplan, P.sm, OV, dd, cc, OnV⟩
   exact qzbv Tryz.results65 _ V' (Q6o) (Q6o + 1) f2 f3 Q0n Q64 _ _ r1 r2 Tryz.underlying25 rfl qz1u Q7g rfl qz15
 clear h1
 obtain ⟨sb, _, q0⟩ := qz12 P5.own.rs (by omega)
 obtain ⟨gb, _, q1⟩ := qz12 P5.own.rg (by omega)
 obtain ⟨nb, _, q2⟩ := qz12 P5.own.rn (by have := P5.sm.2.2.1; omega)
 obtain ⟨rb, _, q3⟩ := qz12 P5.own.rr (by have := P5.sm.2.2.2; omega)
 cases q0
 cases q1
 cases q2
 cases q3
 have hsl0 : 1 <= Q74 := by omega
 have hgl0 : 1 <= Q75 := by omega
 have hsl8 : Q74 <= 8 := by omega
 clear hsl hgl
 have hsm := P5.sm
 obtain ⟨hs1, hs2, ⟨hs3, hs4⟩, hs5, hs6⟩ := id hsm
 obtain ⟨i3, h3, D3⟩ := P5.dice
 show wpList _ _ _ _ _ w5
 go_wp2_with fail
 refine (qz2g B b a len cap i3 h3 8 w5 hB hlen D3 P5.bytes (by omega) (by omega)).mono ?_
 rintro e w6 ⟨once, i6, h6, rfl, D6, C6, O6⟩
 have P6 := P5.draw hbw D6 C6 O6
 clear D3 D6 C6 O6 P5
 cases once
 case false =>
  go_wp2_with fail
  exact fin _ _ _ _ _ _ _ rfl rfl rfl rfl rfl rfl P6
 obtain ⟨i7, h7, D7⟩ := P6.dice
 have y3 : w6.cell? ⟨b5, 3, none⟩ = some Q29 := by simpa using P6.row 3 _ rfl
 go_wp2_with fail
 refine (qzx B b a len cap i7 h7 (Q6q : Int) w6 hB hlen D7 P6.bytes (by omega) (by omega)).mono ?_
 rintro e w7 ⟨nI, i8, h8, rfl, n0, n1, D8, C8, O8⟩
 have P7 := P6.draw hbw D8 C8 O8
 clear y3 D7 C8 O8 P6
 have y4 : w7.cell? ⟨b5, 4, none⟩ = some Q25 := by simpa using P7.row 4 _ rfl
 go_wp2_with fail
 refine (qzx B b a len cap i8 h8 (Q6r : Int) w7 hB hlen D8 P7.bytes (by omega) (by omega)).mono ?_
 rintro e w8 ⟨vI, i9, h9, rfl, v0, v1, D9, C9, O9⟩
 have P8 := P7.draw hbw D9 C9 O9
 clear y4 D8 C9 O9 P7
 go_wp2_with fail
 refine (qzx B b a len cap i9 h9 10 w8 hB hlen D9 P8.bytes (by omega) (by omega)).mono ?_
 rintro e w9 ⟨kI, ia, ha, rfl, k0, k1, Da, Ca, Oa⟩
 have P9 := P8.draw hbw Da Ca Oa
 clear D9 Ca Oa P8
 obtain ⟨ni, rfl⟩ : ∃ k : Nat, nI = k := ⟨nI.toNat, by omega⟩
 obtain ⟨vi, rfl⟩ : ∃ k : Nat, vI = k := ⟨vI.toNat, by omega⟩
 have hni : ni < Q6q := by omega
 have hvi : vi < Q6r := by omega
 have hP9 := P9
 obtain ⟨ib, hb, Db⟩ := P9.dice
 clear Da
 rcases (by omega : kI = 0 ∨ kI = 1 ∨ kI = 2 ∨ kI = 3 ∨ kI = 4 ∨ kI = 5 ∨ kI = 6 ∨ kI = 7 ∨ kI = 8 ∨ kI = 9) with rfl | rfl | rfl | rfl | rfl | rfl | rfl | rfl | rfl | rfl
 ·go_wp2_with fail
  refine (qz8i B b a len cap ib hb 100 w9 hB hlen Db P9.bytes (by omega) (by omega)).mono ?_
  rintro e wa ⟨m, ic, hc, rfl, Dc, Cc, Oc⟩
  have Pc := P9.draw hbw Dc Cc Oc
  have y0 : wa.cell? ⟨b5, 0, none⟩ = some (.int .i64 Q6w) := by simpa using Pc.row 0 _ rfl
  have z0 : wa.frozen? ⟨b5, 0, none⟩ = false := by simpa using (Pc.th 0 (by decide)).2
  have Pd := Pc.cam hB hbw m
  clear Db Dc Cc Oc P9 hP9 Pc
  go_wp2
  exact fin _ _ _ _ _ _ _ rfl rfl rfl rfl rfl rfl Pd
 ·have y1 : w9.cell? ⟨b5, 1, none⟩ = some Q28 := by simpa using P9.row 1 _ rfl
  obtain ⟨i0, hi, hzr, hsz, hby⟩ := info_parts qzbg
  have news := qz6 w9 [.int .i64 0] 2
  have OR := P9.own.rs.alloc (.cells #[.int .i64 0] 2)
  go_wp2_with (at_builtin; refine wpList_append_own_at _ rfl _ _ 26 rfl Q6o 2 i0 _ 1 8 Tryz.underlying26 hi hzr hsz hby rfl (by decide) _ _ _ rfl OR ⟨w9.heap.size, 0, none⟩ 1 1 [.int .i64 0] rfl rfl ?n1 ?n2 ?n3 ?n4 ?n5 ?_)
  case n1 => exact fun j q hq => by have := news j q hq; rw [Nat.zero_add] at this; by_cases e0 : j = 0; (· subst e0; simpa [Addr.add] using this); (· simpa [Addr.add, e0] using this)
  case n2 =>
   intro q hq
   simp at hq
   subst hq
   rfl
  case n3 => unfold maxLen; omega
  case n4 => omega
  case n5 => have := P9.lo; simp; omega
  intro s2 wa hown hgrow _ hat
  obtain ⟨ra2, rc2, rfl⟩ := qzf hown
  have B01 : But (fun q => Value.ownBlock Q28 = some q) w9 wa := ⟨hgrow.os, hgrow.tape, hgrow.output, Q77 (by simp) hgrow.size, fun q hq hn => (hgrow.block q (by simp; omega) (fun e => hn e.symm)).trans (Below.heap_alloc _ _ _ hq)⟩
  have hl9 := P9.lo
  have nb5 : ¬ Value.ownBlock Q28 = some b5 := fun e => (P9.far b5 (Or.inl e)).2.2.2 rfl
  have y1a : wa.cell? ⟨b5, 1, none⟩ = some Q28 := (B01.cell (p := ⟨b5, 1, none⟩) (by show b5 < _; omega) nb5).trans y1
  have z1a : wa.frozen? ⟨b5, 1, none⟩ = false := (B01.frozen (p := ⟨b5, 1, none⟩) (by show b5 < _; omega) nb5).trans (by simpa using (P9.th 1 (by decide)).2)
  have PS := P9.slots (v := 0) hB hbw (by simpa [qz1p, intC] using hown) B01 (fun q e => by rcases hat with h | h; (· exact Or.inl (h.symm.trans e)); (· exact Or.inr (by rw [h] at e; injection e with e; omega))) hsl8
  clear hown hgrow hat B01 news OR hi hzr hsz hby y1 nb5 P9 hP9 Db
  go_wp2
  exact fin _ _ _ _ _ _ _ rfl rfl rfl rfl rfl rfl PS
 ·clear Db ib hb
  go_wp2
  refine qz2z 8 (by kernel_rfl) (fun V => Any2 B b Q6o (Q6o + 1) b4 b5 w V a len cap x y z u Q28 Q2r Q29 Q25 A) (hP9.drew1 hB) (fun _ i v _ => qzhq b b5 sb gb nb rb c0 c1 c2 c3 ni vi A i v) (by kernel_rfl) (by kernel_rfl) (by kernel_rfl) (by kernel_rfl) (by rfl) ?step2 ?final2
  case step2 =>
   intro i o hik ho' L aa V hLi hLk J hnn hd' K hK
   match i, ho' with
   | 0, ho' =>
    obtain rfl := Q6p ho'
    have e1 : aa.eval (.tmp 5) = .pointer (some ⟨b5, 0, none⟩) := hnn 5 rfl
    refine qz1 (v := .pointer (some ⟨b5, 2, none⟩)) (w' := V) ?_ (hK _ _ rfl J (fun j v' _ _ q => q))
    clear J
    generalize aa.eval = ev at *
    go_simp
   | 1, ho' =>
    obtain rfl := Q6p ho'
    have e1 : aa.eval (.tmp 40) = .pointer (some ⟨b5, 2, none⟩) := (hd' ⟨0, .data⟩ (by simp) rfl 40 rfl).2
    have y : V.cell? ⟨b5, 2, none⟩ = some Q2r := by simpa using J.row 2 _ rfl
    refine qz1 (v := .slice (some ⟨gb, 0, none⟩) Q75 c1) (w' := V) ?_ (hK _ _ rfl J (fun j v' _ _ q => q))
    clear J
    generalize aa.eval = ev at *
    go_simp
   | 2, ho' =>
    obtain rfl := Q6p ho'
    have e1 : aa.eval (.tmp 0) = .pointer (some ⟨b, 0, none⟩) := hnn 0 rfl
    refine qz1 (v := .pointer (some ⟨b, 0, none⟩)) (w' := V) ?_ (hK _ _ rfl J (fun j v' _ _ q => q))
    clear J
    generalize aa.eval = ev at *
    go_simp
   | 3, ho' =>
    obtain rfl := Q6p ho'
    have e1 : aa.eval (.tmp 5) = .pointer (some ⟨b5, 0, none⟩) := hnn 5 rfl
    refine qz1 (v := .pointer (some ⟨b5, 3, none⟩)) (w' := V) ?_ (hK _ _ rfl J (fun j v' _ _ q => q))
    clear J
    generalize aa.eval = ev at *
    go_simp
   | 4, ho' =>
    obtain rfl := Q6p ho'
    have e1 : aa.eval (.tmp 43) = .pointer (some ⟨b5, 3, none⟩) := (hd' ⟨3, .data⟩ (by simp) rfl 43 rfl).2
    have y : V.cell? ⟨b5, 3, none⟩ = some Q29 := by simpa using J.row 3 _ rfl
    refine qz1 (v := .slice (some ⟨nb, 0, none⟩) Q6q c2) (w' := V) ?_ (hK _ _ rfl J (fun j v' _ _ q => q))
    clear J
    generalize aa.eval = ev at *
    go_simp
   | 5, ho' =>
    obtain rfl := Q6p ho'
    have e1 : aa.eval (.tmp 44) = .slice (some ⟨nb, 0, none⟩) Q6q c2 := (hd' ⟨4, .data⟩ (by simp) rfl 44 rfl).2
    refine qz1 (v := .int .i64 (Q6q : Int)) (w' := V) ?_ (hK _ _ rfl J (fun j v' _ _ q => q))
    clear J
    generalize aa.eval = ev at *
    go_simp
   | 6, ho' =>
    obtain rfl := Q6p ho'
    obtain ⟨ii, hh, Dd⟩ := J.dice
    have e1 : aa.eval (.tmp 42) = .pointer (some ⟨b, 0, none⟩) := (hd' ⟨2, .data⟩ (by simp) rfl 42 rfl).2
    have ec : aa.eval (.const (.int .i64 (-1))) = .int .i64 (-1) := rfl
    have e2 : aa.eval (.tmp 45) = .int .i64 (Q6q) := (hd' ⟨5, .data⟩ (by simp) rfl 45 rfl).2
    have ef : aa.eval (.func 30) = .func (.func 30) #[] #[] := rfl
    refine qz19 (f := 30) (args := #[.pointer (some ⟨b, 0, none⟩), .int .i64 (-1), .int .i64 (Q6q)]) (R := fun v w' => ∃ m i' h', v = .int .i64 m /\ qz1f .i64 w' b a len cap i' h' /\ qz17 B w' a len /\ Only b V w') ?_ ((qz2a B b a len cap ii hh (-1) (Q6q) V hB hlen Dd J.bytes (by omega) (by omega) (by omega)).mono (fun e w' h => by obtain ⟨m, i', h', e1, _, _, q1, q2, q3⟩ := h; exact ⟨_, e1, m, i', h', rfl, q1, q2, q3⟩)) (fun v w' h => by obtain ⟨m, i', h', e1, q1, q2, q3⟩ := h; exact hK v w' ⟨m, e1⟩ (J.draw hbw q1 q2 q3) (fun j v' _ _ q => q))
    clear Dd J
    generalize aa.eval = ev at *
    go_simp
   | 7, ho' =>
    obtain rfl := Q6p ho'
    have e1 : aa.eval (.tmp 41) = .slice (some ⟨gb, 0, none⟩) Q75 c1 := (hd' ⟨1, .data⟩ (by simp) rfl 41 rfl).2
    have ec : aa.eval (.const (.int .i64 0)) = .int .i64 0 := rfl
    have hl1 : (0 : Int) < (Q75 : Int) := by omega
    refine qz1 (v := .pointer (some ⟨gb, 0, none⟩)) (w' := V) ?_ (hK _ _ rfl J (fun j v' _ _ q => q))
    clear J
    generalize aa.eval = ev at *
    go_simp
    all_goals (intro hx; first | (simp [hx] at hgl0; done) | (simp [hx] at hsl0; done))
   | n + 8, ho' => omega
  intro L vs V hLall P hG
  obtain ⟨m, gm⟩ := (show ∃ m : Int, vs 6 = .int .i64 m from hG 6 (by decide))
  have ga : vs 7 = .pointer (some ⟨gb, 0, none⟩) := hG 7 (by decide)
  generalize hl : laid _ vs _ _ _ = BB
  have fA : BB.eval (.tmp 47) = .pointer (some ⟨gb, 0, none⟩) := by
   rw [<- ga, <- hl]
   kernel_rfl
  have fB : BB.eval (.tmp 46) = .int .i64 m := by
   rw [<- gm, <- hl]
   kernel_rfl
  have fs : BB.tmps.size = 122 := by
   rw [<- hl]
   kernel_rfl
  have f2 : BB.tmps.getD 2 undef = .pointer (some ⟨Q6o, 0, none⟩) := by
   rw [<- hl]
   kernel_rfl
  have f3 : BB.tmps.getD 3 undef = .pointer (some ⟨(Q6o + 1), 0, none⟩) := by
   rw [<- hl]
   kernel_rfl
  have f4 : BB.tmps.getD 4 undef = .pointer (some ⟨b4, 0, none⟩) := by
   rw [<- hl]
   kernel_rfl
  have f5 : BB.tmps.getD 5 undef = .pointer (some ⟨b5, 0, none⟩) := by
   rw [<- hl]
   kernel_rfl
  have fd : BB.defers = [] := by
   rw [<- hl]
   kernel_rfl
  obtain ⟨old, cO, fO⟩ : ∃ old, V.cell? ⟨gb, 0, none⟩ = some old /\ V.frozen? ⟨gb, 0, none⟩ = false := by
   exact ⟨_, qz23 P.own.rg 0 _ (by have h := qzy (f := intC) (sz := 1) (fun _ => rfl) A.guides 0 (by omega) 0 (by decide); simpa [intC] using h)⟩
  have PE := P.elem (k := 0) (v := .int .i64 m) hB hbw (Or.inr (Or.inl rfl)) rfl (A' := { A with guides := A.guides.set 0 m }) (by first | exact ⟨by simpa using hs1, by simpa using hs2, by simpa using ⟨hs3, hs4⟩, by simpa using ⟨hs5, hs6⟩⟩) (P.own.gde 0 (by omega) m)
  clear hl hG hLall gm ga
  simp only [List.drop_succ_cons, List.drop_zero]
  refine qz2h rfl (w' := V.setCell ⟨gb, 0, none⟩ (.int .i64 m)) ?he2 ?_
  case he2 =>
   clear PE P f2 f3 f4 f5 fd fs
   generalize BB.eval = ev at *
   go_simp
  refine wpList_nil ?_
  exact fin _ _ _ _ _ _ _ fs f2 f3 f4 f5 fd PE
 ·clear Db ib hb
  go_wp2
  refine qz2z 7 (by kernel_rfl) (fun V => Any2 B b Q6o (Q6o + 1) b4 b5 w V a len cap x y z u Q28 Q2r Q29 Q25 A) (hP9.drew1 hB) (fun _ i v _ => qzhr b b5 sb gb nb rb c0 c1 c2 c3 ni vi A i v) (by kernel_rfl) (by kernel_rfl) (by kernel_rfl) (by kernel_rfl) (by rfl) ?step3 ?final3
  case step3 =>
   intro i o hik ho' L aa V hLi hLk J hnn hd' K hK
   match i, ho' with
   | 0, ho' =>
    obtain rfl := Q6p ho'
    have e1 : aa.eval (.tmp 5) = .pointer (some ⟨b5, 0, none⟩) := hnn 5 rfl
    refine qz1 (v := .pointer (some ⟨b5, 3, none⟩)) (w' := V) ?_ (hK _ _ rfl J (fun j v' _ _ q => q))
    clear J
    generalize aa.eval = ev at *
    go_simp
   | 1, ho' =>
    obtain rfl := Q6p ho'
    have e1 : aa.eval (.tmp 50) = .pointer (some ⟨b5, 3, none⟩) := (hd' ⟨0, .data⟩ (by simp) rfl 50 rfl).2
    have y : V.cell? ⟨b5, 3, none⟩ = some Q29 := by simpa using J.row 3 _ rfl
    refine qz1 (v := .slice (some ⟨nb, 0, none⟩) Q6q c2) (w' := V) ?_ (hK _ _ rfl J (fun j v' _ _ q => q))
    clear J
    generalize aa.eval = ev at *
    go_simp
   | 2, ho' =>
    obtain rfl := Q6p ho'
    have e1 : aa.eval (.tmp 6) = .int .i64 (ni : Int) := hnn 6 rfl
    refine qz1 (v := .int .i64 (ni : Int)) (w' := V) ?_ (hK _ _ rfl J (fun j v' _ _ q => q))
    clear J
    generalize aa.eval = ev at *
    go_simp
   | 3, ho' =>
    obtain rfl := Q6p ho'
    have e1 : aa.eval (.tmp 0) = .pointer (some ⟨b, 0, none⟩) := hnn 0 rfl
    refine qz1 (v := .pointer (some ⟨b, 0, none⟩)) (w' := V) ?_ (hK _ _ rfl J (fun j v' _ _ q => q))
    clear J
    generalize aa.eval = ev at *
    go_simp
   | 4, ho' =>
    obtain rfl := Q6p ho'
    obtain ⟨ii, hh, Dd⟩ := J.dice
    have e1 : aa.eval (.tmp 53) = .pointer (some ⟨b, 0, none⟩) := (hd' ⟨3, .data⟩ (by simp) rfl 53 rfl).2
    have ec : aa.eval (.const (.int .i64 63)) = .int .i64 63 := rfl
    have ef : aa.eval (.func 66) = .func (.func 66) #[] #[] := rfl
    refine qz19 (f := 66) (args := #[.pointer (some ⟨b, 0, none⟩), .int .i64 63]) (R := fun v w' => ∃ m i' h', v = .int .i64 m /\ qz1f .i64 w' b a len cap i' h' /\ qz17 B w' a len /\ Only b V w') ?_ ((qz8i B b a len cap ii hh 63 V hB hlen Dd J.bytes (by omega) (by omega)).mono (fun e w' h => by obtain ⟨m, i', h', e1, q1, q2, q3⟩ := h; exact ⟨_, e1, m, i', h', rfl, q1, q2, q3⟩)) (fun v w' h => by obtain ⟨m, i', h', e1, q1, q2, q3⟩ := h; exact hK v w' ⟨m, e1⟩ (J.draw hbw q1 q2 q3) (fun j v' _ _ q => q))
    clear Dd J
    generalize aa.eval = ev at *
    go_simp
   | 5, ho' =>
    obtain rfl := Q6p ho'
    have e1 : aa.eval (.tmp 51) = .slice (some ⟨nb, 0, none⟩) Q6q c2 := (hd' ⟨1, .data⟩ (by simp) rfl 51 rfl).2
    have e2 : aa.eval (.tmp 52) = .int .i64 (ni : Int) := (hd' ⟨2, .data⟩ (by simp) rfl 52 rfl).2
    have hl0 : (0 : Int) <= (ni : Int) := by omega
    have hl1 : (ni : Int) < (Q6q : Int) := by omega
    refine qz1 (v := .pointer (some ⟨nb, ni * 3, none⟩)) (w' := V) ?_ (hK _ _ rfl J (fun j v' _ _ q => q))
    clear J
    generalize aa.eval = ev at *
    go_simp
   | 6, ho' =>
    obtain rfl := Q6p ho'
    have e1 : aa.eval (.tmp 55) = .pointer (some ⟨nb, ni * 3, none⟩) := (hd' ⟨5, .data⟩ (by simp) rfl 55 rfl).2
    refine qz1 (v := .pointer (some ⟨nb, ni * 3, none⟩)) (w' := V) ?_ (hK _ _ rfl J (fun j v' _ _ q => q))
    clear J
    generalize aa.eval = ev at *
    go_simp
   | n + 7, ho' => omega
  intro L vs V hLall P hG
  obtain ⟨m, gm⟩ := (show ∃ m : Int, vs 4 = .int .i64 m from hG 4 (by decide))
  have ga : vs 6 = .pointer (some ⟨nb, ni * 3, none⟩) := hG 6 (by decide)
  generalize hl : laid _ vs _ _ _ = BB
  have fA : BB.eval (.tmp 56) = .pointer (some ⟨nb, ni * 3, none⟩) := by
   rw [<- ga, <- hl]
   kernel_rfl
  have fB : BB.eval (.tmp 54) = .int .i64 m := by
   rw [<- gm, <- hl]
   kernel_rfl
  have fs : BB.tmps.size = 122 := by
   rw [<- hl]
   kernel_rfl
  have f2 : BB.tmps.getD 2 undef = .pointer (some ⟨Q6o, 0, none⟩) := by
   rw [<- hl]
   kernel_rfl
  have f3 : BB.tmps.getD 3 undef = .pointer (some ⟨(Q6o + 1), 0, none⟩) := by
   rw [<- hl]
   kernel_rfl
  have f4 : BB.tmps.getD 4 undef = .pointer (some ⟨b4, 0, none⟩) := by
   rw [<- hl]
   kernel_rfl
  have f5 : BB.tmps.getD 5 undef = .pointer (some ⟨b5, 0, none⟩) := by
   rw [<- hl]
   kernel_rfl
  have fd : BB.defers = [] := by
   rw [<- hl]
   kernel_rfl
  obtain ⟨old, cO, fO⟩ : ∃ old, V.cell? ⟨nb, ni * 3, none⟩ = some old /\ V.frozen? ⟨nb, ni * 3, none⟩ = false := by
   exact ⟨_, qz23 P.own.rn (ni * 3 + 0) _ (by have h := qzy (f := ndC) (sz := 3) (fun _ => rfl) A.nodes ni hni 0 (by decide); exact h)⟩
  have PE := P.elem (k := ni * 3) (v := .int .i64 m) hB hbw (Or.inr (Or.inr (Or.inl rfl))) rfl (A' := { A with nodes := A.nodes.set ni { A.nodes[ni] with key := m } }) (by first | exact ⟨by simpa using hs1, by simpa using hs2, by simpa using ⟨hs3, hs4⟩, by simpa using ⟨hs5, hs6⟩⟩) (P.own.nde ni hni 0 (by decide) m { A.nodes[ni] with key := m } rfl)
  clear hl hG hLall gm ga
  simp only [List.drop_succ_cons, List.drop_zero]
  refine qz2h rfl (w' := V.setCell ⟨nb, ni * 3, none⟩ (.int .i64 m)) ?he3 ?_
  case he3 =>
   clear PE P f2 f3 f4 f5 fd fs
   generalize BB.eval = ev at *
   go_simp
  refine wpList_nil ?_
  exact fin _ _ _ _ _ _ _ fs f2 f3 f4 f5 fd PE
 ·clear Db ib hb
  go_wp2
  refine qz2z 10 (by kernel_rfl) (fun V => Any2 B b Q6o (Q6o + 1) b4 b5 w V a len cap x y z u Q28 Q2r Q29 Q25 A) (hP9.drew1 hB) (fun _ i v _ => qzhh b b5 sb gb nb rb c0 c1 c2 c3 ni vi A i v) (by kernel_rfl) (by kernel_rfl) (by kernel_rfl) (by kernel_rfl) (by rfl) ?step4 ?final4
  case step4 =>
   intro i o hik ho' L aa V hLi hLk J hnn hd' K hK
   match i, ho' with
   | 0, ho' =>
    obtain rfl := Q6p ho'
    have e1 : aa.eval (.tmp 5) = .pointer (some ⟨b5, 0, none⟩) := hnn 5 rfl
    refine qz1 (v := .pointer (some ⟨b5, 3, none⟩)) (w' := V) ?_ (hK _ _ rfl J (fun j v' _ _ q => q))
    clear J
    generalize aa.eval = ev at *
    go_simp
   | 1, ho' =>
    obtain rfl := Q6p ho'
    have e1 : aa.eval (.tmp 59) = .pointer (some ⟨b5, 3, none⟩) := (hd' ⟨0, .data⟩ (by simp) rfl 59 rfl).2
    have y : V.cell? ⟨b5, 3, none⟩ = some Q29 := by simpa using J.row 3 _ rfl
    refine qz1 (v := .slice (some ⟨nb, 0, none⟩) Q6q c2) (w' := V) ?_ (hK _ _ rfl J (fun j v' _ _ q => q))
    clear J
    generalize aa.eval = ev at *
    go_simp
   | 2, ho' =>
    obtain rfl := Q6p ho'
    have e1 : aa.eval (.tmp 6) = .int .i64 (ni : Int) := hnn 6 rfl
    refine qz1 (v := .int .i64 (ni : Int)) (w' := V) ?_ (hK _ _ rfl J (fun j v' _ _ q => q))
    clear J
    generalize aa.eval = ev at *
    go_simp
   | 3, ho' =>
    obtain rfl := Q6p ho'
    have e1 : aa.eval (.tmp 0) = .pointer (some ⟨b, 0, none⟩) := hnn 0 rfl
    refine qz1 (v := .pointer (some ⟨b, 0, none⟩)) (w' := V) ?_ (hK _ _ rfl J (fun j v' _ _ q => q))
    clear J
    generalize aa.eval = ev at *
    go_simp
   | 4, ho' =>
    obtain rfl := Q6p ho'
    have e1 : aa.eval (.tmp 5) = .pointer (some ⟨b5, 0, none⟩) := hnn 5 rfl
    refine qz1 (v := .pointer (some ⟨b5, 4, none⟩)) (w' := V) ?_ (hK _ _ rfl J (fun j v' _ _ q => q))
    clear J
    generalize aa.eval = ev at *
    go_simp
   | 5, ho' =>
    obtain rfl := Q6p ho'
    have e1 : aa.eval (.tmp 63) = .pointer (some ⟨b5, 4, none⟩) := (hd' ⟨4, .data⟩ (by simp) rfl 63 rfl).2
    have y : V.cell? ⟨b5, 4, none⟩ = some Q25 := by simpa using J.row 4 _ rfl
    refine qz1 (v := .slice (some ⟨rb, 0, none⟩) Q6r c3) (w' := V) ?_ (hK _ _ rfl J (fun j v' _ _ q => q))
    clear J
    generalize aa.eval = ev at *
    go_simp
   | 6, ho' =>
    obtain rfl := Q6p ho'
    have e1 : aa.eval (.tmp 64) = .slice (some ⟨rb, 0, none⟩) Q6r c3 := (hd' ⟨5, .data⟩ (by simp) rfl 64 rfl).2
    refine qz1 (v := .int .i64 (Q6r : Int)) (w' := V) ?_ (hK _ _ rfl J (fun j v' _ _ q => q))
    clear J
    generalize aa.eval = ev at *
    go_simp
   | 7, ho' =>
    obtain rfl := Q6p ho'
    obtain ⟨ii, hh, Dd⟩ := J.dice
    have e1 : aa.eval (.tmp 62) = .pointer (some ⟨b, 0, none⟩) := (hd' ⟨3, .data⟩ (by simp) rfl 62 rfl).2
    have ec : aa.eval (.const (.int .i64 (-1))) = .int .i64 (-1) := rfl
    have e2 : aa.eval (.tmp 65) = .int .i64 (Q6r) := (hd' ⟨6, .data⟩ (by simp) rfl 65 rfl).2
    have ef : aa.eval (.func 30) = .func (.func 30) #[] #[] := rfl
    refine qz19 (f := 30) (args := #[.pointer (some ⟨b, 0, none⟩), .int .i64 (-1), .int .i64 (Q6r)]) (R := fun v w' => ∃ m i' h', v = .int .i64 m /\ qz1f .i64 w' b a len cap i' h' /\ qz17 B w' a len /\ Only b V w') ?_ ((qz2a B b a len cap ii hh (-1) (Q6r) V hB hlen Dd J.bytes (by omega) (by omega) (by omega)).mono (fun e w' h => by obtain ⟨m, i', h', e1, _, _, q1, q2, q3⟩ := h; exact ⟨_, e1, m, i', h', rfl, q1, q2, q3⟩)) (fun v w' h => by obtain ⟨m, i', h', e1, q1, q2, q3⟩ := h; exact hK v w' ⟨m, e1⟩ (J.draw hbw q1 q2 q3) (fun j v' _ _ q => q))
    clear Dd J
    generalize aa.eval = ev at *
    go_simp
   | 8, ho' =>
    obtain rfl := Q6p ho'
    have e1 : aa.eval (.tmp 60) = .slice (some ⟨nb, 0, none⟩) Q6q c2 := (hd' ⟨1, .data⟩ (by simp) rfl 60 rfl).2
    have e2 : aa.eval (.tmp 61) = .int .i64 (ni : Int) := (hd' ⟨2, .data⟩ (by simp) rfl 61 rfl).2
    have hl0 : (0 : Int) <= (ni : Int) := by omega
    have hl1 : (ni : Int) < (Q6q : Int) := by omega
    refine qz1 (v := .pointer (some ⟨nb, ni * 3, none⟩)) (w' := V) ?_ (hK _ _ rfl J (fun j v' _ _ q => q))
    clear J
    generalize aa.eval = ev at *
    go_simp
   | 9, ho' =>
    obtain rfl := Q6p ho'
    have e1 : aa.eval (.tmp 67) = .pointer (some ⟨nb, ni * 3, none⟩) := (hd' ⟨8, .data⟩ (by simp) rfl 67 rfl).2
    refine qz1 (v := .pointer (some ⟨nb, ni * 3 + 2, none⟩)) (w' := V) ?_ (hK _ _ rfl J (fun j v' _ _ q => q))
    clear J
    generalize aa.eval = ev at *
    go_simp
   | n + 10, ho' => omega
  intro L vs V hLall P hG
  obtain ⟨m, gm⟩ := (show ∃ m : Int, vs 7 = .int .i64 m from hG 7 (by decide))
  have ga : vs 9 = .pointer (some ⟨nb, ni * 3 + 2, none⟩) := hG 9 (by decide)
  generalize hl : laid _ vs _ _ _ = BB
  have fA : BB.eval (.tmp 68) = .pointer (some ⟨nb, ni * 3 + 2, none⟩) := by
   rw [<- ga, <- hl]
   kernel_rfl
  have fB : BB.eval (.tmp 66) = .int .i64 m := by
   rw [<- gm, <- hl]
   kernel_rfl
  have fs : BB.tmps.size = 122 := by
   rw [<- hl]
   kernel_rfl
  have f2 : BB.tmps.getD 2 undef = .pointer (some ⟨Q6o, 0, none⟩) := by
   rw [<- hl]
   kernel_rfl
  have f3 : BB.tmps.getD 3 undef = .pointer (some ⟨(Q6o + 1), 0, none⟩) := by
   rw [<- hl]
   kernel_rfl
  have f4 : BB.tmps.getD 4 undef = .pointer (some ⟨b4, 0, none⟩) := by
   rw [<- hl]
   kernel_rfl
  have f5 : BB.tmps.getD 5 undef = .pointer (some ⟨b5, 0, none⟩) := by
   rw [<- hl]
   kernel_rfl
  have fd : BB.defers = [] := by
   rw [<- hl]
   kernel_rfl
  obtain ⟨old, cO, fO⟩ : ∃ old, V.cell? ⟨nb, ni * 3 + 2, none⟩ = some old /\ V.frozen? ⟨nb, ni * 3 + 2, none⟩ = false := by
   exact ⟨_, qz23 P.own.rn (ni * 3 + 2) _ (by have h := qzy (f := ndC) (sz := 3) (fun _ => rfl) A.nodes ni hni 2 (by decide); exact h)⟩
  have PE := P.elem (k := ni * 3 + 2) (v := .int .i64 m) hB hbw (Or.inr (Or.inr (Or.inl rfl))) rfl (A' := { A with nodes := A.nodes.set ni { A.nodes[ni] with head := m } }) (by first | exact ⟨by simpa using hs1, by simpa using hs2, by simpa using ⟨hs3, hs4⟩, by simpa using ⟨hs5, hs6⟩⟩) (P.own.nde ni hni 2 (by decide) m { A.nodes[ni] with head := m } rfl)
  clear hl hG hLall gm ga
  simp only [List.drop_succ_cons, List.drop_zero]
  refine qz2h rfl (w' := V.setCell ⟨nb, ni * 3 + 2, none⟩ (.int .i64 m)) ?he4 ?_
  case he4 =>
   clear PE P f2 f3 f4 f5 fd fs
   generalize BB.eval = ev at *
   go_simp
  refine wpList_nil ?_
  exact fin _ _ _ _ _ _ _ fs f2 f3 f4 f5 fd PE
 ·clear Db ib hb
  go_wp2
  refine qz2z 10 (by kernel_rfl) (fun V => Any2 B b Q6o (Q6o + 1) b4 b5 w V a len cap x y z u Q28 Q2r Q29 Q25 A) (hP9.drew1 hB) (fun _ i v _ => qzhp b b5 sb gb nb rb c0 c1 c2 c3 ni vi A i v) (by kernel_rfl) (by kernel_rfl) (by kernel_rfl) (by kernel_rfl) (by rfl) ?step5 ?final5
  case step5 =>
   intro i o hik ho' L aa V hLi hLk J hnn hd' K hK
   match i, ho' with
   | 0, ho' =>
    obtain rfl := Q6p ho'
    have e1 : aa.eval (.tmp 5) = .pointer (some ⟨b5, 0, none⟩) := hnn 5 rfl
    refine qz1 (v := .pointer (some ⟨b5, 4, none⟩)) (w' := V) ?_ (hK _ _ rfl J (fun j v' _ _ q => q))
    clear J
    generalize aa.eval = ev at *
    go_simp
   | 1, ho' =>
    obtain rfl := Q6p ho'
    have e1 : aa.eval (.tmp 71) = .pointer (some ⟨b5, 4, none⟩) := (hd' ⟨0, .data⟩ (by simp) rfl 71 rfl).2
    have y : V.cell? ⟨b5, 4, none⟩ = some Q25 := by simpa using J.row 4 _ rfl
    refine qz1 (v := .slice (some ⟨rb, 0, none⟩) Q6r c3) (w' := V) ?_ (hK _ _ rfl J (fun j v' _ _ q => q))
    clear J
    generalize aa.eval = ev at *
    go_simp
   | 2, ho' =>
    obtain rfl := Q6p ho'
    have e1 : aa.eval (.tmp 7) = .int .i64 (vi : Int) := hnn 7 rfl
    refine qz1 (v := .int .i64 (vi : Int)) (w' := V) ?_ (hK _ _ rfl J (fun j v' _ _ q => q))
    clear J
    generalize aa.eval = ev at *
    go_simp
   | 3, ho' =>
    obtain rfl := Q6p ho'
    have e1 : aa.eval (.tmp 0) = .pointer (some ⟨b, 0, none⟩) := hnn 0 rfl
    refine qz1 (v := .pointer (some ⟨b, 0, none⟩)) (w' := V) ?_ (hK _ _ rfl J (fun j v' _ _ q => q))
    clear J
    generalize aa.eval = ev at *
    go_simp
   | 4, ho' =>
    obtain rfl := Q6p ho'
    have e1 : aa.eval (.tmp 5) = .pointer (some ⟨b5, 0, none⟩) := hnn 5 rfl
    refine qz1 (v := .pointer (some ⟨b5, 3, none⟩)) (w' := V) ?_ (hK _ _ rfl J (fun j v' _ _ q => q))
    clear J
    generalize aa.eval = ev at *
    go_simp
   | 5, ho' =>
    obtain rfl := Q6p ho'
    have e1 : aa.eval (.tmp 75) = .pointer (some ⟨b5, 3, none⟩) := (hd' ⟨4, .data⟩ (by simp) rfl 75 rfl).2
    have y : V.cell? ⟨b5, 3, none⟩ = some Q29 := by simpa using J.row 3 _ rfl
    refine qz1 (v := .slice (some ⟨nb, 0, none⟩) Q6q c2) (w' := V) ?_ (hK _ _ rfl J (fun j v' _ _ q => q))
    clear J
    generalize aa.eval = ev at *
    go_simp
   | 6, ho' =>
    obtain rfl := Q6p ho'
    have e1 : aa.eval (.tmp 76) = .slice (some ⟨nb, 0, none⟩) Q6q c2 := (hd' ⟨5, .data⟩ (by simp) rfl 76 rfl).2
    refine qz1 (v := .int .i64 (Q6q : Int)) (w' := V) ?_ (hK _ _ rfl J (fun j v' _ _ q => q))
    clear J
    generalize aa.eval = ev at *
    go_simp
   | 7, ho' =>
    obtain rfl := Q6p ho'
    obtain ⟨ii, hh, Dd⟩ := J.dice
    have e1 : aa.eval (.tmp 74) = .pointer (some ⟨b, 0, none⟩) := (hd' ⟨3, .data⟩ (by simp) rfl 74 rfl).2
    have ec : aa.eval (.const (.int .i64 (-2))) = .int .i64 (-2) := rfl
    have e2 : aa.eval (.tmp 77) = .int .i64 (Q6q) := (hd' ⟨6, .data⟩ (by simp) rfl 77 rfl).2
    have ef : aa.eval (.func 30) = .func (.func 30) #[] #[] := rfl
    refine qz19 (f := 30) (args := #[.pointer (some ⟨b, 0, none⟩), .int .i64 (-2), .int .i64 (Q6q)]) (R := fun v w' => ∃ m i' h', v = .int .i64 m /\ qz1f .i64 w' b a len cap i' h' /\ qz17 B w' a len /\ Only b V w') ?_ ((qz2a B b a len cap ii hh (-2) (Q6q) V hB hlen Dd J.bytes (by omega) (by omega) (by omega)).mono (fun e w' h => by obtain ⟨m, i', h', e1, _, _, q1, q2, q3⟩ := h; exact ⟨_, e1, m, i', h', rfl, q1, q2, q3⟩)) (fun v w' h => by obtain ⟨m, i', h', e1, q1, q2, q3⟩ := h; exact hK v w' ⟨m, e1⟩ (J.draw hbw q1 q2 q3) (fun j v' _ _ q => q))
    clear Dd J
    generalize aa.eval = ev at *
    go_simp
   | 8, ho' =>
    obtain rfl := Q6p ho'
    have e1 : aa.eval (.tmp 72) = .slice (some ⟨rb, 0, none⟩) Q6r c3 := (hd' ⟨1, .data⟩ (by simp) rfl 72 rfl).2
    have e2 : aa.eval (.tmp 73) = .int .i64 (vi : Int) := (hd' ⟨2, .data⟩ (by simp) rfl 73 rfl).2
    have hl0 : (0 : Int) <= (vi : Int) := by omega
    have hl1 : (vi : Int) < (Q6r : Int) := by omega
    refine qz1 (v := .pointer (some ⟨rb, vi * 5, none⟩)) (w' := V) ?_ (hK _ _ rfl J (fun j v' _ _ q => q))
    clear J
    generalize aa.eval = ev at *
    go_simp
   | 9, ho' =>
    obtain rfl := Q6p ho'
    have e1 : aa.eval (.tmp 79) = .pointer (some ⟨rb, vi * 5, none⟩) := (hd' ⟨8, .data⟩ (by simp) rfl 79 rfl).2
    refine qz1 (v := .pointer (some ⟨rb, vi * 5, none⟩)) (w' := V) ?_ (hK _ _ rfl J (fun j v' _ _ q => q))
    clear J
    generalize aa.eval = ev at *
    go_simp
   | n + 10, ho' => omega
  intro L vs V hLall P hG
  obtain ⟨m, gm⟩ := (show ∃ m : Int, vs 7 = .int .i64 m from hG 7 (by decide))
  have ga : vs 9 = .pointer (some ⟨rb, vi * 5, none⟩) := hG 9 (by decide)
  generalize hl : laid _ vs _ _ _ = BB
  have fA : BB.eval (.tmp 80) = .pointer (some ⟨rb, vi * 5, none⟩) := by
   rw [<- ga, <- hl]
   kernel_rfl
  have fB : BB.eval (.tmp 78) = .int .i64 m := by
   rw [<- gm, <- hl]
   kernel_rfl
  have fs : BB.tmps.size = 122 := by
   rw [<- hl]
   kernel_rfl
  have f2 : BB.tmps.getD 2 undef = .pointer (some ⟨Q6o, 0, none⟩) := by
   rw [<- hl]
   kernel_rfl
  have f3 : BB.tmps.getD 3 undef = .pointer (some ⟨(Q6o + 1), 0, none⟩) := by
   rw [<- hl]
   kernel_rfl
  have f4 : BB.tmps.getD 4 undef = .pointer (some ⟨b4, 0, none⟩) := by
   rw [<- hl]
   kernel_rfl
  have f5 : BB.tmps.getD 5 undef = .pointer (some ⟨b5, 0, none⟩) := by
   rw [<- hl]
   kernel_rfl
  have fd : BB.defers = [] := by
   rw [<- hl]
   kernel_rfl
  obtain ⟨old, cO, fO⟩ : ∃ old, V.cell? ⟨rb, vi * 5, none⟩ = some old /\ V.frozen? ⟨rb, vi * 5, none⟩ = false := by
   exact ⟨_, qz23 P.own.rr (vi * 5 + 0) _ (by have h := qzy (f := vrC) (sz := 5) (fun _ => rfl) A.vers vi hvi 0 (by decide); exact h)⟩
  have PE := P.elem (k := vi * 5) (v := .int .i64 m) hB hbw (Or.inr (Or.inr (Or.inr rfl))) rfl (A' := { A with vers := A.vers.set vi { A.vers[vi] with next := m } }) (by first | exact ⟨by simpa using hs1, by simpa using hs2, by simpa using ⟨hs3, hs4⟩, by simpa using ⟨hs5, hs6⟩⟩) (P.own.vrs vi hvi 0 (by decide) m { A.vers[vi] with next := m } rfl)
  clear hl hG hLall gm ga
  simp only [List.drop_succ_cons, List.drop_zero]
  refine qz2h rfl (w' := V.setCell ⟨rb, vi * 5, none⟩ (.int .i64 m)) ?he5 ?_
  case he5 =>
   clear PE P f2 f3 f4 f5 fd fs
   generalize BB.eval = ev at *
   go_simp
  refine wpList_nil ?_
  exact fin _ _ _ _ _ _ _ fs f2 f3 f4 f5 fd PE
 ·clear Db ib hb
  go_wp2
  refine qz2z 10 (by kernel_rfl) (fun V => Any2 B b Q6o (Q6o + 1) b4 b5 w V a len cap x y z u Q28 Q2r Q29 Q25 A) (hP9.drew1 hB) (fun _ i v _ => qzhb b b5 sb gb nb rb c0 c1 c2 c3 ni vi A i v) (by kernel_rfl) (by kernel_rfl) (by kernel_rfl) (by kernel_rfl) (by rfl) ?step6 ?final6
  case step6 =>
   intro i o hik ho' L aa V hLi hLk J hnn hd' K hK
   match i, ho' with
   | 0, ho' =>
    obtain rfl := Q6p ho'
    have e1 : aa.eval (.tmp 5) = .pointer (some ⟨b5, 0, none⟩) := hnn 5 rfl
    refine qz1 (v := .pointer (some ⟨b5, 4, none⟩)) (w' := V) ?_ (hK _ _ rfl J (fun j v' _ _ q => q))
    clear J
    generalize aa.eval = ev at *
    go_simp
   | 1, ho' =>
    obtain rfl := Q6p ho'
    have e1 : aa.eval (.tmp 83) = .pointer (some ⟨b5, 4, none⟩) := (hd' ⟨0, .data⟩ (by simp) rfl 83 rfl).2
    have y : V.cell? ⟨b5, 4, none⟩ = some Q25 := by simpa using J.row 4 _ rfl
    refine qz1 (v := .slice (some ⟨rb, 0, none⟩) Q6r c3) (w' := V) ?_ (hK _ _ rfl J (fun j v' _ _ q => q))
    clear J
    generalize aa.eval = ev at *
    go_simp
   | 2, ho' =>
    obtain rfl := Q6p ho'
    have e1 : aa.eval (.tmp 7) = .int .i64 (vi : Int) := hnn 7 rfl
    refine qz1 (v := .int .i64 (vi : Int)) (w' := V) ?_ (hK _ _ rfl J (fun j v' _ _ q => q))
    clear J
    generalize aa.eval = ev at *
    go_simp
   | 3, ho' =>
    obtain rfl := Q6p ho'
    have e1 : aa.eval (.tmp 0) = .pointer (some ⟨b, 0, none⟩) := hnn 0 rfl
    refine qz1 (v := .pointer (some ⟨b, 0, none⟩)) (w' := V) ?_ (hK _ _ rfl J (fun j v' _ _ q => q))
    clear J
    generalize aa.eval = ev at *
    go_simp
   | 4, ho' =>
    obtain rfl := Q6p ho'
    have e1 : aa.eval (.tmp 5) = .pointer (some ⟨b5, 0, none⟩) := hnn 5 rfl
    refine qz1 (v := .pointer (some ⟨b5, 0, none⟩)) (w' := V) ?_ (hK _ _ rfl J (fun j v' _ _ q => q))
    clear J
    generalize aa.eval = ev at *
    go_simp
   | 5, ho' =>
    obtain rfl := Q6p ho'
    have e1 : aa.eval (.tmp 87) = .pointer (some ⟨b5, 0, none⟩) := (hd' ⟨4, .data⟩ (by simp) rfl 87 rfl).2
    have y : V.cell? ⟨b5, 0, none⟩ = some (.int .i64 Q6w) := by simpa using J.row 0 _ rfl
    refine qz1 (v := .int .i64 Q6w) (w' := V) ?_ (hK _ _ rfl J (fun j v' _ _ q => q))
    clear J
    generalize aa.eval = ev at *
    go_simp
   | 6, ho' =>
    obtain rfl := Q6p ho'
    have e1 : aa.eval (.tmp 88) = .int .i64 Q6w := (hd' ⟨5, .data⟩ (by simp) rfl 88 rfl).2
    have ec : aa.eval (.const (.int .i64 1)) = .int .i64 1 := rfl
    refine qz1 (v := .int .i64 (Q6w + 1)) (w' := V) ?_ (hK _ _ rfl J (fun j v' _ _ q => q))
    clear J
    generalize aa.eval = ev at *
    go_simp
    try (rw [IntKind.wrap_i64]; omega)
   | 7, ho' =>
    obtain rfl := Q6p ho'
    obtain ⟨ii, hh, Dd⟩ := J.dice
    have e1 : aa.eval (.tmp 86) = .pointer (some ⟨b, 0, none⟩) := (hd' ⟨3, .data⟩ (by simp) rfl 86 rfl).2
    have ec : aa.eval (.const (.int .i64 (-2))) = .int .i64 (-2) := rfl
    have e2 : aa.eval (.tmp 89) = .int .i64 (Q6w + 1) := (hd' ⟨6, .data⟩ (by simp) rfl 89 rfl).2
    have ef : aa.eval (.func 30) = .func (.func 30) #[] #[] := rfl
    refine qz19 (f := 30) (args := #[.pointer (some ⟨b, 0, none⟩), .int .i64 (-2), .int .i64 (Q6w + 1)]) (R := fun v w' => ∃ m i' h', v = .int .i64 m /\ qz1f .i64 w' b a len cap i' h' /\ qz17 B w' a len /\ Only b V w') ?_ ((qz2a B b a len cap ii hh (-2) (Q6w + 1) V hB hlen Dd J.bytes (by omega) (by omega) (by omega)).mono (fun e w' h => by obtain ⟨m, i', h', e1, _, _, q1, q2, q3⟩ := h; exact ⟨_, e1, m, i', h', rfl, q1, q2, q3⟩)) (fun v w' h => by obtain ⟨m, i', h', e1, q1, q2, q3⟩ := h; exact hK v w' ⟨m, e1⟩ (J.draw hbw q1 q2 q3) (fun j v' _ _ q => q))
    clear Dd J
    generalize aa.eval = ev at *
    go_simp
   | 8, ho' =>
    obtain rfl := Q6p ho'
    have e1 : aa.eval (.tmp 84) = .slice (some ⟨rb, 0, none⟩) Q6r c3 := (hd' ⟨1, .data⟩ (by simp) rfl 84 rfl).2
    have e2 : aa.eval (.tmp 85) = .int .i64 (vi : Int) := (hd' ⟨2, .data⟩ (by simp) rfl 85 rfl).2
    have hl0 : (0 : Int) <= (vi : Int) := by omega
    have hl1 : (vi : Int) < (Q6r : Int) := by omega
    refine qz1 (v := .pointer (some ⟨rb, vi * 5, none⟩)) (w' := V) ?_ (hK _ _ rfl J (fun j v' _ _ q => q))
    clear J
    generalize aa.eval = ev at *
    go_simp
   | 9, ho' =>
    obtain rfl := Q6p ho'
    have e1 : aa.eval (.tmp 91) = .pointer (some ⟨rb, vi * 5, none⟩) := (hd' ⟨8, .data⟩ (by simp) rfl 91 rfl).2
    refine qz1 (v := .pointer (some ⟨rb, vi * 5 + 2, none⟩)) (w' := V) ?_ (hK _ _ rfl J (fun j v' _ _ q => q))
    clear J
    generalize aa.eval = ev at *
    go_simp
   | n + 10, ho' => omega
  intro L vs V hLall P hG
  obtain ⟨m, gm⟩ := (show ∃ m : Int, vs 7 = .int .i64 m from hG 7 (by decide))
  have ga : vs 9 = .pointer (some ⟨rb, vi * 5 + 2, none⟩) := hG 9 (by decide)
  generalize hl : laid _ vs _ _ _ = BB
  have fA : BB.eval (.tmp 92) = .pointer (some ⟨rb, vi * 5 + 2, none⟩) := by
   rw [<- ga, <- hl]
   kernel_rfl
  have fB : BB.eval (.tmp 90) = .int .i64 m := by
   rw [<- gm, <- hl]
   kernel_rfl
  have fs : BB.tmps.size = 122 := by
   rw [<- hl]
   kernel_rfl
  have f2 : BB.tmps.getD 2 undef = .pointer (some ⟨Q6o, 0, none⟩) := by
   rw [<- hl]
   kernel_rfl
  have f3 : BB.tmps.getD 3 undef = .pointer (some ⟨(Q6o + 1), 0, none⟩) := by
   rw [<- hl]
   kernel_rfl
  have f4 : BB.tmps.getD 4 undef = .pointer (some ⟨b4, 0, none⟩) := by
   rw [<- hl]
   kernel_rfl
  have f5 : BB.tmps.getD 5 undef = .pointer (some ⟨b5, 0, none⟩) := by
   rw [<- hl]
   kernel_rfl
  have fd : BB.defers = [] := by
   rw [<- hl]
   kernel_rfl
  obtain ⟨old, cO, fO⟩ : ∃ old, V.cell? ⟨rb, vi * 5 + 2, none⟩ = some old /\ V.frozen? ⟨rb, vi * 5 + 2, none⟩ = false := by
   exact ⟨_, qz23 P.own.rr (vi * 5 + 2) _ (by have h := qzy (f := vrC) (sz := 5) (fun _ => rfl) A.vers vi hvi 2 (by decide); exact h)⟩
  have PE := P.elem (k := vi * 5 + 2) (v := .int .i64 m) hB hbw (Or.inr (Or.inr (Or.inr rfl))) rfl (A' := { A with vers := A.vers.set vi { A.vers[vi] with stamp := m } }) (by first | exact ⟨by simpa using hs1, by simpa using hs2, by simpa using ⟨hs3, hs4⟩, by simpa using ⟨hs5, hs6⟩⟩) (P.own.vrs vi hvi 2 (by decide) m { A.vers[vi] with stamp := m } rfl)
  clear hl hG hLall gm ga
  simp only [List.drop_succ_cons, List.drop_zero]
  refine qz2h rfl (w' := V.setCell ⟨rb, vi * 5 + 2, none⟩ (.int .i64 m)) ?he6 ?_
  case he6 =>
   clear PE P f2 f3 f4 f5 fd fs
   generalize BB.eval = ev at *
   go_simp
  refine wpList_nil ?_
  exact fin _ _ _ _ _ _ _ fs f2 f3 f4 f5 fd PE
 ·clear Db ib hb
  go_wp2
  refine qz2z 8 (by kernel_rfl) (fun V => Any2 B b Q6o (Q6o + 1) b4 b5 w V a len cap x y z u Q28 Q2r Q29 Q25 A) (hP9.drew1 hB) (fun _ i v _ => qzhg b b5 sb gb nb rb c0 c1 c2 c3 ni vi A i v) (by kernel_rfl) (by kernel_rfl) (by kernel_rfl) (by kernel_rfl) (by rfl) ?step7 ?final7
  case step7 =>
   intro i o hik ho' L aa V hLi hLk J hnn hd' K hK
   match i, ho' with
   | 0, ho' =>
    obtain rfl := Q6p ho'
    have e1 : aa.eval (.tmp 5) = .pointer (some ⟨b5, 0, none⟩) := hnn 5 rfl
    refine qz1 (v := .pointer (some ⟨b5, 4, none⟩)) (w' := V) ?_ (hK _ _ rfl J (fun j v' _ _ q => q))
    clear J
    generalize aa.eval = ev at *
    go_simp
   | 1, ho' =>
    obtain rfl := Q6p ho'
    have e1 : aa.eval (.tmp 95) = .pointer (some ⟨b5, 4, none⟩) := (hd' ⟨0, .data⟩ (by simp) rfl 95 rfl).2
    have y : V.cell? ⟨b5, 4, none⟩ = some Q25 := by simpa using J.row 4 _ rfl
    refine qz1 (v := .slice (some ⟨rb, 0, none⟩) Q6r c3) (w' := V) ?_ (hK _ _ rfl J (fun j v' _ _ q => q))
    clear J
    generalize aa.eval = ev at *
    go_simp
   | 2, ho' =>
    obtain rfl := Q6p ho'
    have e1 : aa.eval (.tmp 7) = .int .i64 (vi : Int) := hnn 7 rfl
    refine qz1 (v := .int .i64 (vi : Int)) (w' := V) ?_ (hK _ _ rfl J (fun j v' _ _ q => q))
    clear J
    generalize aa.eval = ev at *
    go_simp
   | 3, ho' =>
    obtain rfl := Q6p ho'
    have e1 : aa.eval (.tmp 0) = .pointer (some ⟨b, 0, none⟩) := hnn 0 rfl
    refine qz1 (v := .pointer (some ⟨b, 0, none⟩)) (w' := V) ?_ (hK _ _ rfl J (fun j v' _ _ q => q))
    clear J
    generalize aa.eval = ev at *
    go_simp
   | 4, ho' =>
    obtain rfl := Q6p ho'
    have e1 : aa.eval (.tmp 7) = .int .i64 (vi : Int) := hnn 7 rfl
    refine qz1 (v := .int .i64 (vi : Int)) (w' := V) ?_ (hK _ _ rfl J (fun j v' _ _ q => q))
    clear J
    generalize aa.eval = ev at *
    go_simp
   | 5, ho' =>
    obtain rfl := Q6p ho'
    obtain ⟨ii, hh, Dd⟩ := J.dice
    have e1 : aa.eval (.tmp 98) = .pointer (some ⟨b, 0, none⟩) := (hd' ⟨3, .data⟩ (by simp) rfl 98 rfl).2
    have ec : aa.eval (.const (.int .i64 (-2))) = .int .i64 (-2) := rfl
    have e2 : aa.eval (.tmp 99) = .int .i64 ((vi : Int)) := (hd' ⟨4, .data⟩ (by simp) rfl 99 rfl).2
    have ef : aa.eval (.func 30) = .func (.func 30) #[] #[] := rfl
    refine qz19 (f := 30) (args := #[.pointer (some ⟨b, 0, none⟩), .int .i64 (-2), .int .i64 ((vi : Int))]) (R := fun v w' => ∃ m i' h', v = .int .i64 m /\ qz1f .i64 w' b a len cap i' h' /\ qz17 B w' a len /\ Only b V w') ?_ ((qz2a B b a len cap ii hh (-2) ((vi : Int)) V hB hlen Dd J.bytes (by omega) (by omega) (by omega)).mono (fun e w' h => by obtain ⟨m, i', h', e1, _, _, q1, q2, q3⟩ := h; exact ⟨_, e1, m, i', h', rfl, q1, q2, q3⟩)) (fun v w' h => by obtain ⟨m, i', h', e1, q1, q2, q3⟩ := h; exact hK v w' ⟨m, e1⟩ (J.draw hbw q1 q2 q3) (fun j v' _ _ q => q))
    clear Dd J
    generalize aa.eval = ev at *
    go_simp
   | 6, ho' =>
    obtain rfl := Q6p ho'
    have e1 : aa.eval (.tmp 96) = .slice (some ⟨rb, 0, none⟩) Q6r c3 := (hd' ⟨1, .data⟩ (by simp) rfl 96 rfl).2
    have e2 : aa.eval (.tmp 97) = .int .i64 (vi : Int) := (hd' ⟨2, .data⟩ (by simp) rfl 97 rfl).2
    have hl0 : (0 : Int) <= (vi : Int) := by omega
    have hl1 : (vi : Int) < (Q6r : Int) := by omega
    refine qz1 (v := .pointer (some ⟨rb, vi * 5, none⟩)) (w' := V) ?_ (hK _ _ rfl J (fun j v' _ _ q => q))
    clear J
    generalize aa.eval = ev at *
    go_simp
   | 7, ho' =>
    obtain rfl := Q6p ho'
    have e1 : aa.eval (.tmp 101) = .pointer (some ⟨rb, vi * 5, none⟩) := (hd' ⟨6, .data⟩ (by simp) rfl 101 rfl).2
    refine qz1 (v := .pointer (some ⟨rb, vi * 5 + 3, none⟩)) (w' := V) ?_ (hK _ _ rfl J (fun j v' _ _ q => q))
    clear J
    generalize aa.eval = ev at *
    go_simp
   | n + 8, ho' => omega
  intro L vs V hLall P hG
  obtain ⟨m, gm⟩ := (show ∃ m : Int, vs 5 = .int .i64 m from hG 5 (by decide))
  have ga : vs 7 = .pointer (some ⟨rb, vi * 5 + 3, none⟩) := hG 7 (by decide)
  generalize hl : laid _ vs _ _ _ = BB
  have fA : BB.eval (.tmp 102) = .pointer (some ⟨rb, vi * 5 + 3, none⟩) := by
   rw [<- ga, <- hl]
   kernel_rfl
  have fB : BB.eval (.tmp 100) = .int .i64 m := by
   rw [<- gm, <- hl]
   kernel_rfl
  have fs : BB.tmps.size = 122 := by
   rw [<- hl]
   kernel_rfl
  have f2 : BB.tmps.getD 2 undef = .pointer (some ⟨Q6o, 0, none⟩) := by
   rw [<- hl]
   kernel_rfl
  have f3 : BB.tmps.getD 3 undef = .pointer (some ⟨(Q6o + 1), 0, none⟩) := by
   rw [<- hl]
   kernel_rfl
  have f4 : BB.tmps.getD 4 undef = .pointer (some ⟨b4, 0, none⟩) := by
   rw [<- hl]
   kernel_rfl
  have f5 : BB.tmps.getD 5 undef = .pointer (some ⟨b5, 0, none⟩) := by
   rw [<- hl]
   kernel_rfl
  have fd : BB.defers = [] := by
   rw [<- hl]
   kernel_rfl
  obtain ⟨old, cO, fO⟩ : ∃ old, V.cell? ⟨rb, vi * 5 + 3, none⟩ = some old /\ V.frozen? ⟨rb, vi * 5 + 3, none⟩ = false := by
   exact ⟨_, qz23 P.own.rr (vi * 5 + 3) _ (by have h := qzy (f := vrC) (sz := 5) (fun _ => rfl) A.vers vi hvi 3 (by decide); exact h)⟩
  have PE := P.elem (k := vi * 5 + 3) (v := .int .i64 m) hB hbw (Or.inr (Or.inr (Or.inr rfl))) rfl (A' := { A with vers := A.vers.set vi { A.vers[vi] with prev := m } }) (by first | exact ⟨by simpa using hs1, by simpa using hs2, by simpa using ⟨hs3, hs4⟩, by simpa using ⟨hs5, hs6⟩⟩) (P.own.vrs vi hvi 3 (by decide) m { A.vers[vi] with prev := m } rfl)
  clear hl hG hLall gm ga
  simp only [List.drop_succ_cons, List.drop_zero]
  refine qz2h rfl (w' := V.setCell ⟨rb, vi * 5 + 3, none⟩ (.int .i64 m)) ?he7 ?_
  case he7 =>
   clear PE P f2 f3 f4 f5 fd fs
   generalize BB.eval = ev at *
   go_simp
  refine wpList_nil ?_
  exact fin _ _ _ _ _ _ _ fs f2 f3 f4 f5 fd PE
 ·clear Db ib hb
  go_wp2
  refine qz2z 7 (by kernel_rfl) (fun V => Any2 B b Q6o (Q6o + 1) b4 b5 w V a len cap x y z u Q28 Q2r Q29 Q25 A) (hP9.drew1 hB) (fun _ i v _ => qzho b b5 sb gb nb rb c0 c1 c2 c3 ni vi A i v) (by kernel_rfl) (by kernel_rfl) (by kernel_rfl) (by kernel_rfl) (by rfl) ?step8 ?final8
  case step8 =>
   intro i o hik ho' L aa V hLi hLk J hnn hd' K hK
   match i, ho' with
   | 0, ho' =>
    obtain rfl := Q6p ho'
    have e1 : aa.eval (.tmp 5) = .pointer (some ⟨b5, 0, none⟩) := hnn 5 rfl
    refine qz1 (v := .pointer (some ⟨b5, 4, none⟩)) (w' := V) ?_ (hK _ _ rfl J (fun j v' _ _ q => q))
    clear J
    generalize aa.eval = ev at *
    go_simp
   | 1, ho' =>
    obtain rfl := Q6p ho'
    have e1 : aa.eval (.tmp 105) = .pointer (some ⟨b5, 4, none⟩) := (hd' ⟨0, .data⟩ (by simp) rfl 105 rfl).2
    have y : V.cell? ⟨b5, 4, none⟩ = some Q25 := by simpa using J.row 4 _ rfl
    refine qz1 (v := .slice (some ⟨rb, 0, none⟩) Q6r c3) (w' := V) ?_ (hK _ _ rfl J (fun j v' _ _ q => q))
    clear J
    generalize aa.eval = ev at *
    go_simp
   | 2, ho' =>
    obtain rfl := Q6p ho'
    have e1 : aa.eval (.tmp 7) = .int .i64 (vi : Int) := hnn 7 rfl
    refine qz1 (v := .int .i64 (vi : Int)) (w' := V) ?_ (hK _ _ rfl J (fun j v' _ _ q => q))
    clear J
    generalize aa.eval = ev at *
    go_simp
   | 3, ho' =>
    obtain rfl := Q6p ho'
    have e1 : aa.eval (.tmp 0) = .pointer (some ⟨b, 0, none⟩) := hnn 0 rfl
    refine qz1 (v := .pointer (some ⟨b, 0, none⟩)) (w' := V) ?_ (hK _ _ rfl J (fun j v' _ _ q => q))
    clear J
    generalize aa.eval = ev at *
    go_simp
   | 4, ho' =>
    obtain rfl := Q6p ho'
    obtain ⟨ii, hh, Dd⟩ := J.dice
    have e1 : aa.eval (.tmp 108) = .pointer (some ⟨b, 0, none⟩) := (hd' ⟨3, .data⟩ (by simp) rfl 108 rfl).2
    have ec : aa.eval (.const (.int .i64 (-1))) = .int .i64 (-1) := rfl
    have ec2 : aa.eval (.const (.int .i64 3)) = .int .i64 3 := rfl
    have ef : aa.eval (.func 30) = .func (.func 30) #[] #[] := rfl
    refine qz19 (f := 30) (args := #[.pointer (some ⟨b, 0, none⟩), .int .i64 (-1), .int .i64 (3)]) (R := fun v w' => ∃ m i' h', v = .int .i64 m /\ qz1f .i64 w' b a len cap i' h' /\ qz17 B w' a len /\ Only b V w') ?_ ((qz2a B b a len cap ii hh (-1) (3) V hB hlen Dd J.bytes (by omega) (by omega) (by omega)).mono (fun e w' h => by obtain ⟨m, i', h', e1, _, _, q1, q2, q3⟩ := h; exact ⟨_, e1, m, i', h', rfl, q1, q2, q3⟩)) (fun v w' h => by obtain ⟨m, i', h', e1, q1, q2, q3⟩ := h; exact hK v w' ⟨m, e1⟩ (J.draw hbw q1 q2 q3) (fun j v' _ _ q => q))
    clear Dd J
    generalize aa.eval = ev at *
    go_simp
   | 5, ho' =>
    obtain rfl := Q6p ho'
    have e1 : aa.eval (.tmp 106) = .slice (some ⟨rb, 0, none⟩) Q6r c3 := (hd' ⟨1, .data⟩ (by simp) rfl 106 rfl).2
    have e2 : aa.eval (.tmp 107) = .int .i64 (vi : Int) := (hd' ⟨2, .data⟩ (by simp) rfl 107 rfl).2
    have hl0 : (0 : Int) <= (vi : Int) := by omega
    have hl1 : (vi : Int) < (Q6r : Int) := by omega
    refine qz1 (v := .pointer (some ⟨rb, vi * 5, none⟩)) (w' := V) ?_ (hK _ _ rfl J (fun j v' _ _ q => q))
    clear J
    generalize aa.eval = ev at *
    go_simp
   | 6, ho' =>
    obtain rfl := Q6p ho'
    have e1 : aa.eval (.tmp 110) = .pointer (some ⟨rb, vi * 5, none⟩) := (hd' ⟨5, .data⟩ (by simp) rfl 110 rfl).2
    refine qz1 (v := .pointer (some ⟨rb, vi * 5 + 4, none⟩)) (w' := V) ?_ (hK _ _ rfl J (fun j v' _ _ q => q))
    clear J
    generalize aa.eval = ev at *
    go_simp
   | n + 7, ho' => omega
  intro L vs V hLall P hG
  obtain ⟨m, gm⟩ := (show ∃ m : Int, vs 4 = .int .i64 m from hG 4 (by decide))
  have ga : vs 6 = .pointer (some ⟨rb, vi * 5 + 4, none⟩) := hG 6 (by decide)
  generalize hl : laid _ vs _ _ _ = BB
  have fA : BB.eval (.tmp 111) = .pointer (some ⟨rb, vi * 5 + 4, none⟩) := by
   rw [<- ga, <- hl]
   kernel_rfl
  have fB : BB.eval (.tmp 109) = .int .i64 m := by
   rw [<- gm, <- hl]
   kernel_rfl
  have fs : BB.tmps.size = 122 := by
   rw [<- hl]
   kernel_rfl
  have f2 : BB.tmps.getD 2 undef = .pointer (some ⟨Q6o, 0, none⟩) := by
   rw [<- hl]
   kernel_rfl
  have f3 : BB.tmps.getD 3 undef = .pointer (some ⟨(Q6o + 1), 0, none⟩) := by
   rw [<- hl]
   kernel_rfl
  have f4 : BB.tmps.getD 4 undef = .pointer (some ⟨b4, 0, none⟩) := by
   rw [<- hl]
   kernel_rfl
  have f5 : BB.tmps.getD 5 undef = .pointer (some ⟨b5, 0, none⟩) := by
   rw [<- hl]
   kernel_rfl
  have fd : BB.defers = [] := by
   rw [<- hl]
   kernel_rfl
  obtain ⟨old, cO, fO⟩ : ∃ old, V.cell? ⟨rb, vi * 5 + 4, none⟩ = some old /\ V.frozen? ⟨rb, vi * 5 + 4, none⟩ = false := by
   exact ⟨_, qz23 P.own.rr (vi * 5 + 4) _ (by have h := qzy (f := vrC) (sz := 5) (fun _ => rfl) A.vers vi hvi 4 (by decide); exact h)⟩
  have PE := P.elem (k := vi * 5 + 4) (v := .int .i64 m) hB hbw (Or.inr (Or.inr (Or.inr rfl))) rfl (A' := { A with vers := A.vers.set vi { A.vers[vi] with kind := m } }) (by first | exact ⟨by simpa using hs1, by simpa using hs2, by simpa using ⟨hs3, hs4⟩, by simpa using ⟨hs5, hs6⟩⟩) (P.own.vrs vi hvi 4 (by decide) m { A.vers[vi] with kind := m } rfl)
  clear hl hG hLall gm ga
  simp only [List.drop_succ_cons, List.drop_zero]
  refine qz2h rfl (w' := V.setCell ⟨rb, vi * 5 + 4, none⟩ (.int .i64 m)) ?he8 ?_
  case he8 =>
   clear PE P f2 f3 f4 f5 fd fs
   generalize BB.eval = ev at *
   go_simp
  refine wpList_nil ?_
  exact fin _ _ _ _ _ _ _ fs f2 f3 f4 f5 fd PE
 ·clear Db ib hb
  go_wp2
  refine qz2z 5 (by kernel_rfl) (fun V => Any2 B b Q6o (Q6o + 1) b4 b5 w V a len cap x y z u Q28 Q2r Q29 Q25 A) (hP9.drew1 hB) (fun _ i v _ => qzhs b b5 sb gb nb rb c0 c1 c2 c3 ni vi A i v) (by kernel_rfl) (by kernel_rfl) (by kernel_rfl) (by kernel_rfl) (by rfl) ?step9 ?final9
  case step9 =>
   intro i o hik ho' L aa V hLi hLk J hnn hd' K hK
   match i, ho' with
   | 0, ho' =>
    obtain rfl := Q6p ho'
    have e1 : aa.eval (.tmp 5) = .pointer (some ⟨b5, 0, none⟩) := hnn 5 rfl
    refine qz1 (v := .pointer (some ⟨b5, 1, none⟩)) (w' := V) ?_ (hK _ _ rfl J (fun j v' _ _ q => q))
    clear J
    generalize aa.eval = ev at *
    go_simp
   | 1, ho' =>
    obtain rfl := Q6p ho'
    have e1 : aa.eval (.tmp 114) = .pointer (some ⟨b5, 1, none⟩) := (hd' ⟨0, .data⟩ (by simp) rfl 114 rfl).2
    have y : V.cell? ⟨b5, 1, none⟩ = some Q28 := by simpa using J.row 1 _ rfl
    refine qz1 (v := .slice (some ⟨sb, 0, none⟩) Q74 c0) (w' := V) ?_ (hK _ _ rfl J (fun j v' _ _ q => q))
    clear J
    generalize aa.eval = ev at *
    go_simp
   | 2, ho' =>
    obtain rfl := Q6p ho'
    have e1 : aa.eval (.tmp 0) = .pointer (some ⟨b, 0, none⟩) := hnn 0 rfl
    refine qz1 (v := .pointer (some ⟨b, 0, none⟩)) (w' := V) ?_ (hK _ _ rfl J (fun j v' _ _ q => q))
    clear J
    generalize aa.eval = ev at *
    go_simp
   | 3, ho' =>
    obtain rfl := Q6p ho'
    obtain ⟨ii, hh, Dd⟩ := J.dice
    have e1 : aa.eval (.tmp 116) = .pointer (some ⟨b, 0, none⟩) := (hd' ⟨2, .data⟩ (by simp) rfl 116 rfl).2
    have ec : aa.eval (.const (.int .i64 100)) = .int .i64 100 := rfl
    have ef : aa.eval (.func 66) = .func (.func 66) #[] #[] := rfl
    refine qz19 (f := 66) (args := #[.pointer (some ⟨b, 0, none⟩), .int .i64 100]) (R := fun v w' => ∃ m i' h', v = .int .i64 m /\ qz1f .i64 w' b a len cap i' h' /\ qz17 B w' a len /\ Only b V w') ?_ ((qz8i B b a len cap ii hh 100 V hB hlen Dd J.bytes (by omega) (by omega)).mono (fun e w' h => by obtain ⟨m, i', h', e1, q1, q2, q3⟩ := h; exact ⟨_, e1, m, i', h', rfl, q1, q2, q3⟩)) (fun v w' h => by obtain ⟨m, i', h', e1, q1, q2, q3⟩ := h; exact hK v w' ⟨m, e1⟩ (J.draw hbw q1 q2 q3) (fun j v' _ _ q => q))
    clear Dd J
    generalize aa.eval = ev at *
    go_simp
   | 4, ho' =>
    obtain rfl := Q6p ho'
    have e1 : aa.eval (.tmp 115) = .slice (some ⟨sb, 0, none⟩) Q74 c0 := (hd' ⟨1, .data⟩ (by simp) rfl 115 rfl).2
    have ec : aa.eval (.const (.int .i64 0)) = .int .i64 0 := rfl
    have hl1 : (0 : Int) < (Q74 : Int) := by omega
    refine qz1 (v := .pointer (some ⟨sb, 0, none⟩)) (w' := V) ?_ (hK _ _ rfl J (fun j v' _ _ q => q))
    clear J
    generalize aa.eval = ev at *
    go_simp
    all_goals (intro hx; first | (simp [hx] at hgl0; done) | (simp [hx] at hsl0; done))
   | n + 5, ho' => omega
  intro L vs V hLall P hG
  obtain ⟨m, gm⟩ := (show ∃ m : Int, vs 3 = .int .i64 m from hG 3 (by decide))
  have ga : vs 4 = .pointer (some ⟨sb, 0, none⟩) := hG 4 (by decide)
  generalize hl : laid _ vs _ _ _ = BB
  have fA : BB.eval (.tmp 118) = .pointer (some ⟨sb, 0, none⟩) := by
   rw [<- ga, <- hl]
   kernel_rfl
  have fB : BB.eval (.tmp 117) = .int .i64 m := by
   rw [<- gm, <- hl]
   kernel_rfl
  have fs : BB.tmps.size = 122 := by
   rw [<- hl]
   kernel_rfl
  have f2 : BB.tmps.getD 2 undef = .pointer (some ⟨Q6o, 0, none⟩) := by
   rw [<- hl]
   kernel_rfl
  have f3 : BB.tmps.getD 3 undef = .pointer (some ⟨(Q6o + 1), 0, none⟩) := by
   rw [<- hl]
   kernel_rfl
  have f4 : BB.tmps.getD 4 undef = .pointer (some ⟨b4, 0, none⟩) := by
   rw [<- hl]
   kernel_rfl
  have f5 : BB.tmps.getD 5 undef = .pointer (some ⟨b5, 0, none⟩) := by
   rw [<- hl]
   kernel_rfl
  have fd : BB.defers = [] := by
   rw [<- hl]
   kernel_rfl
  obtain ⟨old, cO, fO⟩ : ∃ old, V.cell? ⟨sb, 0, none⟩ = some old /\ V.frozen? ⟨sb, 0, none⟩ = false := by
   exact ⟨_, qz23 P.own.rs 0 _ (by have h := qzy (f := intC) (sz := 1) (fun _ => rfl) A.slots 0 (by omega) 0 (by decide); simpa [intC] using h)⟩
  have PE := P.elem (k := 0) (v := .int .i64 m) hB hbw (Or.inl rfl) rfl (A' := { A with slots := A.slots.set 0 m }) (by first | exact ⟨by simpa using hs1, by simpa using hs2, by simpa using ⟨hs3, hs4⟩, by simpa using ⟨hs5, hs6⟩⟩) (P.own.slot 0 (by omega) m)
  clear hl hG hLall gm ga
  simp only [List.drop_succ_cons, List.drop_zero]
  refine qz2h rfl (w' := V.setCell ⟨sb, 0, none⟩ (.int .i64 m)) ?he9 ?_
  case he9 =>
   clear PE P f2 f3 f4 f5 fd fs
   generalize BB.eval = ev at *
   go_simp
  refine wpList_nil ?_
  exact fin _ _ _ _ _ _ _ fs f2 f3 f4 f5 fd PE
end
end Go.Proofs.YthjkdnlmopafkaaGreatDoor
