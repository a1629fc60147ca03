/-
  What the law's proof goes by, part 13.
-/
import Derived.Test.YthjkdnlmopafkaaGreatDoorFnSwappedCard00
import Derived.Test.YthjkdnlmopafkaaGreatDoorFnSwappedCard05
import Derived.Test.YthjkdnlmopafkaaGreatDoorFnSwappedCard06
import Derived.Test.YthjkdnlmopafkaaGreatDoorFnSwappedCard11
namespace Go.Proofs.YthjkdnlmopafkaaGreatDoor
open Go.ChangeShapes Go.WideShapes Go.ChangeAt Go.RowKit
set_option maxRecDepth 100000
set_option maxHeartbeats 16000000
set_option linter.unusedVariables false
set_option linter.unusedSimpArgs false
set_option linter.unnecessarySimpa false
set_option linter.unusedSectionVars false
section
attribute [local go_sem ↓] Go.wp_at_zero Go.wp_at_succ
structure Cl where
 proc : Int
 code : Int
 key : Int
 value : Int
 begin : Int
 end_ : Int
 reply : Int
 out : Int
 sum : Int
 held : Int
def clC (c : Cl) : List Value := Q4v
structure Wd where
 A : Ar
 hands : List Hd
 calls : List Cl
 deeds : List Dd
 ticks : List Int
 now : Int
def Wd.size (W : Wd) : Nat := W.A.size + Q76 + Q79 + Q7c + Q7a
def wdC (x y z u cam : Int) (s g n r hs cs ds ts : Value) (now : Int) : List Value := [.int .i64 x, .int .i64 y, .int .i64 z, .int .i64 u, .int .i64 cam, s, g, n, r, hs, cs, ds, ts, .int .i64 now]
theorem qzh0 : ∀ (x : Hd), ∀ u ∈ hdC x, u.oneCell' = true := by
 intro x u hu
 have := qzk x
 rw [Array.all_eq_true'] at this
 exact this u (by simpa using hu)
theorem qzb8 : ∀ (x : Cl), ∀ u ∈ clC x, u.oneCell' = true := by
 intro x u hu
 simp only [clC, List.mem_cons, List.not_mem_nil, or_false] at hu
 rcases hu with rfl | rfl | rfl | rfl | rfl | rfl | rfl | rfl | rfl | rfl <;> rfl
theorem qzfc : ∀ (x : Dd), ∀ u ∈ ddC x, u.oneCell' = true := by
 intro x u hu
 simp only [ddC, List.mem_cons, List.not_mem_nil, or_false] at hu
 rcases hu with rfl | rfl | rfl | rfl | rfl <;> rfl
theorem qzeh : (Tryz.prog.info? 56).map (fun i => (i.zero, i.size, i.bytes)) = some (some (.agg Q00), 22, 176) := by kernel_rfl
theorem qz6g : (Tryz.prog.info? 163).map (fun i => (i.zero, i.size, i.bytes)) = some (some (.agg #[.int .i64 0, .int .i64 0, .int .i64 0, .int .i64 0, .int .i64 0, .int .i64 0, .int .i64 0, .int .i64 0, .int .i64 0, .int .i64 0]), 10, 80) := by kernel_rfl
theorem qzb9 : (Tryz.prog.info? 58).map (fun i => (i.zero, i.size, i.bytes)) = some (some (.agg Q2f), 5, 40) := by kernel_rfl
theorem qzg1 : (Tryz.prog.info? 2).map (fun i => (i.zero, i.size, i.bytes)) = some (some (.int .i64 0), 1, 8) := by kernel_rfl
theorem qzn : (Tryz.prog.info? 50).map (fun i => i.size) = some 14 := by kernel_rfl
theorem qz92 : (Tryz.prog.info? 25).map (fun i => i.size) = some 4 := by kernel_rfl
structure WdIs (B : Nat) (w : World) (s g n r hs cs ds ts : Value) (W : Wd) : Prop where
 ar : qz1j B w s g n r W.A
 h : qzu B w hs Q76 (qz8 hdC W.hands)
 c : qzu B w cs Q79 (qz8 clC W.calls)
 d : qzu B w ds Q7c (qz8 ddC W.deeds)
 t : qzu B w ts Q7a (qz8 intC W.ticks)
theorem WdIs.below {B : Nat} {w w' : World} {s g n r hs cs ds ts : Value} {W : Wd} (I : WdIs B w s g n r hs cs ds ts W) (hb : Below B w w') : WdIs B w' s g n r hs cs ds ts W :=
 ⟨I.ar.below hb, I.h.below hb, I.c.below hb, I.d.below hb, I.t.below hb⟩
structure qza9 (base : Nat) (w : World) (s g n r hs cs ds ts : Value) (W : Wd) : Prop where
 ar : qz1t base w s g n r W.A
 h : w.ownsRow base 56 22 hs Q76 (qz8 hdC W.hands)
 c : w.ownsRow base 163 10 cs Q79 (qz8 clC W.calls)
 d : w.ownsRow base 58 5 ds Q7c (qz8 ddC W.deeds)
 t : w.ownsRow base 2 1 ts Q7a (qz8 intC W.ticks)
theorem qza9.is {base : Nat} {w : World} {s g n r hs cs ds ts : Value} {W : Wd} (O : qza9 base w s g n r hs cs ds ts W) : WdIs Q6o w s g n r hs cs ds ts W :=
 ⟨O.ar.is, qz2t O.h, qz2t O.c, qz2t O.d, qz2t O.t⟩
theorem qza9.lo {base base' : Nat} {w : World} {s g n r hs cs ds ts : Value} {W : Wd} (O : qza9 base w s g n r hs cs ds ts W) (hb : base' <= base) : qza9 base' w s g n r hs cs ds ts W :=
 ⟨O.ar.lo hb, qz26 O.h hb, qz26 O.c hb, qz26 O.d hb, qz26 O.t hb⟩
theorem qza9.only {base b : Nat} {w w' : World} {s g n r hs cs ds ts : Value} {W : Wd} (O : qza9 base w s g n r hs cs ds ts W) (hb : Only b w w') (hl : b < base) : qza9 base w' s g n r hs cs ds ts W :=
 ⟨O.ar.only hb hl, qzm O.h hb (fun j e => by have := qz1g O.h e; omega), qzm O.c hb (fun j e => by have := qz1g O.c e; omega), qzm O.d hb (fun j e => by have := qz1g O.d e; omega), qzm O.t hb (fun j e => by have := qz1g O.t e; omega)⟩
theorem qz5f {P : Program} (w : World) (base : Nat) (t ty e : TypeId) (i : TypeInfo) (z : Value) (size bytes : Nat) (ht : P.underlying t = some (.slice e)) (hi : P.info? e = some i) (hz : i.zero = some z)
  (hsize : i.size = size) (hby : i.bytes = bytes) (hzs : z.cells.size = size) (hsz : 0 < size) (g : Nat) (hown : w.ownsRow base e size Q48 0 [])
  (B : Nat) (x : Value) (len : Nat) (cs : List Value) (S : qzu B w x len cs) (hl : cs.length = len * size) (h1 : ∀ u ∈ cs, u.oneCell' = true) (h63 : len <= maxLen) (hbytes : len * bytes <= 140737488355328) (hbase : base <= Q6o) :
  ∃ v' w', (Builtin.append_ #[t, t] ty #[.slice (some ⟨g, 0, none⟩) 0 0, x]).run P w = .ok v' w' /\ w'.ownsRow base e size v' len cs /\ Below Q6o w w' := by
 rcases Nat.eq_zero_or_pos len with h0 | hp
 ·subst h0
  have hc : cs = [] := List.eq_nil_of_length_eq_zero (by simpa using hl)
  subst hc
  obtain ⟨a, cap, rfl, _⟩ := S
  have hs : Src P i.size t (.slice a 0 cap) 0 [] w := by
   cases a with
   | none => exact Src.ofNil w ht cap
   | some ad => exact Src.ofSlice w ht ad 0 cap [] (by simp) (fun j u h => by cases h) (fun u h => by cases h)
  have hr := run_append_room_src (P := P) w t t ty e i ht hi g 0 0 0 (.slice a 0 cap) 0 [] hs (by omega) (by simp) (by simp)
  exact ⟨_, _, hr, hown, Q6s _ _⟩
 ·obtain ⟨cap, w', hrun, how, hbl, _⟩ := qz5g (P := P) w base t ty e i z size bytes ht hi hz hsize hby hzs hsz g B x len cs S hp hl h1 h63 hbytes hbase
  exact ⟨_, w', hrun, how, hbl⟩
def qzfr (b bs : Nat) (x y z u : Int) (W : Wd) (a0 a1 a2 a3 a4 a5 a6 a7 : Option Addr) (c0 c1 c2 c3 c4 c5 c6 c7 : Nat) : Nat -> Value -> World -> Prop
 | 0, v, _ => v = .pointer (some ⟨b, 0, none⟩)
 | 1, v, _ => v = .agg Q06
 | 2, v, _ => v = .pointer (some ⟨b, 4, none⟩)
 | 3, v, _ => v = .agg Q1f
 | 4, v, w => ∃ s g n r, v = .agg Q59 /\ qz1t bs w s g n r W.A
 | 5, v, w => ∃ g, v = .slice (some ⟨g, 0, none⟩) 0 0 /\ w.ownsRow bs 56 22 Q48 0 []
 | 6, v, _ => v = .pointer (some ⟨b, 9, none⟩)
 | 7, v, _ => v = .slice a4 Q76 c4
 | 8, v, w => w.ownsRow bs 56 22 v Q76 (qz8 hdC W.hands)
 | 9, v, w => ∃ g, v = .slice (some ⟨g, 0, none⟩) 0 0 /\ w.ownsRow bs 163 10 Q48 0 []
 | 10, v, _ => v = .pointer (some ⟨b, 10, none⟩)
 | 11, v, _ => v = .slice a5 Q79 c5
 | 12, v, w => w.ownsRow bs 163 10 v Q79 (qz8 clC W.calls)
 | 13, v, w => ∃ g, v = .slice (some ⟨g, 0, none⟩) 0 0 /\ w.ownsRow bs 58 5 Q48 0 []
 | 14, v, _ => v = .pointer (some ⟨b, 11, none⟩)
 | 15, v, _ => v = .slice a6 Q7c c6
 | 16, v, w => w.ownsRow bs 58 5 v Q7c (qz8 ddC W.deeds)
 | 17, v, _ => v = .pointer (some ⟨b, 12, none⟩)
 | 18, v, _ => v = .slice a7 Q7a c7
 | 19, v, w => w.ownsRow bs 2 1 v Q7a (qz8 intC W.ticks)
 | 20, v, _ => v = .pointer (some ⟨b, 13, none⟩)
 | 21, v, _ => v = .int .i64 W.now
 | _, _, _ => True
theorem qzcd {b bs : Nat} {x y z u : Int} {W : Wd} {a0 a1 a2 a3 a4 a5 a6 a7 : Option Addr} {c0 c1 c2 c3 c4 c5 c6 c7 : Nat} (i : Nat) (v : Value) (w w' : World) (h : qzfr b bs x y z u W a0 a1 a2 a3 a4 a5 a6 a7 c0 c1 c2 c3 c4 c5 c6 c7 i v w) (hb : Below Q6o w w') : qzfr b bs x y z u W a0 a1 a2 a3 a4 a5 a6 a7 c0 c1 c2 c3 c4 c5 c6 c7 i v w' := by
 match i, h with
 | 0, h => exact h
 | 1, h => exact h
 | 2, h => exact h
 | 3, h => exact h
 | 4, h => obtain ⟨s, g, n, r, e, O⟩ := h; exact ⟨s, g, n, r, e, O.below hb⟩
 | 5, h => obtain ⟨g, e, O⟩ := h; exact ⟨g, e, qz1o O hb⟩
 | 6, h => exact h
 | 7, h => exact h
 | 8, h => exact qz1o h hb
 | 9, h => obtain ⟨g, e, O⟩ := h; exact ⟨g, e, qz1o O hb⟩
 | 10, h => exact h
 | 11, h => exact h
 | 12, h => exact qz1o h hb
 | 13, h => obtain ⟨g, e, O⟩ := h; exact ⟨g, e, qz1o O hb⟩
 | 14, h => exact h
 | 15, h => exact h
 | 16, h => exact qz1o h hb
 | 17, h => exact h
 | 18, h => exact h
 | 19, h => exact qz1o h hb
 | 20, h => exact h
 | 21, h => exact h
 | i + 22, h => exact trivial
theorem qzf9 {w : World} {b : Nat} {v0 v1 v2 v3 v4 v5 v6 v7 v8 v9 v10 v11 v12 v13 : Value} (R : w.rangeAt b 0 [v0, v1, v2, v3, v4, v5, v6, v7, v8, v9, v10, v11, v12, v13]) :
  w.cell? ⟨b, 0, none⟩ = some v0 /\ w.cell? ⟨b, 1, none⟩ = some v1 /\ w.cell? ⟨b, 2, none⟩ = some v2 /\ w.cell? ⟨b, 3, none⟩ = some v3 /\ w.cell? ⟨b, 4, none⟩ = some v4 /\ w.cell? ⟨b, 5, none⟩ = some v5 /\ w.cell? ⟨b, 6, none⟩ = some v6 /\ w.cell? ⟨b, 7, none⟩ = some v7 /\ w.cell? ⟨b, 8, none⟩ = some v8 /\ w.cell? ⟨b, 9, none⟩ = some v9 /\ w.cell? ⟨b, 10, none⟩ = some v10 /\ w.cell? ⟨b, 11, none⟩ = some v11 /\ w.cell? ⟨b, 12, none⟩ = some v12 /\ w.cell? ⟨b, 13, none⟩ = some v13 :=
 ⟨by simpa using R 0 v0 rfl, by simpa using R 1 v1 rfl, by simpa using R 2 v2 rfl, by simpa using R 3 v3 rfl, by simpa using R 4 v4 rfl, by simpa using R 5 v5 rfl, by simpa using R 6 v6 rfl, by simpa using R 7 v7 rfl, by simpa using R 8 v8 rfl, by simpa using R 9 v9 rfl, by simpa using R 10 v10 rfl, by simpa using R 11 v11 rfl, by simpa using R 12 v12 rfl, by simpa using R 13 v13 rfl⟩
theorem qz7p (B : Nat) (x y z u : Int) (W : Wd) (a0 a1 a2 a3 a4 a5 a6 a7 : Option Addr) (c0 c1 c2 c3 c4 c5 c6 c7 : Nat) (w : World) (hB : B <= Q6o) (hW : W.size <= 1048576) (I : WdIs B w Q4l Q4j Q4k Q4n Q6k Q66 Q65 Q63 W) (hs : 0 < W.A.slots.length) (hg : 0 < W.A.guides.length) (hn : 0 < W.A.nodes.length) (hr : 0 < W.A.vers.length) :
  Calls Tryz.prog 60 #[.agg Q0d] w fun e w' => ∃ s g n r hs cs ds ts, e = .returned (.agg (Q4h).toArray) /\ qza9 Q6o w' s g n r hs cs ds ts W /\ Below Q6o w w' := by
 have hA : W.A.size <= 1048576 := by unfold Wd.size at hW; omega
 unfold Wd.size at hW
 have X0 := Q7b (qz6 w Q32 50) (.cells Q04 50)
 have F0 := qzg (w.alloc (.cells Q0d 50)) Q04 50 14 (by decide)
 have K0 := ((Q6s Q6o w).alloc (Q6v _) (.cells Q0d 50)).alloc (by simp) (.cells Q04 50)
 have hz0 : Q6o + 1 < ((w.alloc (.cells Q0d 50)).alloc (.cells Q04 50)).heap.size := by simp
 simp only [World.size_alloc] at F0
 have I0 := I.below (K0.mono hB)
 go_enter Tryz.func60, Tryz.ntmps60
 go_wp2_with fail
 generalize hw0 : (w.alloc (.cells Q0d 50)).alloc (.cells Q04 50) = w0 at *
 clear hw0 I
 refine qz2o 22 (by kernel_rfl) (qzfr Q6o (Q6o + 2) x y z u W a0 a1 a2 a3 a4 a5 a6 a7 c0 c1 c2 c3 c4 c5 c6 c7) (fun _ => false) (by kernel_rfl) (by kernel_rfl) (by kernel_rfl) (by kernel_rfl) (by rfl) (fun i v w w' _ h hb => qzcd i v w w' h hb) (fun i v w q hf h hq => by cases hf) ?step ?final
 case step =>
  intro i o hik ho a V hb hnn hd K hK
  have XV := qz0 X0 hb (by omega)
  obtain ⟨x0, x1, x2, x3, x4, x5, x6, x7, x8, x9, x10, x11, x12, x13⟩ := qzf9 XV
  have IV := I0.below (hb.mono (by omega))
  have hzV := hb.size
  match i, ho with
  | 0, ho =>
   obtain rfl := Q6p ho
   have e1 : a.eval (.tmp 1) = .pointer (some ⟨Q6o, 0, none⟩) := hnn 1 rfl
   refine qz1 (v := .pointer (some ⟨Q6o, 0, none⟩)) (w' := V) ?_ (hK _ _ rfl (Q6s _ _) (fun h => by cases h))
   generalize a.eval = ev at *
   go_simp
  | 1, ho =>
   obtain rfl := Q6p ho
   exact qz1s 25 (.tmp 3) rfl Q6o 0 (hd ⟨0, .data⟩ (by simp) rfl 3 rfl) Q0n _ (fun j v hv => XV j v (by match j, hv with | 0, h => exact h | 1, h => exact h | 2, h => exact h | 3, h => exact h)) Tryz.underlying25 rfl qz92 (hK _ _ rfl (Q6s _ _) (fun h => by cases h))
  | 2, ho =>
   obtain rfl := Q6p ho
   have e1 : a.eval (.tmp 1) = .pointer (some ⟨Q6o, 0, none⟩) := hnn 1 rfl
   refine qz1 (v := .pointer (some ⟨Q6o, 4, none⟩)) (w' := V) ?_ (hK _ _ rfl (Q6s _ _) (fun h => by cases h))
   generalize a.eval = ev at *
   go_simp
  | 3, ho =>
   obtain rfl := Q6p ho
   exact qz1s 30 (.tmp 5) rfl Q6o 4 (hd ⟨2, .data⟩ (by simp) rfl 5 rfl) Q1c _ (fun j v hv => by match j, hv with | 0, h => exact XV 4 v h | 1, h => exact XV 5 v h | 2, h => exact XV 6 v h | 3, h => exact XV 7 v h | 4, h => exact XV 8 v h) Q7g rfl qz1n (hK _ _ rfl (Q6s _ _) (fun h => by cases h))
  | 4, ho =>
   obtain rfl := Q6p ho
   have e1 : a.eval (.tmp 6) = .agg Q1f := hd ⟨3, .data⟩ (by simp) rfl 6 rfl
   have ef : a.eval (.func 39) = .func (.func 39) #[] #[] := rfl
   refine qz19 (f := 39) (args := #[.agg Q1f]) (R := fun v w' => (∃ s g n r, v = .agg Q59 /\ qz1t V.heap.size w' s g n r W.A) /\ Below V.heap.size V w') ?_ ((qz5p B W.A a0 a1 a2 a3 c0 c1 c2 c3 V (by omega) hA IV.ar hs hg hn hr).mono (fun e w' h => by obtain ⟨s, g, n, r, e, O, K⟩ := h; exact ⟨_, e, ⟨s, g, n, r, rfl, O⟩, K⟩)) (fun v w' h => hK v w' (by obtain ⟨⟨s, g, n, r, e, O⟩, _⟩ := h; exact ⟨s, g, n, r, e, O.lo (by omega)⟩) h.2 (fun h => by cases h))
   generalize a.eval = ev at *
   go_simp
  | 5, ho =>
   obtain rfl := Q6p ho
   have O0 := World.ownsRow_lit (base := V.heap.size) (e := 56) (size := 22) V #[] 0 (by simp) (by decide) (by simp)
   refine qz1 (v := .slice (some ⟨V.heap.size, 0, none⟩) 0 0) (w' := V.alloc (.cells #[] 56)) ?_ (hK _ _ ⟨_, rfl, qz26 O0 (by omega)⟩ ((Q6s _ _).alloc (Q6v _) _) (fun h => by cases h))
   generalize a.eval = ev at *
   go_simp
  | 6, ho =>
   obtain rfl := Q6p ho
   have e1 : a.eval (.tmp 1) = .pointer (some ⟨Q6o, 0, none⟩) := hnn 1 rfl
   refine qz1 (v := .pointer (some ⟨Q6o, 9, none⟩)) (w' := V) ?_ (hK _ _ rfl (Q6s _ _) (fun h => by cases h))
   generalize a.eval = ev at *
   go_simp
  | 7, ho =>
   obtain rfl := Q6p ho
   have e1 : a.eval (.tmp 9) = .pointer (some ⟨Q6o, 9, none⟩) := hd ⟨6, .data⟩ (by simp) rfl 9 rfl
   refine qz1 (v := .slice a4 Q76 c4) (w' := V) ?_ (hK _ _ rfl (Q6s _ _) (fun h => by cases h))
   generalize a.eval = ev at *
   go_simp
  | 8, ho =>
   obtain rfl := Q6p ho
   obtain ⟨g, e1, Og⟩ := (show ∃ g, a.eval (.tmp 8) = .slice (some ⟨g, 0, none⟩) 0 0 /\ V.ownsRow (Q6o + 2) 56 22 Q48 0 [] from hd ⟨5, .data⟩ (by simp) rfl 8 rfl)
   have e2 : a.eval (.tmp 10) = .slice a4 Q76 c4 := hd ⟨7, .data⟩ (by simp) rfl 10 rfl
   obtain ⟨i0, hi, hzr, hsz, hby⟩ := info_parts qzeh
   obtain ⟨v', w', hrun, how, hbl⟩ := qz5f (P := Tryz.prog) V (w.heap.size + 2) 46 46 56 i0 _ 22 176 Tryz.underlying46 hi hzr hsz hby rfl (by decide) g Og B _ W.hands.length (qz8 hdC W.hands) IV.h (by rw [qzz (sz := 22) (fun _ => rfl)]) (qz3m qzh0 W.hands) (by unfold maxLen; omega) (by omega) (by omega)
   refine qz1 (v := v') (w' := w') ?_ (hK _ _ how hbl (fun h => by cases h))
   generalize a.eval = ev at *
   simp [execOp, resolve, invoke, builtin, e1, e2, hrun, Result.andThen]
  | 9, ho =>
   obtain rfl := Q6p ho
   have O0 := World.ownsRow_lit (base := V.heap.size) (e := 163) (size := 10) V #[] 0 (by simp) (by decide) (by simp)
   refine qz1 (v := .slice (some ⟨V.heap.size, 0, none⟩) 0 0) (w' := V.alloc (.cells #[] 163)) ?_ (hK _ _ ⟨_, rfl, qz26 O0 (by omega)⟩ ((Q6s _ _).alloc (Q6v _) _) (fun h => by cases h))
   generalize a.eval = ev at *
   go_simp
  | 10, ho =>
   obtain rfl := Q6p ho
   have e1 : a.eval (.tmp 1) = .pointer (some ⟨Q6o, 0, none⟩) := hnn 1 rfl
   refine qz1 (v := .pointer (some ⟨Q6o, 10, none⟩)) (w' := V) ?_ (hK _ _ rfl (Q6s _ _) (fun h => by cases h))
   generalize a.eval = ev at *
   go_simp
  | 11, ho =>
   obtain rfl := Q6p ho
   have e1 : a.eval (.tmp 13) = .pointer (some ⟨Q6o, 10, none⟩) := hd ⟨10, .data⟩ (by simp) rfl 13 rfl
   refine qz1 (v := .slice a5 Q79 c5) (w' := V) ?_ (hK _ _ rfl (Q6s _ _) (fun h => by cases h))
   generalize a.eval = ev at *
   go_simp
  | 12, ho =>
   obtain rfl := Q6p ho
   obtain ⟨g, e1, Og⟩ := (show ∃ g, a.eval (.tmp 12) = .slice (some ⟨g, 0, none⟩) 0 0 /\ V.ownsRow (Q6o + 2) 163 10 Q48 0 [] from hd ⟨9, .data⟩ (by simp) rfl 12 rfl)
   have e2 : a.eval (.tmp 14) = .slice a5 Q79 c5 := hd ⟨11, .data⟩ (by simp) rfl 14 rfl
   obtain ⟨i0, hi, hzr, hsz, hby⟩ := info_parts qz6g
   obtain ⟨v', w', hrun, how, hbl⟩ := qz5f (P := Tryz.prog) V (w.heap.size + 2) 47 47 163 i0 _ 10 80 Tryz.underlying47 hi hzr hsz hby rfl (by decide) g Og B _ W.calls.length (qz8 clC W.calls) IV.c (by rw [qzz (sz := 10) (fun _ => rfl)]) (qz3m qzb8 W.calls) (by unfold maxLen; omega) (by omega) (by omega)
   refine qz1 (v := v') (w' := w') ?_ (hK _ _ how hbl (fun h => by cases h))
   generalize a.eval = ev at *
   simp [execOp, resolve, invoke, builtin, e1, e2, hrun, Result.andThen]
  | 13, ho =>
   obtain rfl := Q6p ho
   have O0 := World.ownsRow_lit (base := V.heap.size) (e := 58) (size := 5) V #[] 0 (by simp) (by decide) (by simp)
   refine qz1 (v := .slice (some ⟨V.heap.size, 0, none⟩) 0 0) (w' := V.alloc (.cells #[] 58)) ?_ (hK _ _ ⟨_, rfl, qz26 O0 (by omega)⟩ ((Q6s _ _).alloc (Q6v _) _) (fun h => by cases h))
   generalize a.eval = ev at *
   go_simp
  | 14, ho =>
   obtain rfl := Q6p ho
   have e1 : a.eval (.tmp 1) = .pointer (some ⟨Q6o, 0, none⟩) := hnn 1 rfl
   refine qz1 (v := .pointer (some ⟨Q6o, 11, none⟩)) (w' := V) ?_ (hK _ _ rfl (Q6s _ _) (fun h => by cases h))
   generalize a.eval = ev at *
   go_simp
  | 15, ho =>
   obtain rfl := Q6p ho
   have e1 : a.eval (.tmp 17) = .pointer (some ⟨Q6o, 11, none⟩) := hd ⟨14, .data⟩ (by simp) rfl 17 rfl
   refine qz1 (v := .slice a6 Q7c c6) (w' := V) ?_ (hK _ _ rfl (Q6s _ _) (fun h => by cases h))
   generalize a.eval = ev at *
   go_simp
  | 16, ho =>
   obtain rfl := Q6p ho
   obtain ⟨g, e1, Og⟩ := (show ∃ g, a.eval (.tmp 16) = .slice (some ⟨g, 0, none⟩) 0 0 /\ V.ownsRow (Q6o + 2) 58 5 Q48 0 [] from hd ⟨13, .data⟩ (by simp) rfl 16 rfl)
   have e2 : a.eval (.tmp 18) = .slice a6 Q7c c6 := hd ⟨15, .data⟩ (by simp) rfl 18 rfl
   obtain ⟨i0, hi, hzr, hsz, hby⟩ := info_parts qzb9
   obtain ⟨v', w', hrun, how, hbl⟩ := qz5f (P := Tryz.prog) V (w.heap.size + 2) 48 48 58 i0 _ 5 40 Tryz.underlying48 hi hzr hsz hby rfl (by decide) g Og B _ W.deeds.length (qz8 ddC W.deeds) IV.d (by rw [qzz (sz := 5) (fun _ => rfl)]) (qz3m qzfc W.deeds) (by unfold maxLen; omega) (by omega) (by omega)
   refine qz1 (v := v') (w' := w') ?_ (hK _ _ how hbl (fun h => by cases h))
   generalize a.eval = ev at *
   simp [execOp, resolve, invoke, builtin, e1, e2, hrun, Result.andThen]
  | 17, ho =>
   obtain rfl := Q6p ho
   have e1 : a.eval (.tmp 1) = .pointer (some ⟨Q6o, 0, none⟩) := hnn 1 rfl
   refine qz1 (v := .pointer (some ⟨Q6o, 12, none⟩)) (w' := V) ?_ (hK _ _ rfl (Q6s _ _) (fun h => by cases h))
   generalize a.eval = ev at *
   go_simp
  | 18, ho =>
   obtain rfl := Q6p ho
   have e1 : a.eval (.tmp 20) = .pointer (some ⟨Q6o, 12, none⟩) := hd ⟨17, .data⟩ (by simp) rfl 20 rfl
   refine qz1 (v := .slice a7 Q7a c7) (w' := V) ?_ (hK _ _ rfl (Q6s _ _) (fun h => by cases h))
   generalize a.eval = ev at *
   go_simp
  | 19, ho =>
   obtain rfl := Q6p ho
   have e1 : a.eval (.tmp 21) = .slice a7 Q7a c7 := hd ⟨18, .data⟩ (by simp) rfl 21 rfl
   have ef : a.eval (.func 80) = .func (.func 80) #[] #[] := rfl
   refine qz19 (f := 80) (args := #[.slice a7 Q7a c7]) (R := fun v w' => w'.ownsRow V.heap.size 2 1 v Q7a (qz8 intC W.ticks) /\ Below V.heap.size V w') ?_ ((qz6y B _ W.ticks V (by omega) (by omega) IV.t).mono (fun e w' h => h)) (fun v w' h => hK v w' (qz26 h.1 (by omega)) h.2 (fun h => by cases h))
   generalize a.eval = ev at *
   go_simp
  | 20, ho =>
   obtain rfl := Q6p ho
   have e1 : a.eval (.tmp 1) = .pointer (some ⟨Q6o, 0, none⟩) := hnn 1 rfl
   refine qz1 (v := .pointer (some ⟨Q6o, 13, none⟩)) (w' := V) ?_ (hK _ _ rfl (Q6s _ _) (fun h => by cases h))
   generalize a.eval = ev at *
   go_simp
  | 21, ho =>
   obtain rfl := Q6p ho
   have e1 : a.eval (.tmp 23) = .pointer (some ⟨Q6o, 13, none⟩) := hd ⟨20, .data⟩ (by simp) rfl 23 rfl
   refine qz1 (v := .int .i64 W.now) (w' := V) ?_ (hK _ _ rfl (Q6s _ _) (fun h => by cases h))
   generalize a.eval = ev at *
   go_simp
  | n + 22, ho => omega
 case final =>
  intro vs V hb hG hD
  have g1 : vs 1 = .agg Q06 := hG 1 (by decide)
  obtain ⟨s, g, n, r, g4, O4⟩ := (show ∃ s g n r, vs 4 = .agg Q59 /\ qz1t (Q6o + 2) V s g n r W.A from hG 4 (by decide))
  have g8 : V.ownsRow (Q6o + 2) 56 22 (vs 8) Q76 (qz8 hdC W.hands) := hG 8 (by decide)
  have g12 : V.ownsRow (Q6o + 2) 163 10 (vs 12) Q79 (qz8 clC W.calls) := hG 12 (by decide)
  have g16 : V.ownsRow (Q6o + 2) 58 5 (vs 16) Q7c (qz8 ddC W.deeds) := hG 16 (by decide)
  have g19 : V.ownsRow (Q6o + 2) 2 1 (vs 19) Q7a (qz8 intC W.ticks) := hG 19 (by decide)
  have g21 : vs 21 = .int .i64 W.now := hG 21 (by decide)
  have OW : qza9 (Q6o + 2) V s g n r (vs 8) (vs 12) (vs 16) (vs 19) W := ⟨O4, g8, g12, g16, g19⟩
  have FW := qz5 F0 hb (by omega)
  have KW := K0.trans (hb.mono (by omega))
  generalize hl : laid _ vs _ _ _ = A'
  have hA' : A' = { tmps := #[.agg Q0d, .pointer (some ⟨Q6o, 0, none⟩), .pointer (some ⟨Q6o + 1, 0, none⟩), vs 0, vs 1, vs 2, vs 3, vs 4, vs 5, vs 6, vs 7, vs 8, vs 9, vs 10, vs 11, vs 12, vs 13, vs 14, vs 15, vs 16, vs 17, vs 18, vs 19, vs 20, vs 21, undef], defers := [] } := by
   rw [<- hl]
   kernel_rfl
  subst hA'
  rw [g1, g4, g21]
  obtain ⟨sa, sc, es⟩ := qzf O4.rs
  obtain ⟨ga, gc, eg⟩ := qzf O4.rg
  obtain ⟨na, nc, en⟩ := qzf O4.rn
  obtain ⟨ra, rc, er⟩ := qzf O4.rr
  obtain ⟨ha, hc, eh⟩ := qzf g8
  obtain ⟨ca, cc, ec⟩ := qzf g12
  obtain ⟨da, dc, ed⟩ := qzf g16
  obtain ⟨ta, tc, et⟩ := qzf g19
  rw [es, eg, en, er, eh, ec, ed, et] at OW
  rw [es, eg, en, er, eh, ec, ed, et]
  clear hl hG hD g1 g4 g8 g12 g16 g19 g21 O4 es eg en er eh ec ed et X0 F0 I0 K0
  have OF : qza9 Q6o (V.setCells (Q6o + 1) 0 Q21) (.slice sa W.A.slots.length sc) (.slice ga W.A.guides.length gc) (.slice na W.A.nodes.length nc) (.slice ra W.A.vers.length rc) (.slice ha Q76 hc) Q2y Q37 Q33 W := (OW.only (qze (Q6o + 1) _ 0 V) (by omega)).lo (by omega)
  have KF := Below.setCells (B := Q6o) (b := Q6o + 1) (by omega) Q21 0 _ KW
  go_wp2_with (refine Q6t rfl 50 (.tmp 2) (.tmp 25) rfl (Q6o + 1) 0 Q31 ?hx ?hy ?ht ?hi ?h1 ?_)
  case hx => rfl
  case hy => rfl
  case ht => exact FW
  case hi => exact qzn
  case h1 => simp [Value.oneCell']
  refine bodyPost_ret (v := .agg Q31) ?_ rfl ⟨_, _, _, _, _, _, _, _, rfl, OF, KF⟩
  exact qz3 Tryz.results60 _ _ (Q6o + 1) 0 rfl Q21 _ (Q6u _ _ _ _ FW) Q7e rfl qzn
end
end Go.Proofs.YthjkdnlmopafkaaGreatDoor
