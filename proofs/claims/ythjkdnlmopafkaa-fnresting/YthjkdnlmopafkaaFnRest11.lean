/-
  What the law's proof goes by, part 12.
-/
import Derived.Test.YthjkdnlmopafkaaFnRest00
import Derived.Test.YthjkdnlmopafkaaFnRest04
import Derived.Test.YthjkdnlmopafkaaFnRest10
namespace Go.Proofs.Ythjkdnlmopafkaa
open Go.ChangeShapes Go.WideShapes Go.ChangeAt Go.RowKit
set_option maxRecDepth 100000
set_option maxHeartbeats 16000000
set_option linter.unusedVariables false
set_option linter.unusedSimpArgs false
set_option linter.unnecessarySimpa false
set_option linter.unusedSectionVars false
section
attribute [local go_sem ↓] Go.wp_at_zero Go.wp_at_succ
structure Cl where
 proc : Int
 code : Int
 key : Int
 value : Int
 begin : Int
 end_ : Int
 reply : Int
 out : Int
 sum : Int
 held : Int
def clC (c : Cl) : List Value := [.int .i64 c.proc, .int .i64 c.code, .int .i64 c.key, .int .i64 c.value, .int .i64 c.begin, .int .i64 c.end_, .int .i64 c.reply, .int .i64 c.out, .int .i64 c.sum, .int .i64 c.held]
structure Wd where
 A : Ar
 hands : List Hd
 calls : List Cl
 deeds : List Dd
 ticks : List Int
 now : Int
def Wd.size (W : Wd) : Nat := W.A.size + W.hands.length + W.calls.length + W.deeds.length + W.ticks.length
def wdC (x y z u cam : Int) (s g n r hs cs ds ts : Value) (now : Int) : List Value := [.int .i64 x, .int .i64 y, .int .i64 z, .int .i64 u, .int .i64 cam, s, g, n, r, hs, cs, ds, ts, .int .i64 now]
theorem qzcp : ∀ (x : Hd), ∀ u ∈ hdC x, u.oneCell' = true := by
 intro x u hu
 have := qzg x
 rw [Array.all_eq_true'] at this
 exact this u (by simpa using hu)
theorem qz8x : ∀ (x : Cl), ∀ u ∈ clC x, u.oneCell' = true := by
 intro x u hu
 simp only [clC, List.mem_cons, List.not_mem_nil, or_false] at hu
 rcases hu with rfl | rfl | rfl | rfl | rfl | rfl | rfl | rfl | rfl | rfl <;> rfl
theorem qzbz : ∀ (x : Dd), ∀ u ∈ ddC x, u.oneCell' = true := by
 intro x u hu
 simp only [ddC, List.mem_cons, List.not_mem_nil, or_false] at hu
 rcases hu with rfl | rfl | rfl | rfl | rfl <;> rfl
theorem qzbh : (Try.prog.info? 56).map (fun i => (i.zero, i.size, i.bytes)) = some (some (.agg #[.int .i64 0, .int .i64 0, .int .i64 0, .int .i64 0, .int .i64 0, .int .i64 0, .int .i64 0, .int .i64 0, .int .i64 0, .int .i64 0, .int .i64 0, .int .i64 0, .int .i64 0, .int .i64 0, .int .i64 0, .int .i64 0, .int .i64 0, .int .i64 0, .int .i64 0, .int .i64 0, .int .i64 0, .int .i64 0]), 22, 176) := by kernel_rfl
theorem qz5k : (Try.prog.info? 135).map (fun i => (i.zero, i.size, i.bytes)) = some (some (.agg #[.int .i64 0, .int .i64 0, .int .i64 0, .int .i64 0, .int .i64 0, .int .i64 0, .int .i64 0, .int .i64 0, .int .i64 0, .int .i64 0]), 10, 80) := by kernel_rfl
theorem qz8h : (Try.prog.info? 138).map (fun i => (i.zero, i.size, i.bytes)) = some (some (.agg #[.int .i64 0, .int .i64 0, .int .i64 0, .int .i64 0, .int .i64 0]), 5, 40) := by kernel_rfl
theorem qzcf : (Try.prog.info? 2).map (fun i => (i.zero, i.size, i.bytes)) = some (some (.int .i64 0), 1, 8) := by kernel_rfl
theorem qzk : (Try.prog.info? 35).map (fun i => i.size) = some 14 := by kernel_rfl
theorem qzt : (Try.prog.info? 25).map (fun i => i.size) = some 4 := by kernel_rfl
structure WdIs (B : Nat) (w : World) (s g n r hs cs ds ts : Value) (W : Wd) : Prop where
 ar : qz1v B w s g n r W.A
 h : qz12 B w hs W.hands.length (qzm hdC W.hands)
 c : qz12 B w cs W.calls.length (qzm clC W.calls)
 d : qz12 B w ds W.deeds.length (qzm ddC W.deeds)
 t : qz12 B w ts W.ticks.length (qzm intC W.ticks)
theorem WdIs.below {B : Nat} {w w' : World} {s g n r hs cs ds ts : Value} {W : Wd} (I : WdIs B w s g n r hs cs ds ts W) (hb : Below B w w') : WdIs B w' s g n r hs cs ds ts W :=
 ⟨I.ar.below hb, I.h.below hb, I.c.below hb, I.d.below hb, I.t.below hb⟩
structure qz7w (base : Nat) (w : World) (s g n r hs cs ds ts : Value) (W : Wd) : Prop where
 ar : qz32 base w s g n r W.A
 h : w.ownsRow base 56 22 hs W.hands.length (qzm hdC W.hands)
 c : w.ownsRow base 135 10 cs W.calls.length (qzm clC W.calls)
 d : w.ownsRow base 138 5 ds W.deeds.length (qzm ddC W.deeds)
 t : w.ownsRow base 2 1 ts W.ticks.length (qzm intC W.ticks)
theorem qz7w.is {base : Nat} {w : World} {s g n r hs cs ds ts : Value} {W : Wd} (O : qz7w base w s g n r hs cs ds ts W) : WdIs w.heap.size w s g n r hs cs ds ts W :=
 ⟨O.ar.is, qz2o O.h, qz2o O.c, qz2o O.d, qz2o O.t⟩
theorem qz7w.lo {base base' : Nat} {w : World} {s g n r hs cs ds ts : Value} {W : Wd} (O : qz7w base w s g n r hs cs ds ts W) (hb : base' <= base) : qz7w base' w s g n r hs cs ds ts W :=
 ⟨O.ar.lo hb, qz20 O.h hb, qz20 O.c hb, qz20 O.d hb, qz20 O.t hb⟩
theorem qz7w.only {base b : Nat} {w w' : World} {s g n r hs cs ds ts : Value} {W : Wd} (O : qz7w base w s g n r hs cs ds ts W) (hb : Only b w w') (hl : b < base) : qz7w base w' s g n r hs cs ds ts W :=
 ⟨O.ar.only hb hl, qzx O.h hb (fun j e => by have := qz1g O.h e; omega), qzx O.c hb (fun j e => by have := qz1g O.c e; omega), qzx O.d hb (fun j e => by have := qz1g O.d e; omega), qzx O.t hb (fun j e => by have := qz1g O.t e; omega)⟩
theorem qz4o {P : Program} (w : World) (base : Nat) (t ty e : TypeId) (i : TypeInfo) (z : Value) (size bytes : Nat) (ht : P.underlying t = some (.slice e)) (hi : P.info? e = some i) (hz : i.zero = some z)
  (hsize : i.size = size) (hby : i.bytes = bytes) (hzs : z.cells.size = size) (hsz : 0 < size) (g : Nat) (hown : w.ownsRow base e size (.slice (some ⟨g, 0, none⟩) 0 0) 0 [])
  (B : Nat) (x : Value) (len : Nat) (cs : List Value) (S : qz12 B w x len cs) (hl : cs.length = len * size) (h1 : ∀ u ∈ cs, u.oneCell' = true) (h63 : len <= maxLen) (hbytes : len * bytes <= 140737488355328) (hbase : base <= w.heap.size) :
  ∃ v' w', (Builtin.append_ #[t, t] ty #[.slice (some ⟨g, 0, none⟩) 0 0, x]).run P w = .ok v' w' /\ w'.ownsRow base e size v' len cs /\ Below w.heap.size w w' := by
 rcases Nat.eq_zero_or_pos len with h0 | hp
 ·subst h0
  have hc : cs = [] := List.eq_nil_of_length_eq_zero (by simpa using hl)
  subst hc
  obtain ⟨a, cap, rfl, _⟩ := S
  have hs : Src P i.size t (.slice a 0 cap) 0 [] w := by
   cases a with
   | none => exact Src.ofNil w ht cap
   | some ad => exact Src.ofSlice w ht ad 0 cap [] (by simp) (fun j u h => by cases h) (fun u h => by cases h)
  have hr := run_append_room_src (P := P) w t t ty e i ht hi g 0 0 0 (.slice a 0 cap) 0 [] hs (by omega) (by simp) (by simp)
  exact ⟨_, _, hr, hown, Below.refl _ _⟩
 ·obtain ⟨cap, w', hrun, how, hbl, _⟩ := qz4q (P := P) w base t ty e i z size bytes ht hi hz hsize hby hzs hsz g B x len cs S hp hl h1 h63 hbytes hbase
  exact ⟨_, w', hrun, how, hbl⟩
def qzcb (b bs : Nat) (x y z u : Int) (W : Wd) (a0 a1 a2 a3 a4 a5 a6 a7 : Option Addr) (c0 c1 c2 c3 c4 c5 c6 c7 : Nat) : Nat -> Value -> World -> Prop
 | 0, v, _ => v = .pointer (some ⟨b, 0, none⟩)
 | 1, v, _ => v = .agg #[.int .i64 x, .int .i64 y, .int .i64 z, .int .i64 u]
 | 2, v, _ => v = .pointer (some ⟨b, 4, none⟩)
 | 3, v, _ => v = .agg #[.int .i64 W.A.camera, .slice a0 W.A.slots.length c0, .slice a1 W.A.guides.length c1, .slice a2 W.A.nodes.length c2, .slice a3 W.A.vers.length c3]
 | 4, v, w => ∃ s g n r, v = .agg #[.int .i64 W.A.camera, s, g, n, r] /\ qz32 bs w s g n r W.A
 | 5, v, w => ∃ g, v = .slice (some ⟨g, 0, none⟩) 0 0 /\ w.ownsRow bs 56 22 (.slice (some ⟨g, 0, none⟩) 0 0) 0 []
 | 6, v, _ => v = .pointer (some ⟨b, 9, none⟩)
 | 7, v, _ => v = .slice a4 W.hands.length c4
 | 8, v, w => w.ownsRow bs 56 22 v W.hands.length (qzm hdC W.hands)
 | 9, v, w => ∃ g, v = .slice (some ⟨g, 0, none⟩) 0 0 /\ w.ownsRow bs 135 10 (.slice (some ⟨g, 0, none⟩) 0 0) 0 []
 | 10, v, _ => v = .pointer (some ⟨b, 10, none⟩)
 | 11, v, _ => v = .slice a5 W.calls.length c5
 | 12, v, w => w.ownsRow bs 135 10 v W.calls.length (qzm clC W.calls)
 | 13, v, w => ∃ g, v = .slice (some ⟨g, 0, none⟩) 0 0 /\ w.ownsRow bs 138 5 (.slice (some ⟨g, 0, none⟩) 0 0) 0 []
 | 14, v, _ => v = .pointer (some ⟨b, 11, none⟩)
 | 15, v, _ => v = .slice a6 W.deeds.length c6
 | 16, v, w => w.ownsRow bs 138 5 v W.deeds.length (qzm ddC W.deeds)
 | 17, v, _ => v = .pointer (some ⟨b, 12, none⟩)
 | 18, v, _ => v = .slice a7 W.ticks.length c7
 | 19, v, w => w.ownsRow bs 2 1 v W.ticks.length (qzm intC W.ticks)
 | 20, v, _ => v = .pointer (some ⟨b, 13, none⟩)
 | 21, v, _ => v = .int .i64 W.now
 | _, _, _ => True
theorem qz9r {b bs : Nat} {x y z u : Int} {W : Wd} {a0 a1 a2 a3 a4 a5 a6 a7 : Option Addr} {c0 c1 c2 c3 c4 c5 c6 c7 : Nat} (i : Nat) (v : Value) (w w' : World) (h : qzcb b bs x y z u W a0 a1 a2 a3 a4 a5 a6 a7 c0 c1 c2 c3 c4 c5 c6 c7 i v w) (hb : Below w.heap.size w w') : qzcb b bs x y z u W a0 a1 a2 a3 a4 a5 a6 a7 c0 c1 c2 c3 c4 c5 c6 c7 i v w' := by
 match i, h with
 | 0, h => exact h
 | 1, h => exact h
 | 2, h => exact h
 | 3, h => exact h
 | 4, h => obtain ⟨s, g, n, r, e, O⟩ := h; exact ⟨s, g, n, r, e, O.below hb⟩
 | 5, h => obtain ⟨g, e, O⟩ := h; exact ⟨g, e, qz1n O hb⟩
 | 6, h => exact h
 | 7, h => exact h
 | 8, h => exact qz1n h hb
 | 9, h => obtain ⟨g, e, O⟩ := h; exact ⟨g, e, qz1n O hb⟩
 | 10, h => exact h
 | 11, h => exact h
 | 12, h => exact qz1n h hb
 | 13, h => obtain ⟨g, e, O⟩ := h; exact ⟨g, e, qz1n O hb⟩
 | 14, h => exact h
 | 15, h => exact h
 | 16, h => exact qz1n h hb
 | 17, h => exact h
 | 18, h => exact h
 | 19, h => exact qz1n h hb
 | 20, h => exact h
 | 21, h => exact h
 | i + 22, h => exact trivial
theorem qzbw {w : World} {b : Nat} {v0 v1 v2 v3 v4 v5 v6 v7 v8 v9 v10 v11 v12 v13 : Value} (R : w.rangeAt b 0 [v0, v1, v2, v3, v4, v5, v6, v7, v8, v9, v10, v11, v12, v13]) :
  w.cell? ⟨b, 0, none⟩ = some v0 /\ w.cell? ⟨b, 1, none⟩ = some v1 /\ w.cell? ⟨b, 2, none⟩ = some v2 /\ w.cell? ⟨b, 3, none⟩ = some v3 /\ w.cell? ⟨b, 4, none⟩ = some v4 /\ w.cell? ⟨b, 5, none⟩ = some v5 /\ w.cell? ⟨b, 6, none⟩ = some v6 /\ w.cell? ⟨b, 7, none⟩ = some v7 /\ w.cell? ⟨b, 8, none⟩ = some v8 /\ w.cell? ⟨b, 9, none⟩ = some v9 /\ w.cell? ⟨b, 10, none⟩ = some v10 /\ w.cell? ⟨b, 11, none⟩ = some v11 /\ w.cell? ⟨b, 12, none⟩ = some v12 /\ w.cell? ⟨b, 13, none⟩ = some v13 :=
 ⟨by simpa using R 0 v0 rfl, by simpa using R 1 v1 rfl, by simpa using R 2 v2 rfl, by simpa using R 3 v3 rfl, by simpa using R 4 v4 rfl, by simpa using R 5 v5 rfl, by simpa using R 6 v6 rfl, by simpa using R 7 v7 rfl, by simpa using R 8 v8 rfl, by simpa using R 9 v9 rfl, by simpa using R 10 v10 rfl, by simpa using R 11 v11 rfl, by simpa using R 12 v12 rfl, by simpa using R 13 v13 rfl⟩
theorem qz6m (B : Nat) (x y z u : Int) (W : Wd) (a0 a1 a2 a3 a4 a5 a6 a7 : Option Addr) (c0 c1 c2 c3 c4 c5 c6 c7 : Nat) (w : World) (hB : B <= w.heap.size) (hW : W.size <= 1048576) (I : WdIs B w (.slice a0 W.A.slots.length c0) (.slice a1 W.A.guides.length c1) (.slice a2 W.A.nodes.length c2) (.slice a3 W.A.vers.length c3) (.slice a4 W.hands.length c4) (.slice a5 W.calls.length c5) (.slice a6 W.deeds.length c6) (.slice a7 W.ticks.length c7) W) (hs : 0 < W.A.slots.length) (hg : 0 < W.A.guides.length) (hn : 0 < W.A.nodes.length) (hr : 0 < W.A.vers.length) :
  Calls Try.prog 80 #[.agg #[.int .i64 x, .int .i64 y, .int .i64 z, .int .i64 u, .int .i64 W.A.camera, .slice a0 W.A.slots.length c0, .slice a1 W.A.guides.length c1, .slice a2 W.A.nodes.length c2, .slice a3 W.A.vers.length c3, .slice a4 W.hands.length c4, .slice a5 W.calls.length c5, .slice a6 W.deeds.length c6, .slice a7 W.ticks.length c7, .int .i64 W.now]] w fun e w' => ∃ s g n r hs cs ds ts, e = .returned (.agg (wdC x y z u W.A.camera s g n r hs cs ds ts W.now).toArray) /\ qz7w w.heap.size w' s g n r hs cs ds ts W /\ Below w.heap.size w w' := by
 have hA : W.A.size <= 1048576 := by unfold Wd.size at hW; omega
 unfold Wd.size at hW
 have X0 := World.rangeAt_alloc (qzd w [.int .i64 x, .int .i64 y, .int .i64 z, .int .i64 u, .int .i64 W.A.camera, .slice a0 W.A.slots.length c0, .slice a1 W.A.guides.length c1, .slice a2 W.A.nodes.length c2, .slice a3 W.A.vers.length c3, .slice a4 W.hands.length c4, .slice a5 W.calls.length c5, .slice a6 W.deeds.length c6, .slice a7 W.ticks.length c7, .int .i64 W.now] 35) (.cells #[.int .i64 0, .int .i64 0, .int .i64 0, .int .i64 0, .int .i64 0, .slice none 0 0, .slice none 0 0, .slice none 0 0, .slice none 0 0, .slice none 0 0, .slice none 0 0, .slice none 0 0, .slice none 0 0, .int .i64 0] 35)
 have F0 := qzh (w.alloc (.cells #[.int .i64 x, .int .i64 y, .int .i64 z, .int .i64 u, .int .i64 W.A.camera, .slice a0 W.A.slots.length c0, .slice a1 W.A.guides.length c1, .slice a2 W.A.nodes.length c2, .slice a3 W.A.vers.length c3, .slice a4 W.hands.length c4, .slice a5 W.calls.length c5, .slice a6 W.deeds.length c6, .slice a7 W.ticks.length c7, .int .i64 W.now] 35)) #[.int .i64 0, .int .i64 0, .int .i64 0, .int .i64 0, .int .i64 0, .slice none 0 0, .slice none 0 0, .slice none 0 0, .slice none 0 0, .slice none 0 0, .slice none 0 0, .slice none 0 0, .slice none 0 0, .int .i64 0] 35 14 (by decide)
 have K0 := ((Below.refl w.heap.size w).alloc (Nat.le_refl _) (.cells #[.int .i64 x, .int .i64 y, .int .i64 z, .int .i64 u, .int .i64 W.A.camera, .slice a0 W.A.slots.length c0, .slice a1 W.A.guides.length c1, .slice a2 W.A.nodes.length c2, .slice a3 W.A.vers.length c3, .slice a4 W.hands.length c4, .slice a5 W.calls.length c5, .slice a6 W.deeds.length c6, .slice a7 W.ticks.length c7, .int .i64 W.now] 35)).alloc (by simp) (.cells #[.int .i64 0, .int .i64 0, .int .i64 0, .int .i64 0, .int .i64 0, .slice none 0 0, .slice none 0 0, .slice none 0 0, .slice none 0 0, .slice none 0 0, .slice none 0 0, .slice none 0 0, .slice none 0 0, .int .i64 0] 35)
 have hz0 : w.heap.size + 1 < ((w.alloc (.cells #[.int .i64 x, .int .i64 y, .int .i64 z, .int .i64 u, .int .i64 W.A.camera, .slice a0 W.A.slots.length c0, .slice a1 W.A.guides.length c1, .slice a2 W.A.nodes.length c2, .slice a3 W.A.vers.length c3, .slice a4 W.hands.length c4, .slice a5 W.calls.length c5, .slice a6 W.deeds.length c6, .slice a7 W.ticks.length c7, .int .i64 W.now] 35)).alloc (.cells #[.int .i64 0, .int .i64 0, .int .i64 0, .int .i64 0, .int .i64 0, .slice none 0 0, .slice none 0 0, .slice none 0 0, .slice none 0 0, .slice none 0 0, .slice none 0 0, .slice none 0 0, .slice none 0 0, .int .i64 0] 35)).heap.size := by simp
 simp only [World.size_alloc] at F0
 have I0 := I.below (K0.mono hB)
 go_enter Try.func80, Try.ntmps80
 go_wp2_with fail
 generalize hw0 : (w.alloc (.cells #[.int .i64 x, .int .i64 y, .int .i64 z, .int .i64 u, .int .i64 W.A.camera, .slice a0 W.A.slots.length c0, .slice a1 W.A.guides.length c1, .slice a2 W.A.nodes.length c2, .slice a3 W.A.vers.length c3, .slice a4 W.hands.length c4, .slice a5 W.calls.length c5, .slice a6 W.deeds.length c6, .slice a7 W.ticks.length c7, .int .i64 W.now] 35)).alloc (.cells #[.int .i64 0, .int .i64 0, .int .i64 0, .int .i64 0, .int .i64 0, .slice none 0 0, .slice none 0 0, .slice none 0 0, .slice none 0 0, .slice none 0 0, .slice none 0 0, .slice none 0 0, .slice none 0 0, .int .i64 0] 35) = w0 at *
 clear hw0 I
 refine qz2f 22 (by kernel_rfl) (qzcb w.heap.size (w.heap.size + 2) x y z u W a0 a1 a2 a3 a4 a5 a6 a7 c0 c1 c2 c3 c4 c5 c6 c7) (fun _ => false) (by kernel_rfl) (by kernel_rfl) (by kernel_rfl) (by kernel_rfl) (by rfl) (fun i v w w' _ h hb => qz9r i v w w' h hb) (fun i v w q hf h hq => by cases hf) ?step ?final
 case step =>
  intro i o hik ho a V hb hnn hd K hK
  have XV := qz0 X0 hb (by omega)
  obtain ⟨x0, x1, x2, x3, x4, x5, x6, x7, x8, x9, x10, x11, x12, x13⟩ := qzbw XV
  have IV := I0.below (hb.mono (by omega))
  have hzV := hb.size
  match i, ho with
  | 0, ho =>
   obtain rfl := Option.some.inj ho
   have e1 : a.eval (.tmp 1) = .pointer (some ⟨w.heap.size, 0, none⟩) := hnn 1 rfl
   refine qz2 (v := .pointer (some ⟨w.heap.size, 0, none⟩)) (w' := V) ?_ (hK _ _ rfl (Below.refl _ _) (fun h => by cases h))
   generalize a.eval = ev at *
   go_simp
  | 1, ho =>
   obtain rfl := Option.some.inj ho
   exact qz11 25 (.tmp 3) rfl w.heap.size 0 (hd ⟨0, .data⟩ (by simp) rfl 3 rfl) [.int .i64 x, .int .i64 y, .int .i64 z, .int .i64 u] _ (fun j v hv => XV j v (by match j, hv with | 0, h => exact h | 1, h => exact h | 2, h => exact h | 3, h => exact h)) Try.underlying25 rfl qzt (hK _ _ rfl (Below.refl _ _) (fun h => by cases h))
  | 2, ho =>
   obtain rfl := Option.some.inj ho
   have e1 : a.eval (.tmp 1) = .pointer (some ⟨w.heap.size, 0, none⟩) := hnn 1 rfl
   refine qz2 (v := .pointer (some ⟨w.heap.size, 4, none⟩)) (w' := V) ?_ (hK _ _ rfl (Below.refl _ _) (fun h => by cases h))
   generalize a.eval = ev at *
   go_simp
  | 3, ho =>
   obtain rfl := Option.some.inj ho
   exact qz11 30 (.tmp 5) rfl w.heap.size 4 (hd ⟨2, .data⟩ (by simp) rfl 5 rfl) [.int .i64 W.A.camera, .slice a0 W.A.slots.length c0, .slice a1 W.A.guides.length c1, .slice a2 W.A.nodes.length c2, .slice a3 W.A.vers.length c3] _ (fun j v hv => by match j, hv with | 0, h => exact XV 4 v h | 1, h => exact XV 5 v h | 2, h => exact XV 6 v h | 3, h => exact XV 7 v h | 4, h => exact XV 8 v h) Try.underlying30 rfl qz2i (hK _ _ rfl (Below.refl _ _) (fun h => by cases h))
  | 4, ho =>
   obtain rfl := Option.some.inj ho
   have e1 : a.eval (.tmp 6) = .agg #[.int .i64 W.A.camera, .slice a0 W.A.slots.length c0, .slice a1 W.A.guides.length c1, .slice a2 W.A.nodes.length c2, .slice a3 W.A.vers.length c3] := hd ⟨3, .data⟩ (by simp) rfl 6 rfl
   have ef : a.eval (.func 98) = .func (.func 98) #[] #[] := rfl
   refine qz22 (f := 98) (args := #[.agg #[.int .i64 W.A.camera, .slice a0 W.A.slots.length c0, .slice a1 W.A.guides.length c1, .slice a2 W.A.nodes.length c2, .slice a3 W.A.vers.length c3]]) (R := fun v w' => (∃ s g n r, v = .agg #[.int .i64 W.A.camera, s, g, n, r] /\ qz32 V.heap.size w' s g n r W.A) /\ Below V.heap.size V w') ?_ ((qz7r B W.A a0 a1 a2 a3 c0 c1 c2 c3 V (by omega) hA IV.ar hs hg hn hr).mono (fun e w' h => by obtain ⟨s, g, n, r, e, O, K⟩ := h; exact ⟨_, e, ⟨s, g, n, r, rfl, O⟩, K⟩)) (fun v w' h => hK v w' (by obtain ⟨⟨s, g, n, r, e, O⟩, _⟩ := h; exact ⟨s, g, n, r, e, O.lo (by omega)⟩) h.2 (fun h => by cases h))
   generalize a.eval = ev at *
   go_simp
  | 5, ho =>
   obtain rfl := Option.some.inj ho
   have O0 := World.ownsRow_lit (base := V.heap.size) (e := 56) (size := 22) V #[] 0 (by simp) (by decide) (by simp)
   refine qz2 (v := .slice (some ⟨V.heap.size, 0, none⟩) 0 0) (w' := V.alloc (.cells #[] 56)) ?_ (hK _ _ ⟨_, rfl, qz20 O0 (by omega)⟩ ((Below.refl _ _).alloc (Nat.le_refl _) _) (fun h => by cases h))
   generalize a.eval = ev at *
   go_simp
  | 6, ho =>
   obtain rfl := Option.some.inj ho
   have e1 : a.eval (.tmp 1) = .pointer (some ⟨w.heap.size, 0, none⟩) := hnn 1 rfl
   refine qz2 (v := .pointer (some ⟨w.heap.size, 9, none⟩)) (w' := V) ?_ (hK _ _ rfl (Below.refl _ _) (fun h => by cases h))
   generalize a.eval = ev at *
   go_simp
  | 7, ho =>
   obtain rfl := Option.some.inj ho
   have e1 : a.eval (.tmp 9) = .pointer (some ⟨w.heap.size, 9, none⟩) := hd ⟨6, .data⟩ (by simp) rfl 9 rfl
   refine qz2 (v := .slice a4 W.hands.length c4) (w' := V) ?_ (hK _ _ rfl (Below.refl _ _) (fun h => by cases h))
   generalize a.eval = ev at *
   go_simp
  | 8, ho =>
   obtain rfl := Option.some.inj ho
   obtain ⟨g, e1, Og⟩ := (show ∃ g, a.eval (.tmp 8) = .slice (some ⟨g, 0, none⟩) 0 0 /\ V.ownsRow (w.heap.size + 2) 56 22 (.slice (some ⟨g, 0, none⟩) 0 0) 0 [] from hd ⟨5, .data⟩ (by simp) rfl 8 rfl)
   have e2 : a.eval (.tmp 10) = .slice a4 W.hands.length c4 := hd ⟨7, .data⟩ (by simp) rfl 10 rfl
   obtain ⟨i0, hi, hzr, hsz, hby⟩ := info_parts qzbh
   obtain ⟨v', w', hrun, how, hbl⟩ := qz4o (P := Try.prog) V (w.heap.size + 2) 31 31 56 i0 _ 22 176 Try.underlying31 hi hzr hsz hby rfl (by decide) g Og B _ W.hands.length (qzm hdC W.hands) IV.h (by rw [qz2c (sz := 22) (fun _ => rfl)]) (qz3g qzcp W.hands) (by unfold maxLen; omega) (by omega) (by omega)
   refine qz2 (v := v') (w' := w') ?_ (hK _ _ how hbl (fun h => by cases h))
   generalize a.eval = ev at *
   simp [execOp, resolve, invoke, builtin, e1, e2, hrun, Result.andThen]
  | 9, ho =>
   obtain rfl := Option.some.inj ho
   have O0 := World.ownsRow_lit (base := V.heap.size) (e := 135) (size := 10) V #[] 0 (by simp) (by decide) (by simp)
   refine qz2 (v := .slice (some ⟨V.heap.size, 0, none⟩) 0 0) (w' := V.alloc (.cells #[] 135)) ?_ (hK _ _ ⟨_, rfl, qz20 O0 (by omega)⟩ ((Below.refl _ _).alloc (Nat.le_refl _) _) (fun h => by cases h))
   generalize a.eval = ev at *
   go_simp
  | 10, ho =>
   obtain rfl := Option.some.inj ho
   have e1 : a.eval (.tmp 1) = .pointer (some ⟨w.heap.size, 0, none⟩) := hnn 1 rfl
   refine qz2 (v := .pointer (some ⟨w.heap.size, 10, none⟩)) (w' := V) ?_ (hK _ _ rfl (Below.refl _ _) (fun h => by cases h))
   generalize a.eval = ev at *
   go_simp
  | 11, ho =>
   obtain rfl := Option.some.inj ho
   have e1 : a.eval (.tmp 13) = .pointer (some ⟨w.heap.size, 10, none⟩) := hd ⟨10, .data⟩ (by simp) rfl 13 rfl
   refine qz2 (v := .slice a5 W.calls.length c5) (w' := V) ?_ (hK _ _ rfl (Below.refl _ _) (fun h => by cases h))
   generalize a.eval = ev at *
   go_simp
  | 12, ho =>
   obtain rfl := Option.some.inj ho
   obtain ⟨g, e1, Og⟩ := (show ∃ g, a.eval (.tmp 12) = .slice (some ⟨g, 0, none⟩) 0 0 /\ V.ownsRow (w.heap.size + 2) 135 10 (.slice (some ⟨g, 0, none⟩) 0 0) 0 [] from hd ⟨9, .data⟩ (by simp) rfl 12 rfl)
   have e2 : a.eval (.tmp 14) = .slice a5 W.calls.length c5 := hd ⟨11, .data⟩ (by simp) rfl 14 rfl
   obtain ⟨i0, hi, hzr, hsz, hby⟩ := info_parts qz5k
   obtain ⟨v', w', hrun, how, hbl⟩ := qz4o (P := Try.prog) V (w.heap.size + 2) 32 32 135 i0 _ 10 80 Try.underlying32 hi hzr hsz hby rfl (by decide) g Og B _ W.calls.length (qzm clC W.calls) IV.c (by rw [qz2c (sz := 10) (fun _ => rfl)]) (qz3g qz8x W.calls) (by unfold maxLen; omega) (by omega) (by omega)
   refine qz2 (v := v') (w' := w') ?_ (hK _ _ how hbl (fun h => by cases h))
   generalize a.eval = ev at *
   simp [execOp, resolve, invoke, builtin, e1, e2, hrun, Result.andThen]
  | 13, ho =>
   obtain rfl := Option.some.inj ho
   have O0 := World.ownsRow_lit (base := V.heap.size) (e := 138) (size := 5) V #[] 0 (by simp) (by decide) (by simp)
   refine qz2 (v := .slice (some ⟨V.heap.size, 0, none⟩) 0 0) (w' := V.alloc (.cells #[] 138)) ?_ (hK _ _ ⟨_, rfl, qz20 O0 (by omega)⟩ ((Below.refl _ _).alloc (Nat.le_refl _) _) (fun h => by cases h))
   generalize a.eval = ev at *
   go_simp
  | 14, ho =>
   obtain rfl := Option.some.inj ho
   have e1 : a.eval (.tmp 1) = .pointer (some ⟨w.heap.size, 0, none⟩) := hnn 1 rfl
   refine qz2 (v := .pointer (some ⟨w.heap.size, 11, none⟩)) (w' := V) ?_ (hK _ _ rfl (Below.refl _ _) (fun h => by cases h))
   generalize a.eval = ev at *
   go_simp
  | 15, ho =>
   obtain rfl := Option.some.inj ho
   have e1 : a.eval (.tmp 17) = .pointer (some ⟨w.heap.size, 11, none⟩) := hd ⟨14, .data⟩ (by simp) rfl 17 rfl
   refine qz2 (v := .slice a6 W.deeds.length c6) (w' := V) ?_ (hK _ _ rfl (Below.refl _ _) (fun h => by cases h))
   generalize a.eval = ev at *
   go_simp
  | 16, ho =>
   obtain rfl := Option.some.inj ho
   obtain ⟨g, e1, Og⟩ := (show ∃ g, a.eval (.tmp 16) = .slice (some ⟨g, 0, none⟩) 0 0 /\ V.ownsRow (w.heap.size + 2) 138 5 (.slice (some ⟨g, 0, none⟩) 0 0) 0 [] from hd ⟨13, .data⟩ (by simp) rfl 16 rfl)
   have e2 : a.eval (.tmp 18) = .slice a6 W.deeds.length c6 := hd ⟨15, .data⟩ (by simp) rfl 18 rfl
   obtain ⟨i0, hi, hzr, hsz, hby⟩ := info_parts qz8h
   obtain ⟨v', w', hrun, how, hbl⟩ := qz4o (P := Try.prog) V (w.heap.size + 2) 33 33 138 i0 _ 5 40 Try.underlying33 hi hzr hsz hby rfl (by decide) g Og B _ W.deeds.length (qzm ddC W.deeds) IV.d (by rw [qz2c (sz := 5) (fun _ => rfl)]) (qz3g qzbz W.deeds) (by unfold maxLen; omega) (by omega) (by omega)
   refine qz2 (v := v') (w' := w') ?_ (hK _ _ how hbl (fun h => by cases h))
   generalize a.eval = ev at *
   simp [execOp, resolve, invoke, builtin, e1, e2, hrun, Result.andThen]
  | 17, ho =>
   obtain rfl := Option.some.inj ho
   have e1 : a.eval (.tmp 1) = .pointer (some ⟨w.heap.size, 0, none⟩) := hnn 1 rfl
   refine qz2 (v := .pointer (some ⟨w.heap.size, 12, none⟩)) (w' := V) ?_ (hK _ _ rfl (Below.refl _ _) (fun h => by cases h))
   generalize a.eval = ev at *
   go_simp
  | 18, ho =>
   obtain rfl := Option.some.inj ho
   have e1 : a.eval (.tmp 20) = .pointer (some ⟨w.heap.size, 12, none⟩) := hd ⟨17, .data⟩ (by simp) rfl 20 rfl
   refine qz2 (v := .slice a7 W.ticks.length c7) (w' := V) ?_ (hK _ _ rfl (Below.refl _ _) (fun h => by cases h))
   generalize a.eval = ev at *
   go_simp
  | 19, ho =>
   obtain rfl := Option.some.inj ho
   have e1 : a.eval (.tmp 21) = .slice a7 W.ticks.length c7 := hd ⟨18, .data⟩ (by simp) rfl 21 rfl
   have ef : a.eval (.func 99) = .func (.func 99) #[] #[] := rfl
   refine qz22 (f := 99) (args := #[.slice a7 W.ticks.length c7]) (R := fun v w' => w'.ownsRow V.heap.size 2 1 v W.ticks.length (qzm intC W.ticks) /\ Below V.heap.size V w') ?_ ((qz5q B _ W.ticks V (by omega) (by omega) IV.t).mono (fun e w' h => h)) (fun v w' h => hK v w' (qz20 h.1 (by omega)) h.2 (fun h => by cases h))
   generalize a.eval = ev at *
   go_simp
  | 20, ho =>
   obtain rfl := Option.some.inj ho
   have e1 : a.eval (.tmp 1) = .pointer (some ⟨w.heap.size, 0, none⟩) := hnn 1 rfl
   refine qz2 (v := .pointer (some ⟨w.heap.size, 13, none⟩)) (w' := V) ?_ (hK _ _ rfl (Below.refl _ _) (fun h => by cases h))
   generalize a.eval = ev at *
   go_simp
  | 21, ho =>
   obtain rfl := Option.some.inj ho
   have e1 : a.eval (.tmp 23) = .pointer (some ⟨w.heap.size, 13, none⟩) := hd ⟨20, .data⟩ (by simp) rfl 23 rfl
   refine qz2 (v := .int .i64 W.now) (w' := V) ?_ (hK _ _ rfl (Below.refl _ _) (fun h => by cases h))
   generalize a.eval = ev at *
   go_simp
  | n + 22, ho => omega
 case final =>
  intro vs V hb hG hD
  have g1 : vs 1 = .agg #[.int .i64 x, .int .i64 y, .int .i64 z, .int .i64 u] := hG 1 (by decide)
  obtain ⟨s, g, n, r, g4, O4⟩ := (show ∃ s g n r, vs 4 = .agg #[.int .i64 W.A.camera, s, g, n, r] /\ qz32 (w.heap.size + 2) V s g n r W.A from hG 4 (by decide))
  have g8 : V.ownsRow (w.heap.size + 2) 56 22 (vs 8) W.hands.length (qzm hdC W.hands) := hG 8 (by decide)
  have g12 : V.ownsRow (w.heap.size + 2) 135 10 (vs 12) W.calls.length (qzm clC W.calls) := hG 12 (by decide)
  have g16 : V.ownsRow (w.heap.size + 2) 138 5 (vs 16) W.deeds.length (qzm ddC W.deeds) := hG 16 (by decide)
  have g19 : V.ownsRow (w.heap.size + 2) 2 1 (vs 19) W.ticks.length (qzm intC W.ticks) := hG 19 (by decide)
  have g21 : vs 21 = .int .i64 W.now := hG 21 (by decide)
  have OW : qz7w (w.heap.size + 2) V s g n r (vs 8) (vs 12) (vs 16) (vs 19) W := ⟨O4, g8, g12, g16, g19⟩
  have FW := qz6 F0 hb (by omega)
  have KW := K0.trans (hb.mono (by omega))
  generalize hl : laid _ vs _ _ _ = A'
  have hA' : A' = { tmps := #[.agg #[.int .i64 x, .int .i64 y, .int .i64 z, .int .i64 u, .int .i64 W.A.camera, .slice a0 W.A.slots.length c0, .slice a1 W.A.guides.length c1, .slice a2 W.A.nodes.length c2, .slice a3 W.A.vers.length c3, .slice a4 W.hands.length c4, .slice a5 W.calls.length c5, .slice a6 W.deeds.length c6, .slice a7 W.ticks.length c7, .int .i64 W.now], .pointer (some ⟨w.heap.size, 0, none⟩), .pointer (some ⟨w.heap.size + 1, 0, none⟩), vs 0, vs 1, vs 2, vs 3, vs 4, vs 5, vs 6, vs 7, vs 8, vs 9, vs 10, vs 11, vs 12, vs 13, vs 14, vs 15, vs 16, vs 17, vs 18, vs 19, vs 20, vs 21, undef], defers := [] } := by
   rw [<- hl]
   kernel_rfl
  subst hA'
  rw [g1, g4, g21]
  obtain ⟨sa, sc, es⟩ := qzi O4.rs
  obtain ⟨ga, gc, eg⟩ := qzi O4.rg
  obtain ⟨na, nc, en⟩ := qzi O4.rn
  obtain ⟨ra, rc, er⟩ := qzi O4.rr
  obtain ⟨ha, hc, eh⟩ := qzi g8
  obtain ⟨ca, cc, ec⟩ := qzi g12
  obtain ⟨da, dc, ed⟩ := qzi g16
  obtain ⟨ta, tc, et⟩ := qzi g19
  rw [es, eg, en, er, eh, ec, ed, et] at OW
  rw [es, eg, en, er, eh, ec, ed, et]
  clear hl hG hD g1 g4 g8 g12 g16 g19 g21 O4 es eg en er eh ec ed et X0 F0 I0 K0
  have OF : qz7w w.heap.size (V.setCells (w.heap.size + 1) 0 [.int .i64 x, .int .i64 y, .int .i64 z, .int .i64 u, .int .i64 W.A.camera, .slice sa W.A.slots.length sc, .slice ga W.A.guides.length gc, .slice na W.A.nodes.length nc, .slice ra W.A.vers.length rc, .slice ha W.hands.length hc, .slice ca W.calls.length cc, .slice da W.deeds.length dc, .slice ta W.ticks.length tc, .int .i64 W.now]) (.slice sa W.A.slots.length sc) (.slice ga W.A.guides.length gc) (.slice na W.A.nodes.length nc) (.slice ra W.A.vers.length rc) (.slice ha W.hands.length hc) (.slice ca W.calls.length cc) (.slice da W.deeds.length dc) (.slice ta W.ticks.length tc) W := (OW.only (qz9 (w.heap.size + 1) _ 0 V) (by omega)).lo (by omega)
  have KF := Below.setCells (B := w.heap.size) (b := w.heap.size + 1) (by omega) [.int .i64 x, .int .i64 y, .int .i64 z, .int .i64 u, .int .i64 W.A.camera, .slice sa W.A.slots.length sc, .slice ga W.A.guides.length gc, .slice na W.A.nodes.length nc, .slice ra W.A.vers.length rc, .slice ha W.hands.length hc, .slice ca W.calls.length cc, .slice da W.deeds.length dc, .slice ta W.ticks.length tc, .int .i64 W.now] 0 _ KW
  go_wp2_with (refine wpList_store_mid rfl 35 (.tmp 2) (.tmp 25) rfl (w.heap.size + 1) 0 #[.int .i64 x, .int .i64 y, .int .i64 z, .int .i64 u, .int .i64 W.A.camera, .slice sa W.A.slots.length sc, .slice ga W.A.guides.length gc, .slice na W.A.nodes.length nc, .slice ra W.A.vers.length rc, .slice ha W.hands.length hc, .slice ca W.calls.length cc, .slice da W.deeds.length dc, .slice ta W.ticks.length tc, .int .i64 W.now] ?hx ?hy ?ht ?hi ?h1 ?_)
  case hx => rfl
  case hy => rfl
  case ht => exact FW
  case hi => exact qzk
  case h1 => simp [Value.oneCell']
  refine bodyPost_ret (v := .agg #[.int .i64 x, .int .i64 y, .int .i64 z, .int .i64 u, .int .i64 W.A.camera, .slice sa W.A.slots.length sc, .slice ga W.A.guides.length gc, .slice na W.A.nodes.length nc, .slice ra W.A.vers.length rc, .slice ha W.hands.length hc, .slice ca W.calls.length cc, .slice da W.deeds.length dc, .slice ta W.ticks.length tc, .int .i64 W.now]) ?_ rfl ⟨_, _, _, _, _, _, _, _, rfl, OF, KF⟩
  exact qz4 Try.results80 _ _ (w.heap.size + 1) 0 rfl [.int .i64 x, .int .i64 y, .int .i64 z, .int .i64 u, .int .i64 W.A.camera, .slice sa W.A.slots.length sc, .slice ga W.A.guides.length gc, .slice na W.A.nodes.length nc, .slice ra W.A.vers.length rc, .slice ha W.hands.length hc, .slice ca W.calls.length cc, .slice da W.deeds.length dc, .slice ta W.ticks.length tc, .int .i64 W.now] _ (World.rangeAt_setCells_same _ _ _ _ FW) Try.underlying35 rfl qzk
end
end Go.Proofs.Ythjkdnlmopafkaa
