/-
  What the law's proof goes by, part 10.
-/
import Derived.Lib.QuietBelow
import Derived.BigQuiet
import Derived.Deep.AppendSrc
import Derived.Maps.AppendAt
import Derived.Deep.AppendLies
import Derived.Deep.Cut
import Derived.Test.YtknncnaikeinbaaGreatSealStepI
namespace Go.Proofs.YtknncnaikeinbaaGreat
open Go.ChangeShapes Go.WideShapes Go.ChangeAt Go.RowKit
set_option maxRecDepth 100000
set_option maxHeartbeats 16000000
set_option linter.unusedVariables false
set_option linter.unusedSimpArgs false
set_option linter.unnecessarySimpa false
set_option linter.unusedSectionVars false
section
open Go.ChangeShapes Go.WideShapes Go.ChangeAt Go.RowKit Go.Sort
attribute [local go_sem ↓] Go.wp_at_zero Go.wp_at_succ
def fitB (x y z u : Int) (A : Ar) (me : Int) (h : Hd) (clk : Int) : Bool := qz14 x y z u A && qz2a x y z u h && inB me 0 (x - 1) && inB clk 0 20000 && qz1b A h
theorem qz72 {x y z u : Int} {h : Hd} (e : qz2a x y z u h = true) : 1 <= x /\ x <= 8 := by
 unfold qz2a at e
 simp only [Bool.and_eq_true] at e
 have := (qz3y x y z u).1 e.1.1
 omega
theorem qz2r {P : Program} {ops : Array Oper} {C : World -> Prop} {Q : Act -> Prop} {a : Act} {o : Oper} {rest : List Oper} (hwn : Region.wanted o (yielded ops a.tmps) = true) (v : Value) (hv : ∀ w, C w -> (execOp a.eval o).run P w = .ok (.value v) w)
  (h : wpQuiet P ops C Q rest (a.put o.dst v)) : wpQuiet P ops C Q (o :: rest) a := by
 refine wpQuiet_step fun K hK => ?_
 rw [if_pos hwn]
 refine ⟨v, fun w hw => ?_, hK _ h⟩
 unfold Oper.quietAt
 rw [hv w hw]
 exact ⟨rfl, rfl⟩
theorem qz8d (B : Nat) (A : Ar) (x y z u me : Int) (h : Hd) (clk : Int) (a0 a1 a2 a3 : Option Addr) (c0 c1 c2 c3 : Nat) (w : World) (hB : B <= w.heap.size) (hA : A.size <= 1048576) (I : qzi B w (.slice a0 A.slots.length c0) (.slice a1 A.guides.length c1) (.slice a2 A.nodes.length c2) (.slice a3 A.vers.length c3) A) :
  Calls Tryz.prog 39 #[.agg #[.int .i64 x, .int .i64 y, .int .i64 z, .int .i64 u], .agg #[.int .i64 A.camera, .slice a0 A.slots.length c0, .slice a1 A.guides.length c1, .slice a2 A.nodes.length c2, .slice a3 A.vers.length c3], .int .i64 me, .agg (hdC h).toArray, .int .i64 clk] w fun e w' => e = .returned (.bool (fitB x y z u A me h clk)) /\ Below w.heap.size w w' := by
 have hA' := hA
 unfold Ar.size at hA
 have P0 := World.rangeAt_alloc (World.rangeAt_alloc (qz5 w [.int .i64 x, .int .i64 y, .int .i64 z, .int .i64 u] 43) (.cells #[.int .i64 A.camera, .slice a0 A.slots.length c0, .slice a1 A.guides.length c1, .slice a2 A.nodes.length c2, .slice a3 A.vers.length c3] 35)) (.cells (hdC h).toArray 36)
 have X0 := World.rangeAt_alloc (qz5 (w.alloc (.cells #[.int .i64 x, .int .i64 y, .int .i64 z, .int .i64 u] 43)) [.int .i64 A.camera, .slice a0 A.slots.length c0, .slice a1 A.guides.length c1, .slice a2 A.nodes.length c2, .slice a3 A.vers.length c3] 35) (.cells (hdC h).toArray 36)
 have H0 := qz5 ((w.alloc (.cells #[.int .i64 x, .int .i64 y, .int .i64 z, .int .i64 u] 43)).alloc (.cells #[.int .i64 A.camera, .slice a0 A.slots.length c0, .slice a1 A.guides.length c1, .slice a2 A.nodes.length c2, .slice a3 A.vers.length c3] 35)) (hdC h) 36
 have K0 := (((Below.refl w.heap.size w).alloc (Nat.le_refl _) (.cells #[.int .i64 x, .int .i64 y, .int .i64 z, .int .i64 u] 43)).alloc (by simp) (.cells #[.int .i64 A.camera, .slice a0 A.slots.length c0, .slice a1 A.guides.length c1, .slice a2 A.nodes.length c2, .slice a3 A.vers.length c3] 35)).alloc (by simp; omega) (.cells (hdC h).toArray 36)
 have hz0 : w.heap.size + 1 + 1 < (((w.alloc (.cells #[.int .i64 x, .int .i64 y, .int .i64 z, .int .i64 u] 43)).alloc (.cells #[.int .i64 A.camera, .slice a0 A.slots.length c0, .slice a1 A.guides.length c1, .slice a2 A.nodes.length c2, .slice a3 A.vers.length c3] 35)).alloc (.cells (hdC h).toArray 36)).heap.size := by simp
 simp only [World.size_alloc] at X0 H0
 have I0 := I.below (K0.mono hB)
 go_enter Tryz.func39, Tryz.ntmps39
 go_wp2_with fail
 generalize hw0 : ((w.alloc (.cells #[.int .i64 x, .int .i64 y, .int .i64 z, .int .i64 u] 43)).alloc (.cells #[.int .i64 A.camera, .slice a0 A.slots.length c0, .slice a1 A.guides.length c1, .slice a2 A.nodes.length c2, .slice a3 A.vers.length c3] 35)).alloc (.cells (hdC h).toArray 36) = w0 at *
 clear hw0 I
 have hB0 : B <= w0.heap.size := Nat.le_trans hB K0.size
 refine (qz5g B A x y z u a0 a1 a2 a3 c0 c1 c2 c3 _ hB0 hA' I0).mono ?_
 rintro e w1 ⟨rfl, b0⟩
 have P1 := qz0 P0 b0 (by omega)
 have X1 := qz0 X0 b0 (by omega)
 have H1 := qz0 H0 b0 (by omega)
 have K1 := K0.trans (b0.mono (by omega))
 have I1 := I0.below (b0.mono hB0)
 have hz1 := Nat.lt_of_lt_of_le hz0 b0.size
 have hB1 := Nat.le_trans hB0 b0.size
 clear P0 X0 H0 K0 I0 hz0 hB0 b0
 have p0 : w1.cell? ⟨w.heap.size, 0, none⟩ = some (.int .i64 x) := by simpa using P1 0 (.int .i64 x) rfl
 have p1 : w1.cell? ⟨w.heap.size, 1, none⟩ = some (.int .i64 y) := by simpa using P1 1 (.int .i64 y) rfl
 have p2 : w1.cell? ⟨w.heap.size, 2, none⟩ = some (.int .i64 z) := by simpa using P1 2 (.int .i64 z) rfl
 have p3 : w1.cell? ⟨w.heap.size, 3, none⟩ = some (.int .i64 u) := by simpa using P1 3 (.int .i64 u) rfl
 obtain ⟨x0, x1, x2, x3, x4⟩ := row5 X1
 cases e1 : qz14 x y z u A
 case false =>
  have hv : Hid (fitB x y z u A me h clk = false) := by show _ = _; simp [fitB, e1]
  go_wp2_with (first | (go_at_call 40; refine (qzd _ _ _ _).mono ?_; rintro e w' ⟨rfl, hw⟩; obtain rfl := hw.symm) | (go_at_call 71; refine (qzt _ _).mono ?_; rintro e w' ⟨rfl, hw⟩; obtain rfl := hw.symm))
  go_ret
  exact ⟨by rw [hv.out]; rfl, K1⟩
 go_wp2_with (refine qzx ?hw1 36 (.tmp 8) rfl (w.heap.size + 1 + 1) 0 ?hx1 (hdC h) _ ?hc1 Tryz.underlying36 rfl (qz1 h) ?_)
 try (case hw1 => first | rfl | kernel_rfl)
 try (case hx1 => rfl)
 try (case hc1 => exact H1)
 refine (qz6b x y z u h _).mono ?_
 clear p0 p1 p2 p3 x0 x1 x2 x3 x4
 rintro e w2 ⟨rfl, b1⟩
 have P2 := qz0 P1 b1 (by omega)
 have X2 := qz0 X1 b1 (by omega)
 have H2 := qz0 H1 b1 (by omega)
 have K2 := K1.trans (b1.mono (by omega))
 have I2 := I1.below (b1.mono hB1)
 have hz2 := Nat.lt_of_lt_of_le hz1 b1.size
 have hB2 := Nat.le_trans hB1 b1.size
 clear P1 X1 H1 K1 I1 hz1 hB1 b1
 have p0 : w2.cell? ⟨w.heap.size, 0, none⟩ = some (.int .i64 x) := by simpa using P2 0 (.int .i64 x) rfl
 have p1 : w2.cell? ⟨w.heap.size, 1, none⟩ = some (.int .i64 y) := by simpa using P2 1 (.int .i64 y) rfl
 have p2 : w2.cell? ⟨w.heap.size, 2, none⟩ = some (.int .i64 z) := by simpa using P2 2 (.int .i64 z) rfl
 have p3 : w2.cell? ⟨w.heap.size, 3, none⟩ = some (.int .i64 u) := by simpa using P2 3 (.int .i64 u) rfl
 obtain ⟨x0, x1, x2, x3, x4⟩ := row5 X2
 cases e2 : qz2a x y z u h
 case false =>
  have hv : Hid (fitB x y z u A me h clk = false) := by show _ = _; simp [fitB, e1, e2]
  go_wp2_with (first | (go_at_call 40; refine (qzd _ _ _ _).mono ?_; rintro e w' ⟨rfl, hw⟩; obtain rfl := hw.symm) | (go_at_call 71; refine (qzt _ _).mono ?_; rintro e w' ⟨rfl, hw⟩; obtain rfl := hw.symm))
  go_ret
  exact ⟨by rw [hv.out]; rfl, K2⟩
 have hpl := qz72 e2
 cases e3 : inB me 0 (x - 1)
 case false =>
  have hv : Hid (fitB x y z u A me h clk = false) := by show _ = _; simp [fitB, e1, e2, e3]
  go_wp2_with (first | (go_at_call 40; refine (qzd _ _ _ _).mono ?_; rintro e w' ⟨rfl, hw⟩; obtain rfl := hw.symm) | (go_at_call 71; refine (qzt _ _).mono ?_; rintro e w' ⟨rfl, hw⟩; obtain rfl := hw.symm))
  go_ret
  exact ⟨by rw [hv.out]; rfl, K2⟩
 cases e4 : inB clk 0 20000
 case false =>
  have hv : Hid (fitB x y z u A me h clk = false) := by show _ = _; simp [fitB, e1, e2, e3, e4]
  go_wp2_with (first | (go_at_call 40; refine (qzd _ _ _ _).mono ?_; rintro e w' ⟨rfl, hw⟩; obtain rfl := hw.symm) | (go_at_call 71; refine (qzt _ _).mono ?_; rintro e w' ⟨rfl, hw⟩; obtain rfl := hw.symm))
  go_ret
  exact ⟨by rw [hv.out]; rfl, K2⟩
 go_wp2_with (first | (go_at_call 40; refine (qzd _ _ _ _).mono ?_; rintro e w' ⟨rfl, hw⟩; obtain rfl := hw.symm) | (go_at_call 71; refine (qzt _ _).mono ?_; rintro e w' ⟨rfl, hw⟩; obtain rfl := hw.symm) | (refine qzx ?hw2 36 (.tmp 8) rfl (w.heap.size + 1 + 1) 0 ?hx2 (hdC h) _ ?hc2 Tryz.underlying36 rfl (qz1 h) ?_))
 try (case hw2 => first | rfl | kernel_rfl)
 try (case hx2 => rfl)
 try (case hc2 => exact H2)
 refine (qz8m A h a0 a1 a2 a3 c0 c1 c2 c3 _ hA').mono ?_
 clear p0 p1 p2 p3 x0 x1 x2 x3 x4
 rintro e w3 ⟨rfl, b2⟩
 have P3 := qz0 P2 b2 (by omega)
 have X3 := qz0 X2 b2 (by omega)
 have H3 := qz0 H2 b2 (by omega)
 have K3 := K2.trans (b2.mono (by omega))
 have I3 := I2.below (b2.mono hB2)
 have hz3 := Nat.lt_of_lt_of_le hz2 b2.size
 have hB3 := Nat.le_trans hB2 b2.size
 clear P2 X2 H2 K2 I2 hz2 hB2 b2
 have hv : Hid (fitB x y z u A me h clk = qz1b A h) := by show _ = _; simp [fitB, e1, e2, e3, e4]
 go_wp2_with fail
 go_ret
 exact ⟨by rw [hv.out]; rfl, K3⟩
end
section
attribute [local go_sem ↓] Go.wp_at_zero Go.wp_at_succ
structure qzcc (x y z u : Int) (A : Ar) (h : Hd) : Prop where
 ok : qz14 x y z u A = true
 ho : qz2a x y z u h = true
 x0 : 0 <= h.x_
 x1 : h.x_ < (A.nodes.length : Int)
 c0 : -1 <= h.curr
 c1 : h.curr < (A.nodes.length : Int)
 n0 : -1 <= h.new_
 v0 : 0 <= h.ver
 v1 : h.ver < (A.vers.length : Int)
 o0 : 0 <= h.out
 o1 : h.out <= 1000000
 s0 : 0 <= h.sum
 s1 : h.sum <= 1000000
 t0 : 0 <= h.then_
 t1 : h.then_ <= 7
 m0 : 0 <= h.cam
theorem qzbh {x y z u : Int} {A : Ar} {me : Int} {h : Hd} {clk : Int} (e : fitB x y z u A me h clk = true) : qzcc x y z u A h := by
 unfold fitB at e
 simp only [Bool.and_eq_true] at e
 obtain ⟨⟨⟨⟨e1, e2⟩, _⟩, _⟩, e5⟩ := e
 have e2' := e2
 unfold qz1b qz3i qz5n at e5
 unfold qz2a qz3d at e2'
 simp only [Bool.and_eq_true, Bool.or_eq_true, beq_iff_eq, qz2c] at e5 e2'
 refine ⟨e1, e2, ?_, ?_, ?_, ?_, ?_, ?_, ?_, ?_, ?_, ?_, ?_, ?_, ?_, ?_⟩ <;> omega
end
section
attribute [local go_sem ↓] Go.wp_at_zero Go.wp_at_succ
theorem qz5o {P : Program} (w : World) (base : Nat) (t ty e : TypeId) (i : TypeInfo) (z : Value) (size bytes : Nat) (ht : P.underlying t = some (.slice e)) (hi : P.info? e = some i) (hz : i.zero = some z)
  (hsize : i.size = size) (hby : i.bytes = bytes) (hzs : z.cells.size = size) (hsz : 0 < size) (g : Nat) (hown : w.ownsRow base e size (.slice (some ⟨g, 0, none⟩) 0 0) 0 [])
  (B : Nat) (x : Value) (len : Nat) (cs : List Value) (S : qzh B w x len cs) (hl : cs.length = len * size) (h1 : ∀ u ∈ cs, u.oneCell' = true) (h63 : len <= maxLen) (hbytes : len * bytes <= 140737488355328) (hbase : base <= w.heap.size) :
  ∃ v' w', (Builtin.append_ #[t, t] ty #[.slice (some ⟨g, 0, none⟩) 0 0, x]).run P w = .ok v' w' /\ w'.ownsRow base e size v' len cs /\ w.grownBy w' (some g) /\ (v'.ownBlock = some g ∨ v'.ownBlock = some w.heap.size) := by
 obtain ⟨a, cap, rfl, hS⟩ := S
 cases a with
 | none =>
  have h0 : len = 0 := by
   rcases hS with h | ⟨bb, off, h, _⟩
   ·exact h
   ·cases h
  subst h0
  have hc : cs = [] := List.eq_nil_of_length_eq_zero (by simpa using hl)
  subst hc
  have hr := run_append_room_src (P := P) w t t ty e i ht hi g 0 0 0 (.slice none 0 cap) 0 [] (Src.ofNil w ht cap) (by omega) (by simp) (by simp)
  refine ⟨_, _, hr, hown, ⟨rfl, rfl, rfl, Nat.le_refl _, fun _ _ _ => rfl⟩, Or.inl rfl⟩
 | some ad =>
  have hnews : ∀ j u, cs[j]? = some u -> w.cell? (ad.add j) = some u := by
   intro j u hj
   rcases hS with h | ⟨bb, off, h, _, R⟩
   ·subst h
    have hc : cs = [] := List.eq_nil_of_length_eq_zero (by simpa using hl)
    subst hc
    cases hj
   ·cases h
    have := R j u hj
    simpa [Addr.add_lit] using this
  obtain ⟨v', w', hr, h2, h3, _, h5⟩ := run_append_own_at (P := P) w base t ty e i z size bytes ht hi hz hsize hby hzs hsz _ 0 [] hown ad len cap cs hl hnews h1 (by simpa using h63) (by simpa using hbytes) hbase
  exact ⟨v', w', hr, by simpa using h2, h3, h5⟩
theorem qz54 {P : Program} (w : World) (base : Nat) (t ty e : TypeId) (i : TypeInfo) (z : Value) (size bytes : Nat) (ht : P.underlying t = some (.slice e)) (hi : P.info? e = some i) (hz : i.zero = some z)
  (hsize : i.size = size) (hby : i.bytes = bytes) (hzs : z.cells.size = size) (hsz : 0 < size) (g : Nat)
  (B : Nat) (x : Value) (len : Nat) (cs : List Value) (S : qzh B w x len cs) (hp : 0 < len) (hl : cs.length = len * size) (h1 : ∀ u ∈ cs, u.oneCell' = true) (h63 : len <= maxLen) (hbytes : len * bytes <= 140737488355328) (hbase : base <= w.heap.size) :
  ∃ cap w', (Builtin.append_ #[t, t] ty #[.slice (some ⟨g, 0, none⟩) 0 0, x]).run P w = .ok (.slice (some ⟨w.heap.size, 0, none⟩) len cap) w' /\ w'.ownsRow base e size (.slice (some ⟨w.heap.size, 0, none⟩) len cap) len cs /\ Below w.heap.size w w' /\ w.heap.size < w'.heap.size := by
 subst hsize
 subst hby
 obtain ⟨a, c, rfl, hS⟩ := S
 obtain ⟨bb, off, rfl, _, R⟩ : ∃ bb off, a = some ⟨bb, off, none⟩ /\ bb < B /\ w.rangeAt bb off cs := by
  rcases hS with h | h
  ·omega
  ·exact h
 have hnews : ∀ j u, cs[j]? = some u -> w.cell? ((⟨bb, off, none⟩ : Addr).add j) = some u := fun j u hj => by
  have := R j u hj
  simpa [Addr.add_lit] using this
 have hsmall : len <= 9223372036854775807 := by simp only [maxLen] at h63; omega
 have hr := run_append_grow (P := P) w t ty e i z ht hi hz ⟨g, 0, none⟩ 0 0 [] (by simp) (fun j u h => by cases h) ⟨bb, off, none⟩ len c cs hl hnews (by omega) (by omega) (growslice_fits (by omega) (by simpa using hbytes))
 simp only [Nat.zero_add] at hr
 have hge := grownCap_ge w len 0 e
 have hcm : grownCap w len 0 e <= maxLen := grownCap_le_maxLen w len 0 e h63
 refine ⟨_, _, hr, ⟨hl, .inr ⟨w.heap.size, _, _, rfl, hbase, heap_alloc_new w.drew _, hge, hcm, ?_, ?_⟩⟩, ⟨rfl, rfl, rfl, by simp, fun k hk => Below.heap_alloc w.drew _ k hk⟩, by simp⟩
 ·simp only [Array.size_append, List.size_toArray, size_zeroCells, hzs, hl, <- Nat.add_mul, List.length_nil, Nat.zero_add]
  congr 1
  omega
 ·simp only [Array.toList_append, List.append_assoc]
  rw [<- hl]
  simp
theorem qz47 {P : Program} {ops : Array Oper} {rest : List Oper} {o : Oper} {a : Act} {w : World} {Q : Exit -> Act -> World -> Prop} (hgd : o.guard = none) (s x : Operand) (t : TypeId)
  (ho : o.op = .call { callee := .builtin .append, args := #[s, x], argTypes := #[t, t] }) (base : Nat) (e : TypeId) (i : TypeInfo) (z : Value) (size bytes : Nat) (ht : P.underlying t = some (.slice e)) (hi : P.info? e = some i) (hz : i.zero = some z)
  (hsize : i.size = size) (hby : i.bytes = bytes) (hzs : z.cells.size = size) (hsz : 0 < size) (g : Nat) (hs : a.eval s = .slice (some ⟨g, 0, none⟩) 0 0) (hown : w.ownsRow base e size (.slice (some ⟨g, 0, none⟩) 0 0) 0 [])
  (B : Nat) (X : Value) (hx : a.eval x = X) (len : Nat) (cs : List Value) (S : qzh B w X len cs) (hl : cs.length = len * size) (h1 : ∀ u ∈ cs, u.oneCell' = true) (h63 : len <= maxLen) (hbytes : len * bytes <= 140737488355328) (hbase : base <= w.heap.size)
  (h : ∀ v' w', w'.ownsRow base e size v' len cs -> w.grownBy w' (some g) -> (v'.ownBlock = some g ∨ v'.ownBlock = some w.heap.size) -> wpList P ops Q rest (a.put o.dst v') w') : wpList P ops Q (o :: rest) a w := by
 refine wpList_plain hgd fun K hK => ?_
 obtain ⟨v', w', hr, h2, h3, h5⟩ := qz5o (P := P) w base t o.type e i z size bytes ht hi hz hsize hby hzs hsz g hown B X len cs S hl h1 h63 hbytes hbase
 unfold Oper.wp
 simp [execOp, ho, resolve, invoke, builtin, hs, hx, hr, Result.andThen, Oper.upon]
 exact hK _ _ (h v' w' h2 h3 h5)
theorem qz4a {α : Type} {f : α -> List Value} (hf : ∀ x, ∀ u ∈ f x, u.oneCell' = true) (l : List α) : ∀ u ∈ qz9 f l, u.oneCell' = true := by
 intro u hu
 unfold qz9 at hu
 obtain ⟨x, _, hx⟩ := List.mem_flatMap.1 hu
 exact hf x u hx
theorem qzb0 : ∀ (x : Int), ∀ u ∈ intC x, u.oneCell' = true := by
 intro x u hu
 simp [intC] at hu
 subst hu
 rfl
theorem qzbf : ∀ (x : Nd), ∀ u ∈ ndC x, u.oneCell' = true := by
 intro x u hu
 simp [ndC] at hu
 rcases hu with rfl | rfl | rfl <;> rfl
theorem qzba : ∀ (x : Vr), ∀ u ∈ vrC x, u.oneCell' = true := by
 intro x u hu
 simp [vrC] at hu
 rcases hu with rfl | rfl | rfl | rfl | rfl <;> rfl
theorem qz73 (B : Nat) (v : Value) (l : List Int) (w : World) (hB : B <= w.heap.size) (hl : l.length <= 1048576) (S : qzh B w v l.length (qz9 intC l)) :
  Calls Tryz.prog 45 #[v] w fun e w' => ∃ v', e = .returned v' /\ w'.ownsRow w.heap.size 2 1 v' l.length (qz9 intC l) /\ Below w.heap.size w w' := by
 obtain ⟨i0, hi, hzr, hsz, hby⟩ := info_parts qzb8
 have O0 := World.ownsRow_lit (base := w.heap.size) (e := 2) (size := 1) w #[] 0 (by simp) (by decide) (by simp)
 have al := (Below.refl w.heap.size w).alloc (Nat.le_refl _) (.cells #[] 2)
 have S1 := S.below (al.mono hB)
 obtain ⟨a, cap, rfl, hS⟩ := id S
 go_enter Tryz.func45, Tryz.ntmps45
 go_wp2_with (at_builtin; refine qz47 rfl _ _ 24 rfl w.heap.size 2 i0 (.int .i64 0) 1 8 Tryz.underlying24 hi hzr hsz hby rfl (by decide) w.heap.size rfl O0 B (.slice a l.length cap) rfl l.length (qz9 intC l) S1 (by rw [qzj (sz := 1) (fun _ => rfl)]) (qz4a qzb0 l) (by unfold maxLen; omega) (by omega) (by simp) ?_)
 intro v' w1 hown hgrow _
 have K1 := al.grown hgrow (by simp) (fun j e => by cases e; exact Nat.le_refl _)
 obtain ⟨va, vc, rfl⟩ := qz2w hown
 go_wp2
 go_ret
 exact ⟨_, rfl, hown, K1⟩
end
section
attribute [local go_sem ↓] Go.wp_at_zero Go.wp_at_succ
theorem qz8g {w : World} {base base' : Nat} {e : TypeId} {sz : Nat} {v : Value} {n : Nat} {xs : List Value} (h : w.ownsRow base e sz v n xs) (hb : base' <= base) : w.ownsRow base' e sz v n xs := by
 refine ⟨h.1, ?_⟩
 rcases h.2 with h0 | ⟨g, cap, cur, rfl, hg, rest⟩
 ·exact Or.inl h0
 ·exact Or.inr ⟨g, cap, cur, rfl, Nat.le_trans hb hg, rest⟩
theorem qz3f {w w' : World} {base : Nat} {e : TypeId} {sz : Nat} {v : Value} {n : Nat} {xs : List Value} (h : w.ownsRow base e sz v n xs) (hb : Below w.heap.size w w') : w'.ownsRow base e sz v n xs := qzae h hb (fun j e => qz4y h e)
theorem qz6j {w w' : World} {base b : Nat} {e : TypeId} {sz : Nat} {v : Value} {n : Nat} {xs : List Value} (h : w.ownsRow base e sz v n xs) (hb : Only b w w') (hv : ∀ j, v.ownBlock = some j -> j ≠ b) : w'.ownsRow base e sz v n xs := by
 have hlt := fun j e => qz4y h (j := j) e
 refine ⟨h.1, ?_⟩
 rcases h.2 with h0 | ⟨g, cap, cur, rfl, hg, hh, rest⟩
 ·exact Or.inl h0
 ·exact Or.inr ⟨g, cap, cur, rfl, hg, (hb.block g (hlt g rfl) (hv g rfl)).trans hh, rest⟩
theorem qz5q {w : World} {base : Nat} {e : TypeId} {sz : Nat} {v : Value} {n : Nat} {xs : List Value} (h : w.ownsRow base e sz v n xs) : qz2y v = v.ownBlock := by
 obtain ⟨a, c, rfl⟩ := qz2w h
 cases a <;> rfl
theorem qz3h {w : World} {base : Nat} {e : TypeId} {sz : Nat} {v : Value} {n : Nat} {xs : List Value} (h : w.ownsRow base e sz v n xs) : qzh w.heap.size w v n xs := by
 obtain ⟨b, a, cap, o, rfl, hN⟩ := qzbe h
 refine ⟨a, cap, rfl, ?_⟩
 rcases hN with h0 | ⟨rfl, _, hlt, R, _⟩
 ·exact Or.inl h0
 ·exact Or.inr ⟨b, o, rfl, hlt, R⟩
structure qz2x (base : Nat) (w : World) (s g n r : Value) (A : Ar) : Prop where
 rs : w.ownsRow base 2 1 s A.slots.length (qz9 intC A.slots)
 rg : w.ownsRow base 2 1 g A.guides.length (qz9 intC A.guides)
 rn : w.ownsRow base 65 3 n A.nodes.length (qz9 ndC A.nodes)
 rr : w.ownsRow base 80 5 r A.vers.length (qz9 vrC A.vers)
 ne : ∀ b, s.ownBlock = some b -> g.ownBlock ≠ some b
theorem qz2x.is {base : Nat} {w : World} {s g n r : Value} {A : Ar} (O : qz2x base w s g n r A) : qzi w.heap.size w s g n r A := ⟨qz3h O.rs, qz3h O.rg, qz3h O.rn, qz3h O.rr⟩
theorem qz2x.below {base : Nat} {w w' : World} {s g n r : Value} {A : Ar} (O : qz2x base w s g n r A) (hb : Below w.heap.size w w') : qz2x base w' s g n r A := ⟨qz3f O.rs hb, qz3f O.rg hb, qz3f O.rn hb, qz3f O.rr hb, O.ne⟩
theorem qz2x.only {base b : Nat} {w w' : World} {s g n r : Value} {A : Ar} (O : qz2x base w s g n r A) (hb : Only b w w') (hl : b < base) : qz2x base w' s g n r A :=
 ⟨qz6j O.rs hb (fun j e => by have := qz8w O.rs e; omega), qz6j O.rg hb (fun j e => by have := qz8w O.rg e; omega), qz6j O.rn hb (fun j e => by have := qz8w O.rn e; omega), qz6j O.rr hb (fun j e => by have := qz8w O.rr e; omega), O.ne⟩
theorem qz2x.lo {base base' : Nat} {w : World} {s g n r : Value} {A : Ar} (O : qz2x base w s g n r A) (hb : base' <= base) : qz2x base' w s g n r A := ⟨qz8g O.rs hb, qz8g O.rg hb, qz8g O.rn hb, qz8g O.rr hb, O.ne⟩
def qzbo (b bs : Nat) (A : Ar) (a0 a1 a2 a3 : Option Addr) (c0 c1 c2 c3 : Nat) : Nat -> Value -> World -> Prop
 | 0, v, _ => v = .pointer (some ⟨b, 0, none⟩)
 | 1, v, _ => v = .int .i64 A.camera
 | 2, v, _ => v = .pointer (some ⟨b, 1, none⟩)
 | 3, v, _ => v = .slice a0 A.slots.length c0
 | 4, v, w => w.ownsRow bs 2 1 v A.slots.length (qz9 intC A.slots)
 | 5, v, _ => v = .pointer (some ⟨b, 2, none⟩)
 | 6, v, _ => v = .slice a1 A.guides.length c1
 | 7, v, w => w.ownsRow bs 2 1 v A.guides.length (qz9 intC A.guides)
 | 8, v, _ => ∃ g, v = .slice (some ⟨g, 0, none⟩) 0 0
 | 9, v, _ => v = .pointer (some ⟨b, 3, none⟩)
 | 10, v, _ => v = .slice a2 A.nodes.length c2
 | 11, v, w => w.ownsRow bs 65 3 v A.nodes.length (qz9 ndC A.nodes)
 | 12, v, _ => ∃ g, v = .slice (some ⟨g, 0, none⟩) 0 0
 | 13, v, _ => v = .pointer (some ⟨b, 4, none⟩)
 | 14, v, _ => v = .slice a3 A.vers.length c3
 | 15, v, w => w.ownsRow bs 80 5 v A.vers.length (qz9 vrC A.vers)
 | _, _, _ => True
def qz67 : Nat -> Bool
 | 4 => true
 | 7 => true
 | _ => false
theorem qz9y {b bs : Nat} {A : Ar} {a0 a1 a2 a3 : Option Addr} {c0 c1 c2 c3 : Nat} (i : Nat) (v : Value) (w w' : World) (h : qzbo b bs A a0 a1 a2 a3 c0 c1 c2 c3 i v w) (hb : Below w.heap.size w w') : qzbo b bs A a0 a1 a2 a3 c0 c1 c2 c3 i v w' := by
 match i, h with
 | 0, h => exact h
 | 1, h => exact h
 | 2, h => exact h
 | 3, h => exact h
 | 4, h => exact qz3f h hb
 | 5, h => exact h
 | 6, h => exact h
 | 7, h => exact qz3f h hb
 | 8, h => exact h
 | 9, h => exact h
 | 10, h => exact h
 | 11, h => exact qz3f h hb
 | 12, h => exact h
 | 13, h => exact h
 | 14, h => exact h
 | 15, h => exact qz3f h hb
 | i + 16, h => exact trivial
theorem qzad {b bs : Nat} {A : Ar} {a0 a1 a2 a3 : Option Addr} {c0 c1 c2 c3 : Nat} (i : Nat) (v : Value) (w : World) (q : Nat) (hf : qz67 i = true) (h : qzbo b bs A a0 a1 a2 a3 c0 c1 c2 c3 i v w) (hq : qz2y v = some q) : q < w.heap.size := by
 unfold qz67 at hf
 split at hf
 ·rw [qz5q h] at hq; exact qz4y h hq
 ·rw [qz5q h] at hq; exact qz4y h hq
 ·cases hf
theorem qz9r (B : Nat) (A : Ar) (a0 a1 a2 a3 : Option Addr) (c0 c1 c2 c3 : Nat) (w : World) (hB : B <= w.heap.size) (hA : A.size <= 1048576) (I : qzi B w (.slice a0 A.slots.length c0) (.slice a1 A.guides.length c1) (.slice a2 A.nodes.length c2) (.slice a3 A.vers.length c3) A) (hs : 0 < A.slots.length) (hg : 0 < A.guides.length) (hn : 0 < A.nodes.length) (hr : 0 < A.vers.length) :
  Calls Tryz.prog 20 #[.agg #[.int .i64 A.camera, .slice a0 A.slots.length c0, .slice a1 A.guides.length c1, .slice a2 A.nodes.length c2, .slice a3 A.vers.length c3]] w fun e w' => ∃ s g n r, e = .returned (.agg #[.int .i64 A.camera, s, g, n, r]) /\ qz2x w.heap.size w' s g n r A /\ Below w.heap.size w w' := by
 unfold Ar.size at hA
 have X0 := World.rangeAt_alloc (qz5 w [.int .i64 A.camera, .slice a0 A.slots.length c0, .slice a1 A.guides.length c1, .slice a2 A.nodes.length c2, .slice a3 A.vers.length c3] 35) (.cells #[.int .i64 0, .slice none 0 0, .slice none 0 0, .slice none 0 0, .slice none 0 0] 35)
 have F0 := qzf (w.alloc (.cells #[.int .i64 A.camera, .slice a0 A.slots.length c0, .slice a1 A.guides.length c1, .slice a2 A.nodes.length c2, .slice a3 A.vers.length c3] 35)) #[.int .i64 0, .slice none 0 0, .slice none 0 0, .slice none 0 0, .slice none 0 0] 35 5 (by decide)
 have K0 := ((Below.refl w.heap.size w).alloc (Nat.le_refl _) (.cells #[.int .i64 A.camera, .slice a0 A.slots.length c0, .slice a1 A.guides.length c1, .slice a2 A.nodes.length c2, .slice a3 A.vers.length c3] 35)).alloc (by simp) (.cells #[.int .i64 0, .slice none 0 0, .slice none 0 0, .slice none 0 0, .slice none 0 0] 35)
 have hz0 : w.heap.size + 1 < ((w.alloc (.cells #[.int .i64 A.camera, .slice a0 A.slots.length c0, .slice a1 A.guides.length c1, .slice a2 A.nodes.length c2, .slice a3 A.vers.length c3] 35)).alloc (.cells #[.int .i64 0, .slice none 0 0, .slice none 0 0, .slice none 0 0, .slice none 0 0] 35)).heap.size := by simp
 simp only [World.size_alloc] at F0
 have I0 := I.below (K0.mono hB)
 go_enter Tryz.func20, Tryz.ntmps20
 go_wp2_with fail
 generalize hw0 : (w.alloc (.cells #[.int .i64 A.camera, .slice a0 A.slots.length c0, .slice a1 A.guides.length c1, .slice a2 A.nodes.length c2, .slice a3 A.vers.length c3] 35)).alloc (.cells #[.int .i64 0, .slice none 0 0, .slice none 0 0, .slice none 0 0, .slice none 0 0] 35) = w0 at *
 clear hw0 I
 refine qz20 16 (by kernel_rfl) (qzbo w.heap.size (w.heap.size + 2) A a0 a1 a2 a3 c0 c1 c2 c3) qz67 (by kernel_rfl) (by kernel_rfl) (by kernel_rfl) (by kernel_rfl) (by rfl) (fun i v w w' _ h hb => qz9y i v w w' h hb) (fun i v w q hf h hq => qzad i v w q hf h hq) ?step ?final
 case step =>
  intro i o hik ho a W hb hnn hd K hK
  obtain ⟨x0, x1, x2, x3, x4⟩ := row5 (qz0 X0 hb (by omega))
  have IW := I0.below (hb.mono (by omega))
  have hzW := hb.size
  match i, ho with
  | 0, ho =>
   obtain rfl := Option.some.inj ho
   have e1 : a.eval (.tmp 1) = .pointer (some ⟨w.heap.size, 0, none⟩) := hnn 1 rfl
   refine qz7 (v := .pointer (some ⟨w.heap.size, 0, none⟩)) (w' := W) ?_ (hK _ _ rfl (Below.refl _ _) (fun h => by cases h))
   generalize a.eval = ev at *
   go_simp
  | 1, ho =>
   obtain rfl := Option.some.inj ho
   have e1 : a.eval (.tmp 3) = .pointer (some ⟨w.heap.size, 0, none⟩) := hd ⟨0, .data⟩ (by simp) rfl 3 rfl
   refine qz7 (v := .int .i64 A.camera) (w' := W) ?_ (hK _ _ rfl (Below.refl _ _) (fun h => by cases h))
   generalize a.eval = ev at *
   go_simp
  | 2, ho =>
   obtain rfl := Option.some.inj ho
   have e1 : a.eval (.tmp 1) = .pointer (some ⟨w.heap.size, 0, none⟩) := hnn 1 rfl
   refine qz7 (v := .pointer (some ⟨w.heap.size, 1, none⟩)) (w' := W) ?_ (hK _ _ rfl (Below.refl _ _) (fun h => by cases h))
   generalize a.eval = ev at *
   go_simp
  | 3, ho =>
   obtain rfl := Option.some.inj ho
   have e1 : a.eval (.tmp 5) = .pointer (some ⟨w.heap.size, 1, none⟩) := hd ⟨2, .data⟩ (by simp) rfl 5 rfl
   refine qz7 (v := .slice a0 A.slots.length c0) (w' := W) ?_ (hK _ _ rfl (Below.refl _ _) (fun h => by cases h))
   generalize a.eval = ev at *
   go_simp
  | 4, ho =>
   obtain rfl := Option.some.inj ho
   have e1 : a.eval (.tmp 6) = .slice a0 A.slots.length c0 := hd ⟨3, .data⟩ (by simp) rfl 6 rfl
   have ef : a.eval (.func 45) = .func (.func 45) #[] #[] := rfl
   refine qz12 (f := 45) (args := #[.slice a0 A.slots.length c0]) (R := fun v w' => w'.ownsRow W.heap.size 2 1 v A.slots.length (qz9 intC A.slots) /\ Below W.heap.size W w') ?_ ((qz73 B _ A.slots W (by omega) (by omega) IW.s).mono (fun e w' h => h)) (fun v w' h => hK v w' (qz8g h.1 (by omega)) h.2 (fun _ q hq => by rw [qz5q h.1] at hq; exact qz8w h.1 hq))
   generalize a.eval = ev at *
   go_simp
  | 5, ho =>
   obtain rfl := Option.some.inj ho
   have e1 : a.eval (.tmp 1) = .pointer (some ⟨w.heap.size, 0, none⟩) := hnn 1 rfl
   refine qz7 (v := .pointer (some ⟨w.heap.size, 2, none⟩)) (w' := W) ?_ (hK _ _ rfl (Below.refl _ _) (fun h => by cases h))
   generalize a.eval = ev at *
   go_simp
  | 6, ho =>
   obtain rfl := Option.some.inj ho
   have e1 : a.eval (.tmp 8) = .pointer (some ⟨w.heap.size, 2, none⟩) := hd ⟨5, .data⟩ (by simp) rfl 8 rfl
   refine qz7 (v := .slice a1 A.guides.length c1) (w' := W) ?_ (hK _ _ rfl (Below.refl _ _) (fun h => by cases h))
   generalize a.eval = ev at *
   go_simp
  | 7, ho =>
   obtain rfl := Option.some.inj ho
   have e1 : a.eval (.tmp 9) = .slice a1 A.guides.length c1 := hd ⟨6, .data⟩ (by simp) rfl 9 rfl
   have ef : a.eval (.func 45) = .func (.func 45) #[] #[] := rfl
   refine qz12 (f := 45) (args := #[.slice a1 A.guides.length c1]) (R := fun v w' => w'.ownsRow W.heap.size 2 1 v A.guides.length (qz9 intC A.guides) /\ Below W.heap.size W w') ?_ ((qz73 B _ A.guides W (by omega) (by omega) IW.g).mono (fun e w' h => h)) (fun v w' h => hK v w' (qz8g h.1 (by omega)) h.2 (fun _ q hq => by rw [qz5q h.1] at hq; exact qz8w h.1 hq))
   generalize a.eval = ev at *
   go_simp
  | 8, ho =>
   obtain rfl := Option.some.inj ho
   refine qz7 (v := .slice (some ⟨W.heap.size, 0, none⟩) 0 0) (w' := W.alloc (.cells #[] 65)) ?_ (hK _ _ ⟨_, rfl⟩ ((Below.refl _ _).alloc (Nat.le_refl _) _) (fun h => by cases h))
   generalize a.eval = ev at *
   go_simp
  | 9, ho =>
   obtain rfl := Option.some.inj ho
   have e1 : a.eval (.tmp 1) = .pointer (some ⟨w.heap.size, 0, none⟩) := hnn 1 rfl
   refine qz7 (v := .pointer (some ⟨w.heap.size, 3, none⟩)) (w' := W) ?_ (hK _ _ rfl (Below.refl _ _) (fun h => by cases h))
   generalize a.eval = ev at *
   go_simp
  | 10, ho =>
   obtain rfl := Option.some.inj ho
   have e1 : a.eval (.tmp 12) = .pointer (some ⟨w.heap.size, 3, none⟩) := hd ⟨9, .data⟩ (by simp) rfl 12 rfl
   refine qz7 (v := .slice a2 A.nodes.length c2) (w' := W) ?_ (hK _ _ rfl (Below.refl _ _) (fun h => by cases h))
   generalize a.eval = ev at *
   go_simp
  | 11, ho =>
   obtain rfl := Option.some.inj ho
   obtain ⟨g, e1⟩ := (show ∃ g, a.eval (.tmp 11) = .slice (some ⟨g, 0, none⟩) 0 0 from hd ⟨8, .data⟩ (by simp) rfl 11 rfl)
   have e2 : a.eval (.tmp 13) = .slice a2 A.nodes.length c2 := hd ⟨10, .data⟩ (by simp) rfl 13 rfl
   obtain ⟨i0, hi, hzr, hsz, hby⟩ := info_parts qz62
   obtain ⟨cap, w', hrun, how, hbl, hlt⟩ := qz54 (P := Tryz.prog) W (w.heap.size + 2) 32 32 65 i0 _ 3 24 Tryz.underlying32 hi hzr hsz hby rfl (by decide) g B _ A.nodes.length (qz9 ndC A.nodes) IW.n hn (by rw [qzj (sz := 3) (fun _ => rfl)]) (qz4a qzbf A.nodes) (by unfold maxLen; omega) (by omega) (by omega)
   refine qz7 (v := .slice (some ⟨W.heap.size, 0, none⟩) A.nodes.length cap) (w' := w') ?_ (hK _ _ how hbl (fun h => by cases h))
   generalize a.eval = ev at *
   simp [execOp, resolve, invoke, builtin, e1, e2, hrun, Result.andThen]
  | 12, ho =>
   obtain rfl := Option.some.inj ho
   refine qz7 (v := .slice (some ⟨W.heap.size, 0, none⟩) 0 0) (w' := W.alloc (.cells #[] 80)) ?_ (hK _ _ ⟨_, rfl⟩ ((Below.refl _ _).alloc (Nat.le_refl _) _) (fun h => by cases h))
   generalize a.eval = ev at *
   go_simp
  | 13, ho =>
   obtain rfl := Option.some.inj ho
   have e1 : a.eval (.tmp 1) = .pointer (some ⟨w.heap.size, 0, none⟩) := hnn 1 rfl
   refine qz7 (v := .pointer (some ⟨w.heap.size, 4, none⟩)) (w' := W) ?_ (hK _ _ rfl (Below.refl _ _) (fun h => by cases h))
   generalize a.eval = ev at *
   go_simp
  | 14, ho =>
   obtain rfl := Option.some.inj ho
   have e1 : a.eval (.tmp 16) = .pointer (some ⟨w.heap.size, 4, none⟩) := hd ⟨13, .data⟩ (by simp) rfl 16 rfl
   refine qz7 (v := .slice a3 A.vers.length c3) (w' := W) ?_ (hK _ _ rfl (Below.refl _ _) (fun h => by cases h))
   generalize a.eval = ev at *
   go_simp
  | 15, ho =>
   obtain rfl := Option.some.inj ho
   obtain ⟨g, e1⟩ := (show ∃ g, a.eval (.tmp 15) = .slice (some ⟨g, 0, none⟩) 0 0 from hd ⟨12, .data⟩ (by simp) rfl 15 rfl)
   have e2 : a.eval (.tmp 17) = .slice a3 A.vers.length c3 := hd ⟨14, .data⟩ (by simp) rfl 17 rfl
   obtain ⟨i0, hi, hzr, hsz, hby⟩ := info_parts qz7x
   obtain ⟨cap, w', hrun, how, hbl, hlt⟩ := qz54 (P := Tryz.prog) W (w.heap.size + 2) 33 33 80 i0 _ 5 40 Tryz.underlying33 hi hzr hsz hby rfl (by decide) g B _ A.vers.length (qz9 vrC A.vers) IW.r hr (by rw [qzj (sz := 5) (fun _ => rfl)]) (qz4a qzba A.vers) (by unfold maxLen; omega) (by omega) (by omega)
   refine qz7 (v := .slice (some ⟨W.heap.size, 0, none⟩) A.vers.length cap) (w' := w') ?_ (hK _ _ how hbl (fun h => by cases h))
   generalize a.eval = ev at *
   simp [execOp, resolve, invoke, builtin, e1, e2, hrun, Result.andThen]
  | n + 16, ho => omega
 case final =>
  intro vs W hb hG hD
  have g1 : vs 1 = .int .i64 A.camera := hG 1 (by decide)
  have g4 : W.ownsRow (w.heap.size + 2) 2 1 (vs 4) A.slots.length (qz9 intC A.slots) := hG 4 (by decide)
  have g7 : W.ownsRow (w.heap.size + 2) 2 1 (vs 7) A.guides.length (qz9 intC A.guides) := hG 7 (by decide)
  have g11 : W.ownsRow (w.heap.size + 2) 65 3 (vs 11) A.nodes.length (qz9 ndC A.nodes) := hG 11 (by decide)
  have g15 : W.ownsRow (w.heap.size + 2) 80 5 (vs 15) A.vers.length (qz9 vrC A.vers) := hG 15 (by decide)
  have hne : ∀ b, (vs 4).ownBlock = some b -> (vs 7).ownBlock ≠ some b := fun b h => by
   have := hD 4 7 b (by decide) (by decide) (by decide) rfl rfl (by rw [qz5q g4]; exact h)
   rw [qz5q g7] at this
   exact this
  have OW : qz2x (w.heap.size + 2) W (vs 4) (vs 7) (vs 11) (vs 15) A := ⟨g4, g7, g11, g15, hne⟩
  have FW := qz3 F0 hb (by omega)
  have KW := K0.trans (hb.mono (by omega))
  generalize hl : laid _ vs _ _ _ = A'
  have hA' : A' = { tmps := #[.agg #[.int .i64 A.camera, .slice a0 A.slots.length c0, .slice a1 A.guides.length c1, .slice a2 A.nodes.length c2, .slice a3 A.vers.length c3], .pointer (some ⟨w.heap.size, 0, none⟩), .pointer (some ⟨w.heap.size + 1, 0, none⟩), vs 0, vs 1, vs 2, vs 3, vs 4, vs 5, vs 6, vs 7, vs 8, vs 9, vs 10, vs 11, vs 12, vs 13, vs 14, vs 15, undef], defers := [] } := by
   rw [<- hl]
   kernel_rfl
  subst hA'
  rw [g1]
  obtain ⟨sa, sc, es⟩ := qz2w g4
  obtain ⟨ga, gc, eg⟩ := qz2w g7
  obtain ⟨na, nc, en⟩ := qz2w g11
  obtain ⟨ra, rc, er⟩ := qz2w g15
  rw [es, eg, en, er] at OW ⊢
  clear hl hG hD g1 g4 g7 g11 g15 hne es eg en er X0 F0 I0 K0
  have OF : qz2x w.heap.size (W.setCells (w.heap.size + 1) 0 [.int .i64 A.camera, .slice sa A.slots.length sc, .slice ga A.guides.length gc, .slice na A.nodes.length nc, .slice ra A.vers.length rc]) (.slice sa A.slots.length sc) (.slice ga A.guides.length gc) (.slice na A.nodes.length nc) (.slice ra A.vers.length rc) A := (OW.only (qzg (w.heap.size + 1) _ 0 W) (by omega)).lo (by omega)
  have KF := Below.setCells (B := w.heap.size) (b := w.heap.size + 1) (by omega) [.int .i64 A.camera, .slice sa A.slots.length sc, .slice ga A.guides.length gc, .slice na A.nodes.length nc, .slice ra A.vers.length rc] 0 _ KW
  go_wp2_with (refine wpList_store_mid rfl 35 (.tmp 2) (.tmp 19) rfl (w.heap.size + 1) 0 #[.int .i64 A.camera, .slice sa A.slots.length sc, .slice ga A.guides.length gc, .slice na A.nodes.length nc, .slice ra A.vers.length rc] ?hx ?hy ?ht ?hi ?h1 ?_)
  case hx => rfl
  case hy => rfl
  case ht => exact FW
  case hi => exact qz64
  case h1 => simp [Value.oneCell']
  refine bodyPost_ret (v := .agg #[.int .i64 A.camera, .slice sa A.slots.length sc, .slice ga A.guides.length gc, .slice na A.nodes.length nc, .slice ra A.vers.length rc]) ?_ rfl ⟨_, _, _, _, rfl, OF, KF⟩
  exact qz4 Tryz.results20 _ _ (w.heap.size + 1) 0 rfl [.int .i64 A.camera, .slice sa A.slots.length sc, .slice ga A.guides.length gc, .slice na A.nodes.length nc, .slice ra A.vers.length rc] _ (World.rangeAt_setCells_same _ _ _ _ FW) Tryz.underlying35 rfl qz64
end
section
attribute [local go_sem ↓] Go.wp_at_zero Go.wp_at_succ
theorem qzbi {w : World} {base : Nat} {e : TypeId} {sz : Nat} {g n cap : Nat} {xs : List Value} (h : w.ownsRow base e sz (.slice (some ⟨g, 0, none⟩) n cap) n xs) (k : Nat) (hk : k < n * sz) (u : Value) : (w.setCell ⟨g, k, none⟩ u).ownsRow base e sz (.slice (some ⟨g, 0, none⟩) n cap) n (xs.set k u) := by
 refine ⟨by rw [List.length_set]; exact h.1, ?_⟩
 rcases h.2 with ⟨h0, _⟩ | ⟨g', cap', cur, e1, hg, hh, hnc, hcm, hs, ht⟩
 ·cases h0
 ·cases e1
  obtain ⟨hlt, hk'⟩ := Array.getElem?_eq_some_iff.1 hh
  refine Or.inr ⟨g, cap, cur.setIfInBounds k u, rfl, hg, ?_, hnc, hcm, by simpa using hs, ?_⟩
  ·show (w.heap.modify g _)[g]? = _
   rw [Array.getElem?_eq_getElem (by rw [Array.size_modify]; exact hlt), Array.getElem_modify_self, hk']
   rfl
  ·rw [Array.toList_setIfInBounds, <- ht, List.take_set]
theorem qz9f {w : World} {base : Nat} {e : TypeId} {sz : Nat} {g n cap : Nat} {xs : List Value} (h : w.ownsRow base e sz (.slice (some ⟨g, 0, none⟩) n cap) n xs) (k : Nat) (u : Value) (hu : xs[k]? = some u) : w.cell? ⟨g, k, none⟩ = some u /\ w.frozen? ⟨g, k, none⟩ = false := by
 rcases h.2 with ⟨h0, _⟩ | ⟨g', cap', cur, e1, hg, hh, hnc, hcm, hs, ht⟩
 ·cases h0
 ·cases e1
  have hk : k < xs.length := by
   rcases Nat.lt_or_ge k xs.length with h' | h'
   ·exact h'
   ·rw [List.getElem?_eq_none h'] at hu; cases hu
  have h1 : cur.toList[k]? = some u := by
   rw [<- ht] at hu
   rw [List.getElem?_take] at hu
   split at hu
   ·exact hu
   ·cases hu
  constructor
  ·simp only [World.cell?, hh]
   simpa using h1
  ·simp [World.frozen?, hh]
theorem qz5w {α : Type} {f : α -> List Value} {sz : Nat} (hf : ∀ x, (f x).length = sz) : ∀ (l : List α) (i : Nat) (hi : i < l.length) (j : Nat) (hj : j < sz) (y : α) (u : Value), f y = (f l[i]).set j u -> qz9 f (l.set i y) = (qz9 f l).set (i * sz + j) u
 | x :: l, 0, _, j, hj, y, u, h => by
  simp only [List.set_cons_zero, qz9, List.flatMap_cons, Nat.zero_mul, Nat.zero_add]
  rw [List.set_append_left _ _ (by rw [hf]; exact hj)]
  simp only [List.getElem_cons_zero] at h
  rw [h]
 | x :: l, i + 1, hi, j, hj, y, u, h => by
  have ih := qz5w hf l i (by simpa using hi) j hj y u (by simpa using h)
  simp only [List.set_cons_succ, qz9, List.flatMap_cons] at ih ⊢
  rw [ih, List.set_append_right _ _ (by rw [hf, Nat.add_mul]; omega), hf]
  congr 2
  rw [Nat.add_mul]
  omega
def OwnB (s g n r : Value) (q : Nat) : Prop := s.ownBlock = some q ∨ g.ownBlock = some q ∨ n.ownBlock = some q ∨ r.ownBlock = some q
theorem qzb1 {w : World} {base base' : Nat} {e e' : TypeId} {sz sz' : Nat} {v v' : Value} {n n' : Nat} {xs xs' : List Value} (h : w.ownsRow base e sz v n xs) (h' : w.ownsRow base' e' sz' v' n' xs') (hne : e ≠ e') (b : Nat) (hb : v.ownBlock = some b) : v'.ownBlock ≠ some b := by
 intro hb'
 rcases h.2 with ⟨rfl, _⟩ | ⟨g, cap, cur, rfl, _, hh, _⟩
 ·cases hb
 ·rcases h'.2 with ⟨rfl, _⟩ | ⟨g', cap', cur', rfl, _, hh', _⟩
  ·cases hb'
  ·simp [Value.ownBlock] at hb hb'
   subst hb
   subst hb'
   rw [hh] at hh'
   simp at hh'
   exact hne hh'.2
theorem qz56 {w w' : World} {S : Nat -> Prop} {base : Nat} {e : TypeId} {sz : Nat} {v : Value} {n : Nat} {xs : List Value} (h : w.ownsRow base e sz v n xs) (hb : But S w w') (hv : ∀ j, v.ownBlock = some j -> ¬ S j) : w'.ownsRow base e sz v n xs := by
 have hlt := fun j e => qz4y h (j := j) e
 refine ⟨h.1, ?_⟩
 rcases h.2 with h0 | ⟨g, cap, cur, rfl, hg, hh, rest⟩
 ·exact Or.inl h0
 ·exact Or.inr ⟨g, cap, cur, rfl, hg, (hb.block g (hlt g rfl) (hv g rfl)).trans hh, rest⟩
theorem qz2x.lt {base : Nat} {w : World} {s g n r : Value} {A : Ar} (O : qz2x base w s g n r A) (q : Nat) (h : OwnB s g n r q) : q < w.heap.size := by
 rcases h with h | h | h | h
 ·exact qz4y O.rs h
 ·exact qz4y O.rg h
 ·exact qz4y O.rn h
 ·exact qz4y O.rr h
theorem qz2x.kept {base : Nat} {w w' : World} {S : Nat -> Prop} {s g n r : Value} {A : Ar} (O : qz2x base w s g n r A) (hb : But S w w') (hv : ∀ q, OwnB s g n r q -> ¬ S q) : qz2x base w' s g n r A :=
 ⟨qz56 O.rs hb (fun j e => hv j (Or.inl e)), qz56 O.rg hb (fun j e => hv j (Or.inr (Or.inl e))), qz56 O.rn hb (fun j e => hv j (Or.inr (Or.inr (Or.inl e)))), qz56 O.rr hb (fun j e => hv j (Or.inr (Or.inr (Or.inr e)))), O.ne⟩
structure qz80 (base : Nat) (w w' : World) (s g n r s' g' n' r' : Value) (A : Ar) : Prop where
 own : qz2x base w' s' g' n' r' A
 but : But (OwnB s g n r) w w'
 blk : ∀ q, OwnB s' g' n' r' q -> OwnB s g n r q ∨ w.heap.size <= q
end
section
theorem But.far {S : Nat -> Prop} {b : Nat} {w0 w w' : World} (h : But S w0 w) (k : Only b w w') (hb : w0.heap.size <= b) : But S w0 w' :=
 ⟨k.os.trans h.os, k.tape.trans h.tape, k.output.trans h.output, Nat.le_trans h.size k.size, fun q hq hn => (k.block q (Nat.lt_of_lt_of_le hq h.size) (by omega)).trans (h.block q hq hn)⟩
structure Stp (base : Nat) (w0 w : World) (b bo : Nat) (s0 g0 n0 r0 s g n r : Value) (A : Ar) (D : List Value) : Prop where
 row : w.rangeAt b 0 D
 th : w.there b 0 33
 to : w.there bo 0 33
 lo : w0.heap.size <= b
 lt : b < bo
 hi : bo < w.heap.size
 own : qz2x base w s g n r A
 but : But (OwnB s0 g0 n0 r0) w0 w
 blk : ∀ q, OwnB s g n r q -> OwnB s0 g0 n0 r0 q ∨ w0.heap.size <= q
 ne : ∀ q, OwnB s g n r q -> q ≠ b /\ q ≠ bo
section
variable {base : Nat} {w0 w w' : World} {b bo : Nat} {s0 g0 n0 r0 s g n r : Value} {A : Ar} {D : List Value}
theorem Stp.below (S : Stp base w0 w b bo s0 g0 n0 r0 s g n r A D) (hb : Below w.heap.size w w') : Stp base w0 w' b bo s0 g0 n0 r0 s g n r A D :=
 ⟨qz0 S.row hb (Nat.lt_trans S.lt S.hi), qz3 S.th hb (Nat.lt_trans S.lt S.hi), qz3 S.to hb S.hi, S.lo, S.lt, Nat.lt_of_lt_of_le S.hi hb.size, S.own.below hb, S.but.trans (But.of_below hb), S.blk, S.ne⟩
theorem Stp.at_b (S : Stp base w0 w b bo s0 g0 n0 r0 s g n r A D) (k : Only b w w') {D' : List Value} (row : w'.rangeAt b 0 D') (th : w'.there b 0 33) (to : w'.there bo 0 33) : Stp base w0 w' b bo s0 g0 n0 r0 s g n r A D' :=
 ⟨row, th, to, S.lo, S.lt, Nat.lt_of_lt_of_le S.hi k.size, S.own.kept (But.of_only (S := fun q => q = b) k rfl) (fun q hq => (S.ne q hq).1), S.but.far k S.lo, S.blk, S.ne⟩
theorem Stp.put (S : Stp base w0 w b bo s0 g0 n0 r0 s g n r A D) (k : Nat) (hk : k < D.length) (v : Value) : Stp base w0 (w.setCell ⟨b, k, none⟩ v) b bo s0 g0 n0 r0 s g n r A (D.set k v) :=
 S.at_b ((Only.refl b w).setCell (p := ⟨b, k, none⟩) (Or.inl rfl) v) (qz6 S.row k hk v) (qz2 S.th _ _) (qz2 S.to _ _)
theorem Stp.puts (S : Stp base w0 w b bo s0 g0 n0 r0 s g n r A D) (p q t vs : List Value) (hD : D = p ++ (q ++ t)) (hl : vs.length = q.length) (h33 : D.length = 33) : Stp base w0 (w.setCells b p.length vs) b bo s0 g0 n0 r0 s g n r A (p ++ (vs ++ t)) := by
 subst hD
 have hp : p.length + q.length <= 33 := by simp only [List.length_append] at h33; omega
 have T := qz1f S.th p.length q.length hp
 rw [Nat.zero_add, <- hl] at T
 refine S.at_b (qzg b vs p.length w) ?_ (World.there_setCells S.th _ _ _) (World.there_setCells S.to _ _ _)
 obtain ⟨R1, R2⟩ := qz34 S.row
 obtain ⟨R3, R4⟩ := qz34 R2
 rw [Nat.zero_add] at R2 R3 R4
 refine qz5a (World.rangeAt_setCells_apart R1 _ _ _ (Or.inr (Or.inl (by simp)))) (qz5a ?_ ?_)
 ·rw [Nat.zero_add]; exact World.rangeAt_setCells_same w b p.length vs T
 ·rw [Nat.zero_add, hl]; exact World.rangeAt_setCells_apart R4 _ _ _ (Or.inr (Or.inr (by rw [hl]; exact Nat.le_refl _)))
theorem Stp.hand {cam : Int} {h : Hd} {d : Dd} {tk : Bool} (S : Stp base w0 w b bo s0 g0 n0 r0 s g n r A (qzl cam s g n r h d tk)) (h' : Hd) : Stp base w0 (w.setCells b 5 (hdC h')) b bo s0 g0 n0 r0 s g n r A (qzl cam s g n r h' d tk) :=
 S.puts [.int .i64 cam, s, g, n, r] (hdC h) (ddC d ++ [.bool tk]) (hdC h') rfl rfl rfl
theorem Stp.deed {cam : Int} {h : Hd} {d : Dd} {tk : Bool} (S : Stp base w0 w b bo s0 g0 n0 r0 s g n r A (qzl cam s g n r h d tk)) (d' : Dd) : Stp base w0 (w.setCells b 27 (ddC d')) b bo s0 g0 n0 r0 s g n r A (qzl cam s g n r h d' tk) :=
 S.puts ([.int .i64 cam, s, g, n, r] ++ hdC h) (ddC d) [.bool tk] (ddC d') rfl rfl rfl
theorem Stp.ver {rb rc : Nat} (S : Stp base w0 w b bo s0 g0 n0 r0 s g n (.slice (some ⟨rb, 0, none⟩) A.vers.length rc) A D) (hr : OwnB s0 g0 n0 r0 rb ∨ w0.heap.size <= rb) (k : Nat) (hk : k < A.vers.length) (j : Nat) (hj : j < 5) (y : Vr) (v : Value) (hy : vrC y = (vrC A.vers[k]).set j v) : Stp base w0 (w.setCell ⟨rb, k * 5 + j, none⟩ v) b bo s0 g0 n0 r0 s g n (.slice (some ⟨rb, 0, none⟩) A.vers.length rc) { A with vers := A.vers.set k y } D := by
 have hO : Only rb w (w.setCell ⟨rb, k * 5 + j, none⟩ v) := (Only.refl rb w).setCell (p := ⟨rb, k * 5 + j, none⟩) (Or.inl rfl) v
 have hne := S.ne rb (Or.inr (Or.inr (Or.inr rfl)))
 have hB : But (fun q => q = rb) w (w.setCell ⟨rb, k * 5 + j, none⟩ v) := But.of_only hO rfl
 refine ⟨hB.range S.row (Nat.lt_trans S.lt S.hi) (fun e => hne.1 e.symm), hB.there S.th (Nat.lt_trans S.lt S.hi) (fun e => hne.1 e.symm), hB.there S.to S.hi (fun e => hne.2 e.symm), S.lo, S.lt, Nat.lt_of_lt_of_le S.hi hO.size, ?_, ?_, S.blk, S.ne⟩
 ·have hv := qzbi S.own.rr (k * 5 + j) (by omega) v
  rw [<- qz5w (f := vrC) (sz := 5) (fun _ => rfl) A.vers k hk j hj y v hy] at hv
  refine ⟨qz56 S.own.rs hB (fun i e h => ?_), qz56 S.own.rg hB (fun i e h => ?_), qz56 S.own.rn hB (fun i e h => ?_), by simpa using hv, S.own.ne⟩
  ·subst h; exact qzb1 S.own.rs S.own.rr (by decide) _ e rfl
  ·subst h; exact qzb1 S.own.rg S.own.rr (by decide) _ e rfl
  ·subst h; exact qzb1 S.own.rn S.own.rr (by decide) _ e rfl
 ·rcases hr with hr | hr
  ·exact S.but.trans (But.of_only hO hr)
  ·exact S.but.far hO hr
theorem Stp.fin (S : Stp base w0 w b bo s0 g0 n0 r0 s g n r A D) : qz80 base w0 (w.setCells bo 0 D) s0 g0 n0 r0 s g n r A :=
 ⟨S.own.kept (But.of_only (S := fun q => q = bo) (qzg bo D 0 w) rfl) (fun q hq => (S.ne q hq).2), S.but.far (qzg bo D 0 w) (Nat.le_trans S.lo (Nat.le_of_lt S.lt)), S.blk⟩
theorem Stp.out (S : Stp base w0 w b bo s0 g0 n0 r0 s g n r A D) (h33 : D.length = 33) : (w.setCells bo 0 D).rangeAt bo 0 D :=
 World.rangeAt_setCells_same _ _ _ _ (by rw [h33]; exact S.to)
theorem Stp.is (S : Stp base w0 w b bo s0 g0 n0 r0 s g n r A D) : qzi w.heap.size w s g n r A := S.own.is
theorem Stp.cell (S : Stp base w0 w b bo s0 g0 n0 r0 s g n r A D) (k : Nat) {v : Value} (h : D[k]? = some v) : w.cell? ⟨b, k, none⟩ = some v := by simpa using S.row k v h
theorem Stp.free (S : Stp base w0 w b bo s0 g0 n0 r0 s g n r A D) (k : Nat) (h : k < 33) : w.frozen? ⟨b, k, none⟩ = false := by simpa using (S.th k h).2
end
theorem qzb6 (base : Nat) (w : World) (s g n r : Value) (A : Ar) (D Z : List Value) (T : TypeId) (O : qz2x base w s g n r A) (hD : D.length = 33) (hZ : Z.length = 33) : Stp base w ((w.alloc (.cells D.toArray T)).alloc (.cells Z.toArray T)) w.heap.size (w.heap.size + 1) s g n r s g n r A D := by
 have K0 := ((Below.refl w.heap.size w).alloc (Nat.le_refl _) (.cells D.toArray T)).alloc (by simp) (.cells Z.toArray T)
 have F0 := qzf (w.alloc (.cells D.toArray T)) Z.toArray T 33 (by rw [List.size_toArray, hZ]; exact Nat.le_refl _)
 rw [World.size_alloc] at F0
 exact ⟨World.rangeAt_alloc (qz5 w D T) _, World.there_alloc (qzf w D.toArray T 33 (by rw [List.size_toArray, hD]; exact Nat.le_refl _)) _, F0, Nat.le_refl _, Nat.lt_succ_self _, by simp, O.below K0, But.of_below K0, fun q h => Or.inl h, fun q h => by have := O.lt q h; omega⟩
end
section
attribute [local go_sem ↓] Go.wp_at_zero Go.wp_at_succ
def qz32 (A : Ar) (h : Hd) : Ar := { A with vers := A.vers.set h.ver.toNat { vrOf A h.ver with stamp := min h.cam A.camera } }
def qz1h (A : Ar) (h : Hd) (d : Dd) (clock : Int) : Ar × Hd × Dd :=
 if h.at_ = 2 then (A, { h with ver := (ndOf A h.x_).head, at_ := 3 }, d)
 else if h.at_ = 3 then (if qz1a A h.ver = true then (A, onH A h, d) else (A, { h with at_ := 4 }, d))
 else if h.at_ = 4 then (A, { h with cam := A.camera, camAt := clock, at_ := 5 }, d)
 else if h.at_ = 5 then (if qz1a A h.ver = true then (A, onH A h, d) else (qz32 A h, onH (qz32 A h) h, qz2b (qz32 A h) h))
 else (A, h, d)
theorem qz3z (A : Ar) (h : Hd) : (qz32 A h).size = A.size := by simp [qz32, Ar.size]
theorem qz9s {x y z u : Int} {A : Ar} {h : Hd} (hOk : qz14 x y z u A = true) (hc : 0 <= h.cam) (hv0 : 0 <= h.ver) (hv1 : h.ver < (A.vers.length : Int)) : qz14 x y z u (qz32 A h) = true := by
 obtain ⟨h1, h2, h3, h4, h5⟩ := qz36 hOk
 simp only [qz14, Bool.and_eq_true]
 refine ⟨⟨⟨⟨?_, h2⟩, h3⟩, ?_⟩, ?_⟩
 ·simpa [qz84, qz32] using h1
 ·simpa [qz32] using h4
 ·rw [qz1e] at h5 ⊢
  intro i hi
  have hi' : i < A.vers.length := by simpa [qz32] using hi
  have h6 := h5 i hi'
  have hcam : 0 <= A.camera := by simp only [qz84, Bool.and_eq_true, qz2c] at h1; omega
  simp only [qz32, List.getElem_set]
  split
  ·rename_i e
   obtain ⟨k, hk⟩ : ∃ k : Nat, h.ver = k := ⟨h.ver.toNat, by omega⟩
   have : i = k := by omega
   subst this
   rw [hk, qz2z A i hi']
   simp only [verB, Bool.and_eq_true, qz2c] at h6 ⊢
   exact ⟨⟨⟨h6.1.1.1, by omega⟩, h6.1.2⟩, h6.2⟩
  ·exact h6
theorem qz9m (base : Nat) (A : Ar) (h : Hd) (d : Dd) (tk : Bool) (clock : Int) (s g n r : Value) (w : World) (hbase : base <= w.heap.size) (hA : A.size <= 1048576) (O : qz2x base w s g n r A) (x y z u : Int) (hOk : qz14 x y z u A = true) (hv0 : 0 <= h.ver) (hv1 : h.ver < (A.vers.length : Int)) (hx0 : 0 <= h.x_) (hx1 : h.x_ < (A.nodes.length : Int)) (hcu : h.curr < (A.nodes.length : Int)) (ho0 : 0 <= h.out) (ho1 : h.out <= 1000000) (hs0 : 0 <= h.sum) (hs1 : h.sum <= 1000000) (hcm : 0 <= h.cam) :
  Calls Tryz.prog 19 #[.agg (qzl A.camera s g n r h d tk).toArray, .int .i64 clock] w fun e w' => ∃ s' g' n' r', e = .returned (.agg (qzl A.camera s' g' n' r' (qz1h A h d clock).2.1 (qz1h A h d clock).2.2 tk).toArray) /\ qz80 base w w' s g n r s' g' n' r' (qz1h A h d clock).1 := by
 have hA' := hA
 unfold Ar.size at hA
 obtain ⟨sa, sc, rfl⟩ := qz2w O.rs
 obtain ⟨ga, gc, rfl⟩ := qz2w O.rg
 obtain ⟨nb, nc, rfl⟩ := qz7y O.rn (by omega)
 obtain ⟨rb, rc, rfl⟩ := qz7y O.rr (by omega)
 have S0 := qzb6 base w (.slice sa A.slots.length sc) (.slice ga A.guides.length gc) (.slice (some ⟨nb, 0, none⟩) A.nodes.length nc) (.slice (some ⟨rb, 0, none⟩) A.vers.length rc) A (qzl A.camera (.slice sa A.slots.length sc) (.slice ga A.guides.length gc) (.slice (some ⟨nb, 0, none⟩) A.nodes.length nc) (.slice (some ⟨rb, 0, none⟩) A.vers.length rc) h d tk) [.int .i64 0, .slice none 0 0, .slice none 0 0, .slice none 0 0, .slice none 0 0, .int .i64 0, .int .i64 0, .int .i64 0, .int .i64 0, .int .i64 0, .int .i64 0, .int .i64 0, .int .i64 0, .int .i64 0, .int .i64 0, .int .i64 0, .int .i64 0, .int .i64 0, .int .i64 0, .int .i64 0, .int .i64 0, .int .i64 0, .int .i64 0, .int .i64 0, .int .i64 0, .int .i64 0, .int .i64 0, .int .i64 0, .int .i64 0, .int .i64 0, .int .i64 0, .int .i64 0, .bool false] 40 O rfl rfl
 have hnb := qz4y O.rn (j := nb) rfl
 have hrb := qz4y O.rr (j := rb) rfl
 obtain ⟨xk, hxk⟩ : ∃ k : Nat, h.x_ = k := ⟨h.x_.toNat, by omega⟩
 obtain ⟨vk, hvk⟩ : ∃ k : Nat, h.ver = k := ⟨h.ver.toNat, by omega⟩
 have hxl : xk < A.nodes.length := by omega
 have hvl : vk < A.vers.length := by omega
 go_enter Tryz.func19, Tryz.ntmps19
 have tok : True := trivial
 go_wp2_with (clear tok; refine qz24 ((w.alloc (.cells (qzl A.camera (.slice sa A.slots.length sc) (.slice ga A.guides.length gc) (.slice (some ⟨nb, 0, none⟩) A.nodes.length nc) (.slice (some ⟨rb, 0, none⟩) A.vers.length rc) h d tk).toArray 40)).alloc (.cells #[.int .i64 0, .slice none 0 0, .slice none 0 0, .slice none 0 0, .slice none 0 0, .int .i64 0, .int .i64 0, .int .i64 0, .int .i64 0, .int .i64 0, .int .i64 0, .int .i64 0, .int .i64 0, .int .i64 0, .int .i64 0, .int .i64 0, .int .i64 0, .int .i64 0, .int .i64 0, .int .i64 0, .int .i64 0, .int .i64 0, .int .i64 0, .int .i64 0, .int .i64 0, .int .i64 0, .int .i64 0, .int .i64 0, .int .i64 0, .int .i64 0, .int .i64 0, .int .i64 0, .bool false] 40)) ?_)
 generalize hw0 : (w.alloc (.cells (qzl A.camera (.slice sa A.slots.length sc) (.slice ga A.guides.length gc) (.slice (some ⟨nb, 0, none⟩) A.nodes.length nc) (.slice (some ⟨rb, 0, none⟩) A.vers.length rc) h d tk).toArray 40)).alloc (.cells #[.int .i64 0, .slice none 0 0, .slice none 0 0, .slice none 0 0, .slice none 0 0, .int .i64 0, .int .i64 0, .int .i64 0, .int .i64 0, .int .i64 0, .int .i64 0, .int .i64 0, .int .i64 0, .int .i64 0, .int .i64 0, .int .i64 0, .int .i64 0, .int .i64 0, .int .i64 0, .int .i64 0, .int .i64 0, .int .i64 0, .int .i64 0, .int .i64 0, .int .i64 0, .int .i64 0, .int .i64 0, .int .i64 0, .int .i64 0, .int .i64 0, .int .i64 0, .int .i64 0, .bool false] 40) = w0 at *
 clear hw0
 show wpList _ _ _ _ _ w0
 have hx0' : (0 : Int) <= (xk : Int) := by omega
 have hx1' : (xk : Int) < (A.nodes.length : Int) := by omega
 have hv0' : (0 : Int) <= (vk : Int) := by omega
 have hv1' : (vk : Int) < (A.vers.length : Int) := by omega
 have x0 := S0.cell 0 rfl
 have x1 := S0.cell 1 rfl
 have x2 := S0.cell 2 rfl
 have x3 := S0.cell 3 rfl
 have x4 := S0.cell 4 rfl
 have q0 := S0.cell 5 rfl
 have q10 := S0.cell 15 rfl
 have q11 := S0.cell 16 rfl
 have q12 := S0.cell 17 rfl
 have q13 := S0.cell 18 rfl
 have f0 := S0.free 5 (by decide)
 have f11 := S0.free 16 (by decide)
 have f12 := S0.free 17 (by decide)
 have f13 := S0.free 18 (by decide)
 rw [hxk] at q10
 rw [hvk] at q11
 have hw1 := S0.hi
 by_cases e2 : h.at_ = 2
 case pos =>
  have hd : Hid (qz1h A h d clock = (A, { h with ver := A.nodes[xk].head, at_ := 3 }, d)) := by show _ = _; rw [qz1h, if_pos e2, hxk, qzs A xk hxl]
  have c2 := (qz9f S0.own.rn (xk * 3 + 2) (.int .i64 A.nodes[xk].head) (by rw [qz1i (sz := 3) (fun _ => rfl) A.nodes xk hxl 2 (by omega)]; rfl)).1
  rw [e2] at q0
  go_upto_region 18 with fail
  have S1 : Stp base w _ w.heap.size (w.heap.size + 1) (.slice sa A.slots.length sc) (.slice ga A.guides.length gc) (.slice (some ⟨nb, 0, none⟩) A.nodes.length nc) (.slice (some ⟨rb, 0, none⟩) A.vers.length rc) (.slice sa A.slots.length sc) (.slice ga A.guides.length gc) (.slice (some ⟨nb, 0, none⟩) A.nodes.length nc) (.slice (some ⟨rb, 0, none⟩) A.vers.length rc) A (qzl A.camera (.slice sa A.slots.length sc) (.slice ga A.guides.length gc) (.slice (some ⟨nb, 0, none⟩) A.nodes.length nc) (.slice (some ⟨rb, 0, none⟩) A.vers.length rc) { h with ver := A.nodes[xk].head, at_ := 3 } d tk) := (S0.put 16 (by rw [qz26]; omega) (.int .i64 A.nodes[xk].head)).put 5 (by rw [List.length_set, qz26]; omega) (.int .i64 3)
  go_wp2_with (first | (refine wpList_load_mid rfl 40 (.tmp 2) rfl w.heap.size 0 ?cx2 (qzl A.camera (.slice sa A.slots.length sc) (.slice ga A.guides.length gc) (.slice (some ⟨nb, 0, none⟩) A.nodes.length nc) (.slice (some ⟨rb, 0, none⟩) A.vers.length rc) { h with ver := A.nodes[xk].head, at_ := 3 } d tk) _ ?cc2 Tryz.underlying40 rfl (qzv _ _ _ _ _ _ _ _) ?_) | (refine wpList_store_mid rfl 40 (.tmp 4) _ rfl (w.heap.size + 1) 0 (qzl A.camera (.slice sa A.slots.length sc) (.slice ga A.guides.length gc) (.slice (some ⟨nb, 0, none⟩) A.nodes.length nc) (.slice (some ⟨rb, 0, none⟩) A.vers.length rc) { h with ver := A.nodes[xk].head, at_ := 3 } d tk).toArray ?dx2 ?dy2 ?dt2 (qz1t _ _ _ _ _ _ _ _) (qz2p _ _ _ _ _ _ _ _ _ _ _ _ _ _ _ _) ?_))
  try (case cx2 => rfl)
  try (case cc2 => exact S1.row)
  try (case dx2 => rfl)
  try (case dy2 => rfl)
  try (case dt2 => exact S1.to)
  refine bodyPost_ret (v := .agg (qzl A.camera (.slice sa A.slots.length sc) (.slice ga A.guides.length gc) (.slice (some ⟨nb, 0, none⟩) A.nodes.length nc) (.slice (some ⟨rb, 0, none⟩) A.vers.length rc) { h with ver := A.nodes[xk].head, at_ := 3 } d tk).toArray) ?_ rfl ⟨_, _, _, _, by rw [hd.out], by rw [hd.out]; exact S1.fin⟩
  exact qz4 Tryz.results19 _ _ (w.heap.size + 1) 0 rfl (qzl A.camera (.slice sa A.slots.length sc) (.slice ga A.guides.length gc) (.slice (some ⟨nb, 0, none⟩) A.nodes.length nc) (.slice (some ⟨rb, 0, none⟩) A.vers.length rc) { h with ver := A.nodes[xk].head, at_ := 3 } d tk) _ (S1.out rfl) Tryz.underlying40 rfl (qzv _ _ _ _ _ _ _ _)
 by_cases e3 : h.at_ = 3
 case pos =>
  rw [e3] at q0
  cases hst : qz1a A h.ver
  case false =>
   have hd : Hid (qz1h A h d clock = (A, { h with at_ := 4 }, d)) := by show _ = _; rw [qz1h, if_neg e2, if_pos e3, hst]; rfl
   rw [hvk] at hst
   go_upto_region 18 with (go_at_call 41; refine (qz28 w0.heap.size A (vk : Int) _ _ _ _ _ _ _ _ _ (Nat.le_refl _) hA' S0.is).mono ?_; rintro e w1 ⟨rfl, b1⟩; rw [hst]; have S1 := S0.below b1; have f1 := S1.free 5 (by decide); have q1 := S1.cell 5 rfl)
   have S2 : Stp base w _ w.heap.size (w.heap.size + 1) (.slice sa A.slots.length sc) (.slice ga A.guides.length gc) (.slice (some ⟨nb, 0, none⟩) A.nodes.length nc) (.slice (some ⟨rb, 0, none⟩) A.vers.length rc) (.slice sa A.slots.length sc) (.slice ga A.guides.length gc) (.slice (some ⟨nb, 0, none⟩) A.nodes.length nc) (.slice (some ⟨rb, 0, none⟩) A.vers.length rc) A (qzl A.camera (.slice sa A.slots.length sc) (.slice ga A.guides.length gc) (.slice (some ⟨nb, 0, none⟩) A.nodes.length nc) (.slice (some ⟨rb, 0, none⟩) A.vers.length rc) { h with at_ := 4 } d tk) := S1.put 5 (by rw [qz26]; omega) (.int .i64 4)
   go_wp2_with (first | (refine wpList_load_mid rfl 40 (.tmp 2) rfl w.heap.size 0 ?cx3 (qzl A.camera (.slice sa A.slots.length sc) (.slice ga A.guides.length gc) (.slice (some ⟨nb, 0, none⟩) A.nodes.length nc) (.slice (some ⟨rb, 0, none⟩) A.vers.length rc) { h with at_ := 4 } d tk) _ ?cc3 Tryz.underlying40 rfl (qzv _ _ _ _ _ _ _ _) ?_) | (refine wpList_store_mid rfl 40 (.tmp 4) _ rfl (w.heap.size + 1) 0 (qzl A.camera (.slice sa A.slots.length sc) (.slice ga A.guides.length gc) (.slice (some ⟨nb, 0, none⟩) A.nodes.length nc) (.slice (some ⟨rb, 0, none⟩) A.vers.length rc) { h with at_ := 4 } d tk).toArray ?dx3 ?dy3 ?dt3 (qz1t _ _ _ _ _ _ _ _) (qz2p _ _ _ _ _ _ _ _ _ _ _ _ _ _ _ _) ?_))
   try (case cx3 => rfl)
   try (case cc3 => exact S2.row)
   try (case dx3 => rfl)
   try (case dy3 => rfl)
   try (case dt3 => exact S2.to)
   refine bodyPost_ret (v := .agg (qzl A.camera (.slice sa A.slots.length sc) (.slice ga A.guides.length gc) (.slice (some ⟨nb, 0, none⟩) A.nodes.length nc) (.slice (some ⟨rb, 0, none⟩) A.vers.length rc) { h with at_ := 4 } d tk).toArray) ?_ rfl ⟨_, _, _, _, by rw [hd.out], by rw [hd.out]; exact S2.fin⟩
   exact qz4 Tryz.results19 _ _ (w.heap.size + 1) 0 rfl (qzl A.camera (.slice sa A.slots.length sc) (.slice ga A.guides.length gc) (.slice (some ⟨nb, 0, none⟩) A.nodes.length nc) (.slice (some ⟨rb, 0, none⟩) A.vers.length rc) { h with at_ := 4 } d tk) _ (S2.out rfl) Tryz.underlying40 rfl (qzv _ _ _ _ _ _ _ _)
  have hd : Hid (qz1h A h d clock = (A, onH A h, d)) := by show _ = _; rw [qz1h, if_neg e2, if_pos e3, hst]; rfl
  rw [hvk] at hst
  go_upto_region 18 with (first | (go_at_call 41; refine (qz28 w0.heap.size A (vk : Int) _ _ _ _ _ _ _ _ _ (Nat.le_refl _) hA' S0.is).mono ?_; rintro e w1 ⟨rfl, b1⟩; rw [hst]; have S1 := S0.below b1; have x0 := S1.cell 0 rfl; have x1 := S1.cell 1 rfl; have x2 := S1.cell 2 rfl; have x3 := S1.cell 3 rfl; have x4 := S1.cell 4 rfl) | (refine wpList_load_mid rfl 36 (.tmp 33) rfl w.heap.size 5 ?ax31 (hdC h) _ ?ac31 Tryz.underlying36 rfl (qz1 h) ?_) | (go_at_call 42; refine (qz7f w1.heap.size A h _ _ _ _ _ _ _ _ _ (Nat.le_refl _) hA' S1.is x y z u hOk hv0 hv1 hx0 hx1 hcu ho0 ho1 hs0 hs1).mono ?_; rintro e w2 ⟨rfl, b2⟩; have S2 := S1.below b2) | (refine wpList_store_mid rfl 36 (.tmp 36) _ rfl w.heap.size 5 (hdC (onH A h)).toArray ?bx32 ?by32 ?bt32 (qz8 _) (qzc _) ?_))
  try (case ax31 => rfl)
  try (case ac31 => exact (qz2d S1.row).2.1)
  try (case bx32 => rfl)
  try (case by32 => rfl)
  try (case bt32 => have T := qz1f S2.th 5 22 (by omega); rw [Nat.zero_add] at T; exact T)
  have S3 := S2.hand (onH A h)
  go_wp2_with (first | (refine wpList_load_mid rfl 40 (.tmp 2) rfl w.heap.size 0 ?cx33 (qzl A.camera (.slice sa A.slots.length sc) (.slice ga A.guides.length gc) (.slice (some ⟨nb, 0, none⟩) A.nodes.length nc) (.slice (some ⟨rb, 0, none⟩) A.vers.length rc) (onH A h) d tk) _ ?cc33 Tryz.underlying40 rfl (qzv _ _ _ _ _ _ _ _) ?_) | (refine wpList_store_mid rfl 40 (.tmp 4) _ rfl (w.heap.size + 1) 0 (qzl A.camera (.slice sa A.slots.length sc) (.slice ga A.guides.length gc) (.slice (some ⟨nb, 0, none⟩) A.nodes.length nc) (.slice (some ⟨rb, 0, none⟩) A.vers.length rc) (onH A h) d tk).toArray ?dx33 ?dy33 ?dt33 (qz1t _ _ _ _ _ _ _ _) (qz2p _ _ _ _ _ _ _ _ _ _ _ _ _ _ _ _) ?_))
  try (case cx33 => rfl)
  try (case cc33 => exact S3.row)
  try (case dx33 => rfl)
  try (case dy33 => rfl)
  try (case dt33 => exact S3.to)
  refine bodyPost_ret (v := .agg (qzl A.camera (.slice sa A.slots.length sc) (.slice ga A.guides.length gc) (.slice (some ⟨nb, 0, none⟩) A.nodes.length nc) (.slice (some ⟨rb, 0, none⟩) A.vers.length rc) (onH A h) d tk).toArray) ?_ rfl ⟨_, _, _, _, by rw [hd.out], by rw [hd.out]; exact S3.fin⟩
  exact qz4 Tryz.results19 _ _ (w.heap.size + 1) 0 rfl (qzl A.camera (.slice sa A.slots.length sc) (.slice ga A.guides.length gc) (.slice (some ⟨nb, 0, none⟩) A.nodes.length nc) (.slice (some ⟨rb, 0, none⟩) A.vers.length rc) (onH A h) d tk) _ (S3.out rfl) Tryz.underlying40 rfl (qzv _ _ _ _ _ _ _ _)
 by_cases e4 : h.at_ = 4
 case pos =>
  have hd : Hid (qz1h A h d clock = (A, { h with cam := A.camera, camAt := clock, at_ := 5 }, d)) := by show _ = _; rw [qz1h, if_neg e2, if_neg e3, if_pos e4]
  rw [e4] at q0
  go_upto_region 18 with fail
  have S1 : Stp base w _ w.heap.size (w.heap.size + 1) (.slice sa A.slots.length sc) (.slice ga A.guides.length gc) (.slice (some ⟨nb, 0, none⟩) A.nodes.length nc) (.slice (some ⟨rb, 0, none⟩) A.vers.length rc) (.slice sa A.slots.length sc) (.slice ga A.guides.length gc) (.slice (some ⟨nb, 0, none⟩) A.nodes.length nc) (.slice (some ⟨rb, 0, none⟩) A.vers.length rc) A (qzl A.camera (.slice sa A.slots.length sc) (.slice ga A.guides.length gc) (.slice (some ⟨nb, 0, none⟩) A.nodes.length nc) (.slice (some ⟨rb, 0, none⟩) A.vers.length rc) { h with cam := A.camera, camAt := clock, at_ := 5 } d tk) := ((S0.put 17 (by rw [qz26]; omega) (.int .i64 A.camera)).put 18 (by rw [List.length_set, qz26]; omega) (.int .i64 clock)).put 5 (by rw [List.length_set, List.length_set, qz26]; omega) (.int .i64 5)
  go_wp2_with (first | (refine wpList_load_mid rfl 40 (.tmp 2) rfl w.heap.size 0 ?cx4 (qzl A.camera (.slice sa A.slots.length sc) (.slice ga A.guides.length gc) (.slice (some ⟨nb, 0, none⟩) A.nodes.length nc) (.slice (some ⟨rb, 0, none⟩) A.vers.length rc) { h with cam := A.camera, camAt := clock, at_ := 5 } d tk) _ ?cc4 Tryz.underlying40 rfl (qzv _ _ _ _ _ _ _ _) ?_) | (refine wpList_store_mid rfl 40 (.tmp 4) _ rfl (w.heap.size + 1) 0 (qzl A.camera (.slice sa A.slots.length sc) (.slice ga A.guides.length gc) (.slice (some ⟨nb, 0, none⟩) A.nodes.length nc) (.slice (some ⟨rb, 0, none⟩) A.vers.length rc) { h with cam := A.camera, camAt := clock, at_ := 5 } d tk).toArray ?dx4 ?dy4 ?dt4 (qz1t _ _ _ _ _ _ _ _) (qz2p _ _ _ _ _ _ _ _ _ _ _ _ _ _ _ _) ?_))
  try (case cx4 => rfl)
  try (case cc4 => exact S1.row)
  try (case dx4 => rfl)
  try (case dy4 => rfl)
  try (case dt4 => exact S1.to)
  refine bodyPost_ret (v := .agg (qzl A.camera (.slice sa A.slots.length sc) (.slice ga A.guides.length gc) (.slice (some ⟨nb, 0, none⟩) A.nodes.length nc) (.slice (some ⟨rb, 0, none⟩) A.vers.length rc) { h with cam := A.camera, camAt := clock, at_ := 5 } d tk).toArray) ?_ rfl ⟨_, _, _, _, by rw [hd.out], by rw [hd.out]; exact S1.fin⟩
  exact qz4 Tryz.results19 _ _ (w.heap.size + 1) 0 rfl (qzl A.camera (.slice sa A.slots.length sc) (.slice ga A.guides.length gc) (.slice (some ⟨nb, 0, none⟩) A.nodes.length nc) (.slice (some ⟨rb, 0, none⟩) A.vers.length rc) { h with cam := A.camera, camAt := clock, at_ := 5 } d tk) _ (S1.out rfl) Tryz.underlying40 rfl (qzv _ _ _ _ _ _ _ _)
 by_cases e5 : h.at_ = 5
 case neg =>
  have hd : Hid (qz1h A h d clock = (A, h, d)) := by show _ = _; rw [qz1h, if_neg e2, if_neg e3, if_neg e4, if_neg e5]
  go_upto_region 18 with fail
  go_wp2_with (first | (refine wpList_load_mid rfl 40 (.tmp 2) rfl w.heap.size 0 ?cx9 (qzl A.camera (.slice sa A.slots.length sc) (.slice ga A.guides.length gc) (.slice (some ⟨nb, 0, none⟩) A.nodes.length nc) (.slice (some ⟨rb, 0, none⟩) A.vers.length rc) h d tk) _ ?cc9 Tryz.underlying40 rfl (qzv _ _ _ _ _ _ _ _) ?_) | (refine wpList_store_mid rfl 40 (.tmp 4) _ rfl (w.heap.size + 1) 0 (qzl A.camera (.slice sa A.slots.length sc) (.slice ga A.guides.length gc) (.slice (some ⟨nb, 0, none⟩) A.nodes.length nc) (.slice (some ⟨rb, 0, none⟩) A.vers.length rc) h d tk).toArray ?dx9 ?dy9 ?dt9 (qz1t _ _ _ _ _ _ _ _) (qz2p _ _ _ _ _ _ _ _ _ _ _ _ _ _ _ _) ?_))
  try (case cx9 => rfl)
  try (case cc9 => exact S0.row)
  try (case dx9 => rfl)
  try (case dy9 => rfl)
  try (case dt9 => exact S0.to)
  refine bodyPost_ret (v := .agg (qzl A.camera (.slice sa A.slots.length sc) (.slice ga A.guides.length gc) (.slice (some ⟨nb, 0, none⟩) A.nodes.length nc) (.slice (some ⟨rb, 0, none⟩) A.vers.length rc) h d tk).toArray) ?_ rfl ⟨_, _, _, _, by rw [hd.out], by rw [hd.out]; exact S0.fin⟩
  exact qz4 Tryz.results19 _ _ (w.heap.size + 1) 0 rfl (qzl A.camera (.slice sa A.slots.length sc) (.slice ga A.guides.length gc) (.slice (some ⟨nb, 0, none⟩) A.nodes.length nc) (.slice (some ⟨rb, 0, none⟩) A.vers.length rc) h d tk) _ (S0.out rfl) Tryz.underlying40 rfl (qzv _ _ _ _ _ _ _ _)
 rw [e5] at q0
 cases hst : qz1a A h.ver
 case true =>
  have hd : Hid (qz1h A h d clock = (A, onH A h, d)) := by show _ = _; rw [qz1h, if_neg e2, if_neg e3, if_neg e4, if_pos e5, hst]; rfl
  rw [hvk] at hst
  go_upto_region 18 with (first | (go_at_call 41; refine (qz28 w0.heap.size A (vk : Int) _ _ _ _ _ _ _ _ _ (Nat.le_refl _) hA' S0.is).mono ?_; rintro e w1 ⟨rfl, b1⟩; rw [hst]; have S1 := S0.below b1; have x0 := S1.cell 0 rfl; have x1 := S1.cell 1 rfl; have x2 := S1.cell 2 rfl; have x3 := S1.cell 3 rfl; have x4 := S1.cell 4 rfl) | (refine wpList_load_mid rfl 36 (.tmp 83) rfl w.heap.size 5 ?ax51 (hdC h) _ ?ac51 Tryz.underlying36 rfl (qz1 h) ?_) | (go_at_call 42; refine (qz7f w1.heap.size A h _ _ _ _ _ _ _ _ _ (Nat.le_refl _) hA' S1.is x y z u hOk hv0 hv1 hx0 hx1 hcu ho0 ho1 hs0 hs1).mono ?_; rintro e w2 ⟨rfl, b2⟩; have S2 := S1.below b2) | (refine wpList_store_mid rfl 36 (.tmp 86) _ rfl w.heap.size 5 (hdC (onH A h)).toArray ?bx52 ?by52 ?bt52 (qz8 _) (qzc _) ?_))
  try (case ax51 => rfl)
  try (case ac51 => exact (qz2d S1.row).2.1)
  try (case bx52 => rfl)
  try (case by52 => rfl)
  try (case bt52 => have T := qz1f S2.th 5 22 (by omega); rw [Nat.zero_add] at T; exact T)
  have S3 := S2.hand (onH A h)
  go_wp2_with (first | (refine wpList_load_mid rfl 40 (.tmp 2) rfl w.heap.size 0 ?cx53 (qzl A.camera (.slice sa A.slots.length sc) (.slice ga A.guides.length gc) (.slice (some ⟨nb, 0, none⟩) A.nodes.length nc) (.slice (some ⟨rb, 0, none⟩) A.vers.length rc) (onH A h) d tk) _ ?cc53 Tryz.underlying40 rfl (qzv _ _ _ _ _ _ _ _) ?_) | (refine wpList_store_mid rfl 40 (.tmp 4) _ rfl (w.heap.size + 1) 0 (qzl A.camera (.slice sa A.slots.length sc) (.slice ga A.guides.length gc) (.slice (some ⟨nb, 0, none⟩) A.nodes.length nc) (.slice (some ⟨rb, 0, none⟩) A.vers.length rc) (onH A h) d tk).toArray ?dx53 ?dy53 ?dt53 (qz1t _ _ _ _ _ _ _ _) (qz2p _ _ _ _ _ _ _ _ _ _ _ _ _ _ _ _) ?_))
  try (case cx53 => rfl)
  try (case cc53 => exact S3.row)
  try (case dx53 => rfl)
  try (case dy53 => rfl)
  try (case dt53 => exact S3.to)
  refine bodyPost_ret (v := .agg (qzl A.camera (.slice sa A.slots.length sc) (.slice ga A.guides.length gc) (.slice (some ⟨nb, 0, none⟩) A.nodes.length nc) (.slice (some ⟨rb, 0, none⟩) A.vers.length rc) (onH A h) d tk).toArray) ?_ rfl ⟨_, _, _, _, by rw [hd.out], by rw [hd.out]; exact S3.fin⟩
  exact qz4 Tryz.results19 _ _ (w.heap.size + 1) 0 rfl (qzl A.camera (.slice sa A.slots.length sc) (.slice ga A.guides.length gc) (.slice (some ⟨nb, 0, none⟩) A.nodes.length nc) (.slice (some ⟨rb, 0, none⟩) A.vers.length rc) (onH A h) d tk) _ (S3.out rfl) Tryz.underlying40 rfl (qzv _ _ _ _ _ _ _ _)
 have hd : Hid (qz1h A h d clock = (qz32 A h, onH (qz32 A h) h, qz2b (qz32 A h) h)) := by show _ = _; rw [qz1h, if_neg e2, if_neg e3, if_neg e4, if_pos e5, hst]; rfl
 rw [hvk] at hst
 go_upto_region 15 with (go_at_call 41; refine (qz28 w0.heap.size A (vk : Int) _ _ _ _ _ _ _ _ _ (Nat.le_refl _) hA' S0.is).mono ?_; rintro e w1 ⟨rfl, b1⟩; rw [hst])
 have S1 := S0.below b1
 clear x0 x1 x2 x3 x4 q0 q10 q11 q12 q13 f0 f11 f12 f13
 have hsA : qz32 A h = { A with vers := A.vers.set vk { A.vers[vk] with stamp := min h.cam A.camera } } := by rw [qz32, hvk, qz2z A vk hvl]; rfl
 have hAs := qz3z A h
 have hAk := qz9s hOk hcm hv0 hv1
 have S2 := S1.ver (S0.blk rb (Or.inr (Or.inr (Or.inr rfl)))) vk hvl 2 (by omega) { A.vers[vk] with stamp := min h.cam A.camera } (.int .i64 (min h.cam A.camera)) rfl
 rw [<- hsA] at S2
 have x0 := S1.cell 0 rfl
 have x4 := S1.cell 4 rfl
 have q11 := S1.cell 16 rfl
 have q12 := S1.cell 17 rfl
 rw [hvk] at q11
 obtain ⟨c2, c2f⟩ := qz9f S1.own.rr (vk * 5 + 2) (.int .i64 A.vers[vk].stamp) (by rw [qz1i (sz := 5) (fun _ => rfl) A.vers vk hvl 2 (by omega)]; rfl)
 have hne : ¬ (w.heap.size = rb) := by omega
 have hne' : ¬ (rb = w.heap.size) := by omega
 go_region_held3 (fun w' => w'.cell? ⟨w.heap.size, 0, none⟩ = some (.int .i64 A.camera) /\ w'.cell? ⟨w.heap.size, 4, none⟩ = some (.slice (some ⟨rb, 0, none⟩) A.vers.length rc) /\ w'.cell? ⟨w.heap.size, 16, none⟩ = some (.int .i64 (vk : Int)) /\ w'.cell? ⟨w.heap.size, 17, none⟩ = some (.int .i64 h.cam)) (go_keep) (first | (go_at_call 43; refine (qzk _ _ _).mono ?_; rintro e w' ⟨rfl, hw⟩; obtain rfl := hw.symm))
 have S2' := S2.below ((Below.refl _ _).drew)
 generalize hwv : (w1.setCell ⟨rb, vk * 5 + 2, none⟩ (.int .i64 (min h.cam A.camera))).drew = wv at *
 clear hwv S2 x0 x4 q11 q12 c2 c2f
 have hl : (qz32 A h).vers.length = A.vers.length := by rw [hsA]; simp
 have hDeed : ∀ (wq : World), qzi wq.heap.size wq (.slice sa A.slots.length sc) (.slice ga A.guides.length gc) (.slice (some ⟨nb, 0, none⟩) A.nodes.length nc) (.slice (some ⟨rb, 0, none⟩) A.vers.length rc) (qz32 A h) -> Calls Tryz.prog 44 #[.agg #[.int .i64 A.camera, .slice sa A.slots.length sc, .slice ga A.guides.length gc, .slice (some ⟨nb, 0, none⟩) A.nodes.length nc, .slice (some ⟨rb, 0, none⟩) A.vers.length rc], .agg (hdC h).toArray] wq fun e w' => e = .returned (.agg (ddC (qz2b (qz32 A h) h)).toArray) /\ Below wq.heap.size wq w' := by
  intro wq Iq
  have := qz92 wq.heap.size (qz32 A h) h sa ga (some ⟨nb, 0, none⟩) (some ⟨rb, 0, none⟩) sc gc nc rc wq (Nat.le_refl _) (by rw [hAs]; exact hA') (by rw [hl]; exact Iq) x y z u hAk hv0 (by rw [hl]; exact hv1) hx0 hx1
  rw [hl] at this
  exact this
 have hOn : ∀ (wq : World), qzi wq.heap.size wq (.slice sa A.slots.length sc) (.slice ga A.guides.length gc) (.slice (some ⟨nb, 0, none⟩) A.nodes.length nc) (.slice (some ⟨rb, 0, none⟩) A.vers.length rc) (qz32 A h) -> Calls Tryz.prog 42 #[.agg #[.int .i64 A.camera, .slice sa A.slots.length sc, .slice ga A.guides.length gc, .slice (some ⟨nb, 0, none⟩) A.nodes.length nc, .slice (some ⟨rb, 0, none⟩) A.vers.length rc], .agg (hdC h).toArray] wq fun e w' => e = .returned (.agg (hdC (onH (qz32 A h) h)).toArray) /\ Below wq.heap.size wq w' := by
  intro wq Iq
  have := qz7f wq.heap.size (qz32 A h) h sa ga (some ⟨nb, 0, none⟩) (some ⟨rb, 0, none⟩) sc gc nc rc wq (Nat.le_refl _) (by rw [hAs]; exact hA') (by rw [hl]; exact Iq) x y z u hAk hv0 (by rw [hl]; exact hv1) hx0 hx1 hcu ho0 ho1 hs0 hs1
  rw [hl] at this
  exact this
 clear hsA
 generalize qz32 A h = As at *
 have x0 := S2'.cell 0 rfl
 have x1 := S2'.cell 1 rfl
 have x2 := S2'.cell 2 rfl
 have x3 := S2'.cell 3 rfl
 have x4 := S2'.cell 4 rfl
 go_upto_region 17 with (first | (refine wpList_load_mid rfl 36 (.tmp 77) rfl w.heap.size 5 ?ax61 (hdC h) _ ?ac61 Tryz.underlying36 rfl (qz1 h) ?_) | (go_at_call 44; refine (hDeed _ S2'.is).mono ?_; rintro e w3 ⟨rfl, b3⟩; have S3 := S2'.below b3) | (refine wpList_store_mid rfl 38 (.tmp 80) _ rfl w.heap.size 27 (ddC (qz2b As h)).toArray ?bx62 ?by62 ?bt62 (qz25 _) (qz33 _) ?_))
 try (case ax61 => rfl)
 try (case ac61 => exact (qz2d S2'.row).2.1)
 try (case bx62 => rfl)
 try (case by62 => rfl)
 try (case bt62 => have T := qz1f S3.th 27 5 (by omega); rw [Nat.zero_add] at T; exact T)
 have S4 := S3.deed (qz2b As h)
 generalize w3.setCells w.heap.size 27 (ddC (qz2b As h)) = w4 at *
 clear x0 x1 x2 x3 x4
 have x0 := S4.cell 0 rfl
 have x1 := S4.cell 1 rfl
 have x2 := S4.cell 2 rfl
 have x3 := S4.cell 3 rfl
 have x4 := S4.cell 4 rfl
 go_upto_region 18 with (first | (refine wpList_load_mid rfl 36 (.tmp 83) rfl w.heap.size 5 ?ax63 (hdC h) _ ?ac63 Tryz.underlying36 rfl (qz1 h) ?_) | (go_at_call 42; refine (hOn _ S4.is).mono ?_; rintro e w5 ⟨rfl, b5⟩; have S5 := S4.below b5) | (refine wpList_store_mid rfl 36 (.tmp 86) _ rfl w.heap.size 5 (hdC (onH As h)).toArray ?bx64 ?by64 ?bt64 (qz8 _) (qzc _) ?_))
 try (case ax63 => rfl)
 try (case ac63 => exact (qz2d S4.row).2.1)
 try (case bx64 => rfl)
 try (case by64 => rfl)
 try (case bt64 => have T := qz1f S5.th 5 22 (by omega); rw [Nat.zero_add] at T; exact T)
 have S6 := S5.hand (onH As h)
 go_wp2_with (first | (refine wpList_load_mid rfl 40 (.tmp 2) rfl w.heap.size 0 ?cx65 (qzl A.camera (.slice sa A.slots.length sc) (.slice ga A.guides.length gc) (.slice (some ⟨nb, 0, none⟩) A.nodes.length nc) (.slice (some ⟨rb, 0, none⟩) A.vers.length rc) (onH As h) (qz2b As h) tk) _ ?cc65 Tryz.underlying40 rfl (qzv _ _ _ _ _ _ _ _) ?_) | (refine wpList_store_mid rfl 40 (.tmp 4) _ rfl (w.heap.size + 1) 0 (qzl A.camera (.slice sa A.slots.length sc) (.slice ga A.guides.length gc) (.slice (some ⟨nb, 0, none⟩) A.nodes.length nc) (.slice (some ⟨rb, 0, none⟩) A.vers.length rc) (onH As h) (qz2b As h) tk).toArray ?dx65 ?dy65 ?dt65 (qz1t _ _ _ _ _ _ _ _) (qz2p _ _ _ _ _ _ _ _ _ _ _ _ _ _ _ _) ?_))
 try (case cx65 => rfl)
 try (case cc65 => exact S6.row)
 try (case dx65 => rfl)
 try (case dy65 => rfl)
 try (case dt65 => exact S6.to)
 refine bodyPost_ret (v := .agg (qzl A.camera (.slice sa A.slots.length sc) (.slice ga A.guides.length gc) (.slice (some ⟨nb, 0, none⟩) A.nodes.length nc) (.slice (some ⟨rb, 0, none⟩) A.vers.length rc) (onH As h) (qz2b As h) tk).toArray) ?_ rfl ⟨_, _, _, _, by rw [hd.out], by rw [hd.out]; exact S6.fin⟩
 exact qz4 Tryz.results19 _ _ (w.heap.size + 1) 0 rfl (qzl A.camera (.slice sa A.slots.length sc) (.slice ga A.guides.length gc) (.slice (some ⟨nb, 0, none⟩) A.nodes.length nc) (.slice (some ⟨rb, 0, none⟩) A.vers.length rc) (onH As h) (qz2b As h) tk) _ (S6.out rfl) Tryz.underlying40 rfl (qzv _ _ _ _ _ _ _ _)
end
section
attribute [local go_sem ↓] Go.wp_at_zero Go.wp_at_succ
def qz97 (A : Ar) (h : Hd) : Hd := if qz1a A h.ver = true then onH A h else qzw h 4
def qz6k (A : Ar) (h : Hd) : Dd := if qz1a A h.ver = true then qz29 else qz2b (qz32 A h) h
def qz4i (A : Ar) (h : Hd) : Ar := if qz1a A h.ver = true then A else qz32 A h
theorem qz7a (base : Nat) (cb : Nat) (s g n r : Value) (ps qs : List Addr) (A : Ar) (h : Hd) (w : World) (hbase : base <= w.heap.size) (hA : A.size <= 1048576) (C : qz19 base w cb s g n r ps qs A) (x y z u : Int) (hOk : qz14 x y z u A = true) (hv0 : 0 <= h.ver) (hv1 : h.ver < (A.vers.length : Int)) (hx0 : 0 <= h.x_) (hx1 : h.x_ < (A.nodes.length : Int)) :
  Calls Tryz.prog 27 #[.pointer (some ⟨cb, 0, none⟩), .agg (hdC h).toArray] w fun e w' => e = .returned (.agg (ddC (qz6k A h)).toArray) /\ qz19 base w' cb s g n r ps qs (qz4i A h) /\ Below base w w' /\ But (fun q => ∃ m, Blk w q 80 m) w w' := by
 have hA' := hA
 unfold Ar.size at hA
 have hr0 : 0 < A.vers.length := by omega
 have H0 := World.rangeAt_alloc (qz5 w (hdC h) 36) (.cells #[.int .i64 0, .int .i64 0, .int .i64 0, .int .i64 0, .int .i64 0] 38)
 have D0 := Blk.new (w.alloc (.cells (hdC h).toArray 36)) #[.int .i64 0, .int .i64 0, .int .i64 0, .int .i64 0, .int .i64 0] 38
 have K0 := ((Below.refl w.heap.size w).alloc (Nat.le_refl _) (.cells (hdC h).toArray 36)).alloc (by simp) (.cells #[.int .i64 0, .int .i64 0, .int .i64 0, .int .i64 0, .int .i64 0] 38)
 have C0 := C.grown K0
 have hz0 : w.heap.size + 1 < ((w.alloc (.cells (hdC h).toArray 36)).alloc (.cells #[.int .i64 0, .int .i64 0, .int .i64 0, .int .i64 0, .int .i64 0] 38)).heap.size := by simp
 simp only [World.size_alloc] at H0 D0
 replace D0 : Blk ((w.alloc (.cells (hdC h).toArray 36)).alloc (.cells #[.int .i64 0, .int .i64 0, .int .i64 0, .int .i64 0, .int .i64 0] 38)) (w.heap.size + 1) 38 5 := D0
 obtain ⟨ra, rc, rfl⟩ := qz2w C.sr
 obtain ⟨rb, rfl, -, -, -, -⟩ := qz7b C.sr hr0
 obtain ⟨vk, hvk⟩ : ∃ k : Nat, h.ver = k := ⟨h.ver.toNat, by omega⟩
 have hvl : vk < A.vers.length := by omega
 go_enter Tryz.func27, Tryz.ntmps27
 go_upto_region 1 with fail
 generalize hw0 : (w.alloc (.cells (hdC h).toArray 36)).alloc (.cells #[.int .i64 0, .int .i64 0, .int .i64 0, .int .i64 0, .int .i64 0] 38) = w0 at *
 clear hw0
 obtain ⟨_, e9, -, -, -, RR⟩ := qz7b C0.sr hr0
 cases e9
 obtain ⟨vb, vo, vm, p1, plo, p3, pfit, p5⟩ := C0.vp.at' vk hvl
 have hpc : w0.cell? ⟨rb, vk, none⟩ = some (.pointer (some ⟨vb, vo, none⟩)) := by
  have hkp : vk < qs.length := by rw [C0.vp.len]; exact hvl
  have h1 := (qza (sz := 1) (f := ptrC) (fun _ => rfl) RR vk hkp) 0 (.pointer (some qs[vk])) rfl
  have p1' := p1
  rw [List.getElem?_eq_getElem hkp] at p1'
  rw [Option.some.inj p1'] at h1
  simpa using h1
 obtain ⟨vbm, hvbB⟩ : ∃ m, Blk w vb 80 m := by
  obtain ⟨b', o', m', q1, -, q3, -, -⟩ := C.vp.at' vk hvl
  rw [p1] at q1
  injection q1 with q1
  injection q1 with q1 q2
  subst q1
  exact ⟨m', q3⟩
 have hvbw : vb < w.heap.size := hvbB.lt
 have hver := qz44 hOk vk hvl
 have hvr : vrOf A h.ver = A.vers[vk] := by rw [hvk, qz2z A vk hvl]
 have hsb : qz1a A h.ver = (A.vers[vk].stamp != -1) := by
  have : inB h.ver 0 ((A.vers.length : Int) - 1) = true := by rw [qz2c]; omega
  simp only [qz1a, this, Bool.true_and, hvr]
 have hvk0 : (0 : Int) <= (vk : Int) := by omega
 have hvk1 : (vk : Int) < (A.vers.length : Int) := by omega
 obtain ⟨x0, x1, x2, x3, x4⟩ := row5 C0.row
 have q11 : w0.cell? ⟨w.heap.size, 11, none⟩ = some (.int .i64 h.ver) := by simpa using H0 11 (.int .i64 h.ver) rfl
 have q12 : w0.cell? ⟨w.heap.size, 12, none⟩ = some (.int .i64 h.cam) := by simpa using H0 12 (.int .i64 h.cam) rfl
 have hvkH : Hid (h.ver = vk) := hvk
 have hvrH : Hid (vrOf A h.ver = A.vers[vk]) := hvr
 have hsbH : Hid (qz1a A h.ver = (A.vers[vk].stamp != -1)) := hsb
 rw [hvk] at q11
 clear RR hvk hvr hsb
 go_quiet (fail)
 have H1 : (w0.drewN nq).rangeAt w.heap.size 0 (hdC h) := H0
 have D1 : Blk (w0.drewN nq) (w.heap.size + 1) 38 5 := D0
 have K1 : Below w.heap.size w (w0.drewN nq) := ⟨K0.os, K0.tape, K0.output, K0.size, K0.block⟩
 have C1 : qz19 base (w0.drewN nq) cb s g n (.slice (some ⟨rb, 0, none⟩) A.vers.length rc) ps qs A := C0.grown ⟨rfl, rfl, rfl, Nat.le_refl _, fun _ _ => rfl⟩
 have R1 : (w0.drewN nq).rangeAt vb vo (vrC A.vers[vk]) := p5
 have B1 : Blk (w0.drewN nq) vb 80 vm := p3
 have y0 : (w0.drewN nq).cell? ⟨cb, 0, none⟩ = some (.int .i64 A.camera) := x0
 have y12 : (w0.drewN nq).cell? ⟨w.heap.size, 12, none⟩ = some (.int .i64 h.cam) := q12
 have hz1 : w.heap.size + 1 < (w0.drewN nq).heap.size := hz0
 generalize hw1 : w0.drewN nq = w1 at *
 clear hw1 H0 D0 K0 C0 p3 p5 x0 x1 x2 x3 x4 q11 q12 hz0 hpc
 go_wp2_with fail
 refine (qz3x vb vo A.vers[vk] w1 R1).mono ?_
 rintro e w' ⟨rfl, hw⟩
 obtain rfl := hw.symm
 cases hst : (A.vers[vk].stamp != -1)
 case true =>
  have hdd : Hid (qz6k A h = qz29) := by show _ = _; rw [qz6k, if_pos (by rw [hsbH.out, hst])]
  have hdr : Hid (qz4i A h = A) := by show _ = _; rw [qz4i, if_pos (by rw [hsbH.out, hst])]
  go_wp2_with (refine wpList_store_mid rfl 38 (.tmp 4) _ rfl (w.heap.size + 1) 0 (ddC qz29).toArray ?hx1 ?hy1 ?ht1 (qz25 _) (qz33 _) ?_)
  try (case hx1 => rfl)
  try (case hy1 => rfl)
  case ht1 => exact D1.there 0 5 (by omega)
  refine bodyPost_ret (v := .agg (ddC qz29).toArray) ?_ rfl ⟨by rw [hdd.out], ?_, ?_, ?_⟩
  ·exact qz4 Tryz.results27 _ _ (w.heap.size + 1) 0 rfl (ddC qz29) _ (World.rangeAt_setCells_same _ _ _ _ (D1.there 0 5 (by omega))) Tryz.underlying38 rfl (qz1m _)
  ·rw [hdr.out]
   exact C.grown (Below.setCells (by omega) _ _ _ K1)
  ·exact (Below.setCells (by omega) _ _ _ K1).mono hbase
  ·exact But.of_below (Below.setCells (by omega) _ _ _ K1)
 case false =>
  have hdd : Hid (qz6k A h = qz2b (qz32 A h) h) := by show _ = _; rw [qz6k, if_neg (by rw [hsbH.out, hst]; decide)]
  have hdr : Hid (qz4i A h = qz32 A h) := by show _ = _; rw [qz4i, if_neg (by rw [hsbH.out, hst]; decide)]
  obtain ⟨st, hstm⟩ : ∃ st : Int, Hid (st = min h.cam A.camera) := ⟨_, rfl⟩
  have hif : (if A.camera < h.cam then A.camera else h.cam) = st := by rw [hstm.out]; omega
  have T1 := B1.there (vo + 2) 1 (by omega)
  obtain ⟨tc, tf⟩ := T1 0 (by omega)
  obtain ⟨uc, huc⟩ := Option.isSome_iff_exists.1 tc
  rw [Nat.add_zero] at huc tf
  go_wp2_with fail
  refine qzz 10 (by kernel_rfl) (by kernel_rfl) ?_
  simp only [List.take_succ_cons, List.take_zero, List.drop_succ_cons, List.drop_zero]
  repeat (quiet_step (fail))
  refine wpQuiet_nil ?_
  rintro _ ⟨nr, rfl⟩
  have H2 : (w1.drewN nr).rangeAt w.heap.size 0 (hdC h) := H1
  have D2 : Blk (w1.drewN nr) (w.heap.size + 1) 38 5 := D1
  have K2 : Below w.heap.size w (w1.drewN nr) := ⟨K1.os, K1.tape, K1.output, K1.size, K1.block⟩
  have C2 : qz19 base (w1.drewN nr) cb s g n (.slice (some ⟨rb, 0, none⟩) A.vers.length rc) ps qs A := C1.grown ⟨rfl, rfl, rfl, Nat.le_refl _, fun _ _ => rfl⟩
  have uc2 : (w1.drewN nr).cell? ⟨vb, vo + 2, none⟩ = some uc := huc
  have uf2 : (w1.drewN nr).frozen? ⟨vb, vo + 2, none⟩ = false := tf
  have hz2 : w.heap.size + 1 < (w1.drewN nr).heap.size := hz1
  have hb2 : vb < (w1.drewN nr).heap.size := B1.lt
  generalize hw2 : w1.drewN nr = w2 at *
  clear hw2 H1 D1 K1 C1 R1 B1 huc tf hz1 y0 y12 T1 tc
  have C3 := C2.ver vk hvl vb vo p1 2 (by omega) (.int .i64 st) { A.vers[vk] with stamp := st } (by rfl)
  have O3 : Only vb w2 (w2.setCell ⟨vb, vo + 2, none⟩ (.int .i64 st)) := (Only.refl vb w2).setCell (Or.inl rfl) _
  have hne : w.heap.size ≠ vb := by omega
  have hsA : qz32 A h = { A with vers := A.vers.set vk { A.vers[vk] with stamp := st } } := by rw [qz32, hvrH.out, hvkH.out, hstm.out]; rfl
  have hsM : vrOf (qz32 A h) h.ver = { A.vers[vk] with stamp := st } := by rw [hsA, hvkH.out, qz2z _ vk (by rw [List.length_set]; exact hvl)]; simp
  rw [<- hsA] at C3
  have hAs : (qz32 A h).size <= 1048576 := by rw [qz3z]; exact hA'
  have hns : (qz32 A h).nodes.length = A.nodes.length := by rw [hsA]
  have hdm : Hid (qz98 (qz32 A h) h { A.vers[vk] with stamp := st } = qz2b (qz32 A h) h) := by show _ = _; rw [qzas, hsM]
  have O3' : But (fun q => ∃ m, Blk w q 80 m) w (w2.setCell ⟨vb, vo + 2, none⟩ (.int .i64 st)) := (But.of_below K2).trans (But.of_only O3 ⟨vbm, hvbB⟩)
  have K3 : Below base w (w2.setCell ⟨vb, vo + 2, none⟩ (.int .i64 st)) := (K2.mono hbase).trans (O3.below plo (Nat.le_trans hbase (by omega)))
  have R3 : (w2.setCell ⟨vb, vo + 2, none⟩ (.int .i64 st)).rangeAt vb vo (vrC { A.vers[vk] with stamp := st }) := by
   obtain ⟨b', o', m', q1, -, -, -, q5⟩ := C3.vp.at' vk (by rw [hsA, List.length_set]; exact hvl)
   rw [p1] at q1
   injection q1 with q1
   injection q1 with q1 q2
   subst q1 q2
   simpa [hsA] using q5
  have H3 : (w2.setCell ⟨vb, vo + 2, none⟩ (.int .i64 st)).rangeAt w.heap.size 0 (hdC h) := fun j v hv => (O3.cell (p := ⟨w.heap.size, 0 + j, none⟩) (by show w.heap.size < _; omega) hne).trans (H2 j v hv)
  have D3 := D2.setCell ⟨vb, vo + 2, none⟩ (.int .i64 st)
  have hz3 : w.heap.size + 1 < (w2.setCell ⟨vb, vo + 2, none⟩ (.int .i64 st)).heap.size := by rw [World.size_setCell]; exact hz2
  have hb3 : vb < (w2.setCell ⟨vb, vo + 2, none⟩ (.int .i64 st)).heap.size := by rw [World.size_setCell]; exact hb2
  clear O3 hsA
  go_upto_region 5 with fail
  generalize hw3 : w2.setCell ⟨vb, vo + 2, none⟩ (.int .i64 st) = w3 at *
  clear hw3 H2 D2 K2 C2 uc2 uf2 hz2 hb2 hif
  go_wp2_with (refine wpList_load_mid rfl 36 (.tmp 3) rfl w.heap.size 0 ?lx3 (hdC h) _ ?lc3 Tryz.underlying36 rfl (qz1 _) ?_)
  try (case lx3 => rfl)
  try (case lc3 => exact H3)
  refine (qz6u base cb s g n _ ps qs (qz32 A h) { A.vers[vk] with stamp := st } vb vo h w3 (by omega) hAs C3 hb3 R3 (by rw [hns]; exact hver.1) hver.2.2.2.1 hver.2.2.2.2 hx0 (by rw [hns]; exact hx1)).mono ?_
  rintro e w4 ⟨rfl, b4⟩
  have D4 := D3.grown b4
  have C4 := C3.grown b4
  have K4 := K3.trans (b4.mono (by omega))
  rw [hdm.out]
  go_wp2_with (refine wpList_store_mid rfl 38 (.tmp 4) _ rfl (w.heap.size + 1) 0 (ddC (qz2b (qz32 A h) h)).toArray ?hx5 ?hy5 ?ht5 (qz25 _) (qz33 _) ?_)
  try (case hx5 => rfl)
  try (case hy5 => rfl)
  case ht5 => exact D4.there 0 5 (by omega)
  refine bodyPost_ret (v := .agg (ddC (qz2b (qz32 A h) h)).toArray) ?_ rfl ⟨by rw [hdd.out], ?_, ?_, ?_⟩
  ·exact qz4 Tryz.results27 _ _ (w.heap.size + 1) 0 rfl (ddC (qz2b (qz32 A h) h)) _ (World.rangeAt_setCells_same _ _ _ _ (D4.there 0 5 (by omega))) Tryz.underlying38 rfl (qz1m _)
  ·rw [hdr.out]
   exact C4.aside D4 (by decide) (by decide) (by decide) (by decide) (by decide) (by decide) (qzg (w.heap.size + 1) (ddC (qz2b (qz32 A h) h)) 0 w4)
  ·exact Below.setCells (by omega) _ _ _ K4
  ·exact (O3'.trans (But.of_below b4)).far (qzg (w.heap.size + 1) (ddC (qz2b (qz32 A h) h)) 0 w4) (by omega)
theorem qz3w (B : Nat) (A : Ar) (h : Hd) (a0 a1 a2 a3 : Option Addr) (c0 c1 c2 c3 : Nat) (w : World) (hB : B <= w.heap.size) (hA : A.size <= 1048576) (I : qzi B w (.slice a0 A.slots.length c0) (.slice a1 A.guides.length c1) (.slice a2 A.nodes.length c2) (.slice a3 A.vers.length c3) A) (x y z u : Int) (FI : qzcc x y z u A h) :
  Calls Tryz.prog 26 #[.agg #[.int .i64 A.camera, .slice a0 A.slots.length c0, .slice a1 A.guides.length c1, .slice a2 A.nodes.length c2, .slice a3 A.vers.length c3], .agg (hdC h).toArray] w fun e w' => e = .returned (.agg (hdC (qz97 A h)).toArray) /\ Below w.heap.size w w' := by
 have hA' := hA
 unfold Ar.size at hA
 have X0 := World.rangeAt_alloc (World.rangeAt_alloc (qz5 w [.int .i64 A.camera, .slice a0 A.slots.length c0, .slice a1 A.guides.length c1, .slice a2 A.nodes.length c2, .slice a3 A.vers.length c3] 35) (.cells (hdC h).toArray 36)) (.cells #[.int .i64 0, .int .i64 0, .int .i64 0, .int .i64 0, .int .i64 0, .int .i64 0, .int .i64 0, .int .i64 0, .int .i64 0, .int .i64 0, .int .i64 0, .int .i64 0, .int .i64 0, .int .i64 0, .int .i64 0, .int .i64 0, .int .i64 0, .int .i64 0, .int .i64 0, .int .i64 0, .int .i64 0, .int .i64 0] 36)
 have H0 := World.rangeAt_alloc (qz5 (w.alloc (.cells #[.int .i64 A.camera, .slice a0 A.slots.length c0, .slice a1 A.guides.length c1, .slice a2 A.nodes.length c2, .slice a3 A.vers.length c3] 35)) (hdC h) 36) (.cells #[.int .i64 0, .int .i64 0, .int .i64 0, .int .i64 0, .int .i64 0, .int .i64 0, .int .i64 0, .int .i64 0, .int .i64 0, .int .i64 0, .int .i64 0, .int .i64 0, .int .i64 0, .int .i64 0, .int .i64 0, .int .i64 0, .int .i64 0, .int .i64 0, .int .i64 0, .int .i64 0, .int .i64 0, .int .i64 0] 36)
 have F0 := qzf ((w.alloc (.cells #[.int .i64 A.camera, .slice a0 A.slots.length c0, .slice a1 A.guides.length c1, .slice a2 A.nodes.length c2, .slice a3 A.vers.length c3] 35)).alloc (.cells (hdC h).toArray 36)) #[.int .i64 0, .int .i64 0, .int .i64 0, .int .i64 0, .int .i64 0, .int .i64 0, .int .i64 0, .int .i64 0, .int .i64 0, .int .i64 0, .int .i64 0, .int .i64 0, .int .i64 0, .int .i64 0, .int .i64 0, .int .i64 0, .int .i64 0, .int .i64 0, .int .i64 0, .int .i64 0, .int .i64 0, .int .i64 0] 36 22 (by decide)
 have K0 := (((Below.refl w.heap.size w).alloc (Nat.le_refl _) (.cells #[.int .i64 A.camera, .slice a0 A.slots.length c0, .slice a1 A.guides.length c1, .slice a2 A.nodes.length c2, .slice a3 A.vers.length c3] 35)).alloc (by simp) (.cells (hdC h).toArray 36)).alloc (by simp; omega) (.cells #[.int .i64 0, .int .i64 0, .int .i64 0, .int .i64 0, .int .i64 0, .int .i64 0, .int .i64 0, .int .i64 0, .int .i64 0, .int .i64 0, .int .i64 0, .int .i64 0, .int .i64 0, .int .i64 0, .int .i64 0, .int .i64 0, .int .i64 0, .int .i64 0, .int .i64 0, .int .i64 0, .int .i64 0, .int .i64 0] 36)
 have hz0 : w.heap.size + 1 + 1 < (((w.alloc (.cells #[.int .i64 A.camera, .slice a0 A.slots.length c0, .slice a1 A.guides.length c1, .slice a2 A.nodes.length c2, .slice a3 A.vers.length c3] 35)).alloc (.cells (hdC h).toArray 36)).alloc (.cells #[.int .i64 0, .int .i64 0, .int .i64 0, .int .i64 0, .int .i64 0, .int .i64 0, .int .i64 0, .int .i64 0, .int .i64 0, .int .i64 0, .int .i64 0, .int .i64 0, .int .i64 0, .int .i64 0, .int .i64 0, .int .i64 0, .int .i64 0, .int .i64 0, .int .i64 0, .int .i64 0, .int .i64 0, .int .i64 0] 36)).heap.size := by simp
 simp only [World.size_alloc] at H0 F0
 have I0 := I.below (K0.mono hB)
 go_enter Tryz.func26, Tryz.ntmps26
 go_upto_region 1 with fail
 generalize hw0 : ((w.alloc (.cells #[.int .i64 A.camera, .slice a0 A.slots.length c0, .slice a1 A.guides.length c1, .slice a2 A.nodes.length c2, .slice a3 A.vers.length c3] 35)).alloc (.cells (hdC h).toArray 36)).alloc (.cells #[.int .i64 0, .int .i64 0, .int .i64 0, .int .i64 0, .int .i64 0, .int .i64 0, .int .i64 0, .int .i64 0, .int .i64 0, .int .i64 0, .int .i64 0, .int .i64 0, .int .i64 0, .int .i64 0, .int .i64 0, .int .i64 0, .int .i64 0, .int .i64 0, .int .i64 0, .int .i64 0, .int .i64 0, .int .i64 0] 36) = w0 at *
 clear hw0 I
 have hB0 : B <= w0.heap.size := Nat.le_trans hB K0.size
 obtain ⟨x0, x1, x2, x3, x4⟩ := row5 X0
 have q11 : w0.cell? ⟨w.heap.size + 1, 11, none⟩ = some (.int .i64 h.ver) := by simpa using H0 11 (.int .i64 h.ver) rfl
 go_wp2_with fail
 refine (qz8z B A h.ver a0 a1 a2 a3 c0 c1 c2 c3 w0 hB0 hA' I0).mono ?_
 rintro e w1 ⟨rfl, b1⟩
 have X1 := qz0 X0 b1 (by omega)
 have H1 := qz0 H0 b1 (by omega)
 have F1 := qz3 F0 b1 (by omega)
 have K1 := K0.trans (b1.mono (by omega))
 have I1 := I0.below (b1.mono hB0)
 have hz1 := Nat.lt_of_lt_of_le hz0 b1.size
 have hB1 := Nat.le_trans hB0 b1.size
 clear X0 H0 F0 K0 I0 hz0 hB0 b1 x0 x1 x2 x3 x4 q11
 obtain ⟨x0, x1, x2, x3, x4⟩ := row5 X1
 cases hst : qz1a A h.ver
 case false =>
  have hv : Hid (qz97 A h = qzw h 4) := by show _ = _; rw [qz97, if_neg (by rw [hst]; decide)]
  go_wp2_with (refine wpList_load_mid rfl 36 (.tmp 3) rfl (w.heap.size + 1) 0 ?lx1 (hdC h) _ ?lc1 Tryz.underlying36 rfl (qz1 _) ?_)
  try (case lx1 => rfl)
  case lc1 => exact H1
  refine (qzr h 4 w1).mono ?_
  rintro e w2 ⟨rfl, b2⟩
  have F2 := qz3 F1 b2 (by omega)
  have K2 := K1.trans (b2.mono (by omega))
  go_wp2_with (refine wpList_store_mid rfl 36 (.tmp 4) _ rfl (w.heap.size + 1 + 1) 0 (hdC (qzw h 4)).toArray ?hx2 ?hy2 ?ht2 (qz8 _) (qzc _) ?_)
  try (case hx2 => rfl)
  try (case hy2 => rfl)
  case ht2 => exact F2
  refine bodyPost_ret (v := .agg (hdC (qzw h 4)).toArray) ?_ rfl ⟨by rw [hv.out], ?_⟩
  ·exact qz4 Tryz.results26 _ _ (w.heap.size + 1 + 1) 0 rfl (hdC (qzw h 4)) _ (World.rangeAt_setCells_same _ _ _ _ F2) Tryz.underlying36 rfl (qz1 _)
  ·exact Below.setCells (by omega) _ _ _ K2
 case true =>
  have hv : Hid (qz97 A h = onH A h) := by show _ = _; rw [qz97, if_pos hst]
  go_wp2_with (refine wpList_load_mid rfl 36 (.tmp 3) rfl (w.heap.size + 1) 0 ?lx3 (hdC h) _ ?lc3 Tryz.underlying36 rfl (qz1 _) ?_)
  try (case lx3 => rfl)
  case lc3 => exact H1
  refine (qz6x B A h a0 a1 a2 a3 c0 c1 c2 c3 w1 hB1 hA' I1 x y z u FI.ok FI.v0 FI.v1 FI.x0 FI.x1 FI.c0 FI.c1 FI.n0 FI.o0 FI.o1 FI.s0 FI.s1 FI.t0 FI.t1).mono ?_
  rintro e w2 ⟨rfl, b2⟩
  have F2 := qz3 F1 b2 (by omega)
  have K2 := K1.trans (b2.mono (by omega))
  go_wp2_with (refine wpList_store_mid rfl 36 (.tmp 4) _ rfl (w.heap.size + 1 + 1) 0 (hdC (onH A h)).toArray ?hx4 ?hy4 ?ht4 (qz8 _) (qzc _) ?_)
  try (case hx4 => rfl)
  try (case hy4 => rfl)
  case ht4 => exact F2
  refine bodyPost_ret (v := .agg (hdC (onH A h)).toArray) ?_ rfl ⟨by rw [hv.out], ?_⟩
  ·exact qz4 Tryz.results26 _ _ (w.heap.size + 1 + 1) 0 rfl (hdC (onH A h)) _ (World.rangeAt_setCells_same _ _ _ _ F2) Tryz.underlying36 rfl (qz1 _)
  ·exact Below.setCells (by omega) _ _ _ K2
end
end Go.Proofs.YtknncnaikeinbaaGreat
