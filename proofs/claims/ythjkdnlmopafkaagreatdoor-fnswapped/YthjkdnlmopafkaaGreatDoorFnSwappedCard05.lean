/-
  What the law's proof goes by, part 6.
-/
import Derived.Deep.AppendSrc
import Derived.Maps.AppendAt
import Derived.Deep.OwnRows
import Derived.RangeFuncRecord
import Derived.Test.YthjkdnlmopafkaaGreatDoorFnSwappedCard00
import Derived.Test.YthjkdnlmopafkaaGreatDoorFnSwappedCard01
import Derived.Test.YthjkdnlmopafkaaGreatDoorFnSwappedCard02
import Derived.Test.YthjkdnlmopafkaaGreatDoorFnSwappedCard03
import Derived.Test.YthjkdnlmopafkaaGreatDoorFnSwappedCard04
namespace Go.Proofs.YthjkdnlmopafkaaGreatDoor
open Go.ChangeShapes Go.WideShapes Go.ChangeAt Go.RowKit
set_option maxRecDepth 100000
set_option maxHeartbeats 16000000
set_option linter.unusedVariables false
set_option linter.unusedSimpArgs false
set_option linter.unnecessarySimpa false
set_option linter.unusedSectionVars false
section
attribute [local go_sem ↓] Go.wp_at_zero Go.wp_at_succ
theorem qz78 {P : Program} (w : World) (base : Nat) (t ty e : TypeId) (i : TypeInfo) (z : Value) (size bytes : Nat) (ht : P.underlying t = some (.slice e)) (hi : P.info? e = some i) (hz : i.zero = some z)
  (hsize : i.size = size) (hby : i.bytes = bytes) (hzs : z.cells.size = size) (hsz : 0 < size) (g : Nat) (hown : w.ownsRow base e size Q48 0 [])
  (B : Nat) (x : Value) (len : Nat) (cs : List Value) (S : qzu B w x len cs) (hl : cs.length = len * size) (h1 : ∀ u ∈ cs, u.oneCell' = true) (h63 : len <= maxLen) (hbytes : len * bytes <= 140737488355328) (hbase : base <= Q6o) :
  ∃ v' w', (Builtin.append_ #[t, t] ty #[.slice (some ⟨g, 0, none⟩) 0 0, x]).run P w = .ok v' w' /\ w'.ownsRow base e size v' len cs /\ w.grownBy w' (some g) /\ (v'.ownBlock = some g ∨ v'.ownBlock = some Q6o) := by
 obtain ⟨a, cap, rfl, hS⟩ := S
 cases a with
 | none =>
  have h0 : len = 0 := by
   rcases hS with h | ⟨bb, off, h, _⟩
   ·exact h
   ·cases h
  subst h0
  have hc : cs = [] := List.eq_nil_of_length_eq_zero (by simpa using hl)
  subst hc
  have hr := run_append_room_src (P := P) w t t ty e i ht hi g 0 0 0 (.slice none 0 cap) 0 [] (Src.ofNil w ht cap) (by omega) (by simp) (by simp)
  refine ⟨_, _, hr, hown, ⟨rfl, rfl, rfl, Q6v _, fun _ _ _ => rfl⟩, Or.inl rfl⟩
 | some ad =>
  have hnews : ∀ j u, cs[j]? = some u -> w.cell? (ad.add j) = some u := by
   intro j u hj
   rcases hS with h | ⟨bb, off, h, _, R⟩
   ·subst h
    have hc : cs = [] := List.eq_nil_of_length_eq_zero (by simpa using hl)
    subst hc
    cases hj
   ·cases h
    have := R j u hj
    simpa [Addr.add_lit] using this
  obtain ⟨v', w', hr, h2, h3, _, h5⟩ := run_append_own_at (P := P) w base t ty e i z size bytes ht hi hz hsize hby hzs hsz _ 0 [] hown ad len cap cs hl hnews h1 (by simpa using h63) (by simpa using hbytes) hbase
  exact ⟨v', w', hr, by simpa using h2, h3, h5⟩
theorem qz5g {P : Program} (w : World) (base : Nat) (t ty e : TypeId) (i : TypeInfo) (z : Value) (size bytes : Nat) (ht : P.underlying t = some (.slice e)) (hi : P.info? e = some i) (hz : i.zero = some z)
  (hsize : i.size = size) (hby : i.bytes = bytes) (hzs : z.cells.size = size) (hsz : 0 < size) (g : Nat)
  (B : Nat) (x : Value) (len : Nat) (cs : List Value) (S : qzu B w x len cs) (hp : 0 < len) (hl : cs.length = len * size) (h1 : ∀ u ∈ cs, u.oneCell' = true) (h63 : len <= maxLen) (hbytes : len * bytes <= 140737488355328) (hbase : base <= Q6o) :
  ∃ cap w', (Builtin.append_ #[t, t] ty #[.slice (some ⟨g, 0, none⟩) 0 0, x]).run P w = .ok (.slice (some ⟨Q6o, 0, none⟩) len cap) w' /\ w'.ownsRow base e size (.slice (some ⟨Q6o, 0, none⟩) len cap) len cs /\ Below Q6o w w' /\ Q6o < w'.heap.size := by
 subst hsize
 subst hby
 obtain ⟨a, c, rfl, hS⟩ := S
 obtain ⟨bb, off, rfl, _, R⟩ : ∃ bb off, a = some ⟨bb, off, none⟩ /\ bb < B /\ w.rangeAt bb off cs := by
  rcases hS with h | h
  ·omega
  ·exact h
 have hnews : ∀ j u, cs[j]? = some u -> w.cell? ((⟨bb, off, none⟩ : Addr).add j) = some u := fun j u hj => by
  have := R j u hj
  simpa [Addr.add_lit] using this
 have hsmall : len <= 9223372036854775807 := by simp only [maxLen] at h63; omega
 have hr := run_append_grow (P := P) w t ty e i z ht hi hz ⟨g, 0, none⟩ 0 0 [] (by simp) (fun j u h => by cases h) ⟨bb, off, none⟩ len c cs hl hnews (by omega) (by omega) (growslice_fits (by omega) (by simpa using hbytes))
 simp only [Nat.zero_add] at hr
 have hge := grownCap_ge w len 0 e
 have hcm : grownCap w len 0 e <= maxLen := grownCap_le_maxLen w len 0 e h63
 refine ⟨_, _, hr, ⟨hl, .inr ⟨Q6o, _, _, rfl, hbase, heap_alloc_new w.drew _, hge, hcm, ?_, ?_⟩⟩, ⟨rfl, rfl, rfl, by simp, fun k hk => Below.heap_alloc w.drew _ k hk⟩, by simp⟩
 ·simp only [Array.size_append, List.size_toArray, size_zeroCells, hzs, hl, <- Nat.add_mul, List.length_nil, Nat.zero_add]
  congr 1
  omega
 ·simp only [Array.toList_append, List.append_assoc]
  rw [<- hl]
  simp
theorem qz4e {P : Program} {ops : Array Oper} {rest : List Oper} {o : Oper} {a : Act} {w : World} {Q : Exit -> Act -> World -> Prop} (hgd : o.guard = none) (s x : Operand) (t : TypeId)
  (ho : o.op = .call { callee := .builtin .append, args := #[s, x], argTypes := #[t, t] }) (base : Nat) (e : TypeId) (i : TypeInfo) (z : Value) (size bytes : Nat) (ht : P.underlying t = some (.slice e)) (hi : P.info? e = some i) (hz : i.zero = some z)
  (hsize : i.size = size) (hby : i.bytes = bytes) (hzs : z.cells.size = size) (hsz : 0 < size) (g : Nat) (hs : a.eval s = .slice (some ⟨g, 0, none⟩) 0 0) (hown : w.ownsRow base e size Q48 0 [])
  (B : Nat) (X : Value) (hx : a.eval x = X) (len : Nat) (cs : List Value) (S : qzu B w X len cs) (hl : cs.length = len * size) (h1 : ∀ u ∈ cs, u.oneCell' = true) (h63 : len <= maxLen) (hbytes : len * bytes <= 140737488355328) (hbase : base <= Q6o)
  (h : ∀ v' w', w'.ownsRow base e size v' len cs -> w.grownBy w' (some g) -> (v'.ownBlock = some g ∨ v'.ownBlock = some Q6o) -> wpList P ops Q rest (a.put o.dst v') w') : wpList P ops Q (o :: rest) a w := by
 refine wpList_plain hgd fun K hK => ?_
 obtain ⟨v', w', hr, h2, h3, h5⟩ := qz78 (P := P) w base t o.type e i z size bytes ht hi hz hsize hby hzs hsz g hown B X len cs S hl h1 h63 hbytes hbase
 unfold Oper.wp
 simp [execOp, ho, resolve, invoke, builtin, hs, hx, hr, Result.andThen, Oper.upon]
 exact hK _ _ (h v' w' h2 h3 h5)
theorem qz3m {α : Type} {f : α -> List Value} (hf : ∀ x, ∀ u ∈ f x, u.oneCell' = true) (l : List α) : ∀ u ∈ qz8 f l, u.oneCell' = true := by
 intro u hu
 unfold qz8 at hu
 obtain ⟨x, _, hx⟩ := List.mem_flatMap.1 hu
 exact hf x u hx
theorem qzdc : ∀ (x : Int), ∀ u ∈ intC x, u.oneCell' = true := by
 intro x u hu
 simp [intC] at hu
 subst hu
 rfl
theorem qzd5 : ∀ (x : Nd), ∀ u ∈ ndC x, u.oneCell' = true := by
 intro x u hu
 simp [ndC] at hu
 rcases hu with rfl | rfl | rfl <;> rfl
theorem qzde : ∀ (x : Vr), ∀ u ∈ vrC x, u.oneCell' = true := by
 intro x u hu
 simp [vrC] at hu
 rcases hu with rfl | rfl | rfl | rfl | rfl <;> rfl
theorem qz6y (B : Nat) (v : Value) (l : List Int) (w : World) (hB : B <= Q6o) (hl : l.length <= 1048576) (S : qzu B w v l.length (qz8 intC l)) :
  Calls Tryz.prog 80 #[v] w fun e w' => ∃ v', e = .returned v' /\ w'.ownsRow Q6o 2 1 v' l.length (qz8 intC l) /\ Below Q6o w w' := by
 obtain ⟨i0, hi, hzr, hsz, hby⟩ := info_parts qzbg
 have O0 := World.ownsRow_lit (base := Q6o) (e := 2) (size := 1) w #[] 0 (by simp) (by decide) (by simp)
 have al := (Q6s Q6o w).alloc (Q6v _) (.cells #[] 2)
 have S1 := S.below (al.mono hB)
 obtain ⟨a, cap, rfl, hS⟩ := id S
 go_enter Tryz.func80, Tryz.ntmps80
 go_wp2_with (at_builtin; refine qz4e rfl _ _ 26 rfl w.heap.size 2 i0 (.int .i64 0) 1 8 Tryz.underlying26 hi hzr hsz hby rfl (by decide) w.heap.size rfl O0 B (.slice a l.length cap) rfl l.length (qz8 intC l) S1 (by rw [qzz (sz := 1) (fun _ => rfl)]) (qz3m qzdc l) (by unfold maxLen; omega) (by omega) (by simp) ?_)
 intro v' w1 hown hgrow _
 have K1 := al.grown hgrow (by simp) (fun j e => by cases e; exact Q6v _)
 obtain ⟨va, vc, rfl⟩ := qzf hown
 go_wp2
 go_ret
 exact ⟨_, rfl, hown, K1⟩
end
section
attribute [local go_sem ↓] Go.wp_at_zero Go.wp_at_succ
theorem qz26 {w : World} {base base' : Nat} {e : TypeId} {sz : Nat} {v : Value} {n : Nat} {xs : List Value} (h : w.ownsRow base e sz v n xs) (hb : base' <= base) : w.ownsRow base' e sz v n xs := by
 refine ⟨h.1, ?_⟩
 rcases h.2 with h0 | ⟨g, cap, cur, rfl, hg, rest⟩
 ·exact Or.inl h0
 ·exact Or.inr ⟨g, cap, cur, rfl, Q77 hb hg, rest⟩
theorem qz1o {w w' : World} {base : Nat} {e : TypeId} {sz : Nat} {v : Value} {n : Nat} {xs : List Value} (h : w.ownsRow base e sz v n xs) (hb : Below Q6o w w') : w'.ownsRow base e sz v n xs := qze4 h hb (fun j e => qz2d h e)
theorem qzm {w w' : World} {base b : Nat} {e : TypeId} {sz : Nat} {v : Value} {n : Nat} {xs : List Value} (h : w.ownsRow base e sz v n xs) (hb : Only b w w') (hv : ∀ j, v.ownBlock = some j -> j ≠ b) : w'.ownsRow base e sz v n xs := by
 have hlt := fun j e => qz2d h (j := j) e
 refine ⟨h.1, ?_⟩
 rcases h.2 with h0 | ⟨g, cap, cur, rfl, hg, hh, rest⟩
 ·exact Or.inl h0
 ·exact Or.inr ⟨g, cap, cur, rfl, hg, (hb.block g (hlt g rfl) (hv g rfl)).trans hh, rest⟩
theorem qz3k {w : World} {base : Nat} {e : TypeId} {sz : Nat} {v : Value} {n : Nat} {xs : List Value} (h : w.ownsRow base e sz v n xs) : qz3e v = v.ownBlock := by
 obtain ⟨a, c, rfl⟩ := qzf h
 cases a <;> rfl
theorem qz2t {w : World} {base : Nat} {e : TypeId} {sz : Nat} {v : Value} {n : Nat} {xs : List Value} (h : w.ownsRow base e sz v n xs) : qzu Q6o w v n xs := by
 obtain ⟨b, a, cap, o, rfl, hN⟩ := qzgc h
 refine ⟨a, cap, rfl, ?_⟩
 rcases hN with h0 | ⟨rfl, _, hlt, R, _⟩
 ·exact Or.inl h0
 ·exact Or.inr ⟨b, o, rfl, hlt, R⟩
structure qz1t (base : Nat) (w : World) (s g n r : Value) (A : Ar) : Prop where
 rs : w.ownsRow base 2 1 s Q74 (qz8 intC A.slots)
 rg : w.ownsRow base 2 1 g Q75 (qz8 intC A.guides)
 rn : w.ownsRow base 42 3 n Q6q (qz8 ndC A.nodes)
 rr : w.ownsRow base 40 5 r Q6r (qz8 vrC A.vers)
 ne : ∀ b, s.ownBlock = some b -> g.ownBlock ≠ some b
theorem qz1t.is {base : Nat} {w : World} {s g n r : Value} {A : Ar} (O : qz1t base w s g n r A) : qz1j Q6o w s g n r A := ⟨qz2t O.rs, qz2t O.rg, qz2t O.rn, qz2t O.rr⟩
theorem qz1t.below {base : Nat} {w w' : World} {s g n r : Value} {A : Ar} (O : qz1t base w s g n r A) (hb : Below Q6o w w') : qz1t base w' s g n r A := ⟨qz1o O.rs hb, qz1o O.rg hb, qz1o O.rn hb, qz1o O.rr hb, O.ne⟩
theorem qz1t.only {base b : Nat} {w w' : World} {s g n r : Value} {A : Ar} (O : qz1t base w s g n r A) (hb : Only b w w') (hl : b < base) : qz1t base w' s g n r A :=
 ⟨qzm O.rs hb (fun j e => by have := qz1g O.rs e; omega), qzm O.rg hb (fun j e => by have := qz1g O.rg e; omega), qzm O.rn hb (fun j e => by have := qz1g O.rn e; omega), qzm O.rr hb (fun j e => by have := qz1g O.rr e; omega), O.ne⟩
theorem qz1t.lo {base base' : Nat} {w : World} {s g n r : Value} {A : Ar} (O : qz1t base w s g n r A) (hb : base' <= base) : qz1t base' w s g n r A := ⟨qz26 O.rs hb, qz26 O.rg hb, qz26 O.rn hb, qz26 O.rr hb, O.ne⟩
def qzh3 (b bs : Nat) (A : Ar) (a0 a1 a2 a3 : Option Addr) (c0 c1 c2 c3 : Nat) : Nat -> Value -> World -> Prop
 | 0, v, _ => v = .pointer (some ⟨b, 0, none⟩)
 | 1, v, _ => v = .int .i64 Q6w
 | 2, v, _ => v = .pointer (some ⟨b, 1, none⟩)
 | 3, v, _ => v = .slice a0 Q74 c0
 | 4, v, w => w.ownsRow bs 2 1 v Q74 (qz8 intC A.slots)
 | 5, v, _ => v = .pointer (some ⟨b, 2, none⟩)
 | 6, v, _ => v = .slice a1 Q75 c1
 | 7, v, w => w.ownsRow bs 2 1 v Q75 (qz8 intC A.guides)
 | 8, v, _ => ∃ g, v = .slice (some ⟨g, 0, none⟩) 0 0
 | 9, v, _ => v = .pointer (some ⟨b, 3, none⟩)
 | 10, v, _ => v = .slice a2 Q6q c2
 | 11, v, w => w.ownsRow bs 42 3 v Q6q (qz8 ndC A.nodes)
 | 12, v, _ => ∃ g, v = .slice (some ⟨g, 0, none⟩) 0 0
 | 13, v, _ => v = .pointer (some ⟨b, 4, none⟩)
 | 14, v, _ => v = .slice a3 Q6r c3
 | 15, v, w => w.ownsRow bs 40 5 v Q6r (qz8 vrC A.vers)
 | _, _, _ => True
def qz8q : Nat -> Bool
 | 4 => true
 | 7 => true
 | _ => false
theorem qzdp {b bs : Nat} {A : Ar} {a0 a1 a2 a3 : Option Addr} {c0 c1 c2 c3 : Nat} (i : Nat) (v : Value) (w w' : World) (h : qzh3 b bs A a0 a1 a2 a3 c0 c1 c2 c3 i v w) (hb : Below Q6o w w') : qzh3 b bs A a0 a1 a2 a3 c0 c1 c2 c3 i v w' := by
 match i, h with
 | 0, h => exact h
 | 1, h => exact h
 | 2, h => exact h
 | 3, h => exact h
 | 4, h => exact qz1o h hb
 | 5, h => exact h
 | 6, h => exact h
 | 7, h => exact qz1o h hb
 | 8, h => exact h
 | 9, h => exact h
 | 10, h => exact h
 | 11, h => exact qz1o h hb
 | 12, h => exact h
 | 13, h => exact h
 | 14, h => exact h
 | 15, h => exact qz1o h hb
 | i + 16, h => exact trivial
theorem qzen {b bs : Nat} {A : Ar} {a0 a1 a2 a3 : Option Addr} {c0 c1 c2 c3 : Nat} (i : Nat) (v : Value) (w : World) (q : Nat) (hf : qz8q i = true) (h : qzh3 b bs A a0 a1 a2 a3 c0 c1 c2 c3 i v w) (hq : qz3e v = some q) : q < Q6o := by
 unfold qz8q at hf
 split at hf
 ·rw [qz3k h] at hq; exact qz2d h hq
 ·rw [qz3k h] at hq; exact qz2d h hq
 ·cases hf
theorem qz5p (B : Nat) (A : Ar) (a0 a1 a2 a3 : Option Addr) (c0 c1 c2 c3 : Nat) (w : World) (hB : B <= Q6o) (hA : A.size <= 1048576) (I : qz1j B w Q0x Q0w Q0t Q11 A) (hs : 0 < Q74) (hg : 0 < Q75) (hn : 0 < Q6q) (hr : 0 < Q6r) :
  Calls Tryz.prog 39 #[.agg Q02] w fun e w' => ∃ s g n r, e = .returned (.agg Q1t) /\ qz1t Q6o w' s g n r A /\ Below Q6o w w' := by
 unfold Ar.size at hA
 have X0 := Q7b (qz6 w Q0j 30) (.cells Q09 30)
 have F0 := qzg Q35 Q09 30 5 (by decide)
 have K0 := ((Q6s Q6o w).alloc (Q6v _) (.cells Q02 30)).alloc (by simp) (.cells Q09 30)
 have hz0 : Q6o + 1 < ((Q35).alloc (.cells Q09 30)).heap.size := by simp
 simp only [World.size_alloc] at F0
 have I0 := I.below (K0.mono hB)
 go_enter Tryz.func39, Tryz.ntmps39
 go_wp2_with fail
 generalize hw0 : (Q35).alloc (.cells Q09 30) = w0 at *
 clear hw0 I
 refine qz2o 16 (by kernel_rfl) (qzh3 Q6o (Q6o + 2) A a0 a1 a2 a3 c0 c1 c2 c3) qz8q (by kernel_rfl) (by kernel_rfl) (by kernel_rfl) (by kernel_rfl) (by rfl) (fun i v w w' _ h hb => qzdp i v w w' h hb) (fun i v w q hf h hq => qzen i v w q hf h hq) ?step ?final
 case step =>
  intro i o hik ho a W hb hnn hd K hK
  obtain ⟨x0, x1, x2, x3, x4⟩ := row5 (qz0 X0 hb (by omega))
  have IW := I0.below (hb.mono (by omega))
  have hzW := hb.size
  match i, ho with
  | 0, ho =>
   obtain rfl := Q6p ho
   have e1 : a.eval (.tmp 1) = .pointer (some ⟨Q6o, 0, none⟩) := hnn 1 rfl
   refine qz1 (v := .pointer (some ⟨Q6o, 0, none⟩)) (w' := W) ?_ (hK _ _ rfl (Q6s _ _) (fun h => by cases h))
   generalize a.eval = ev at *
   go_simp
  | 1, ho =>
   obtain rfl := Q6p ho
   have e1 : a.eval (.tmp 3) = .pointer (some ⟨Q6o, 0, none⟩) := hd ⟨0, .data⟩ (by simp) rfl 3 rfl
   refine qz1 (v := .int .i64 Q6w) (w' := W) ?_ (hK _ _ rfl (Q6s _ _) (fun h => by cases h))
   generalize a.eval = ev at *
   go_simp
  | 2, ho =>
   obtain rfl := Q6p ho
   have e1 : a.eval (.tmp 1) = .pointer (some ⟨Q6o, 0, none⟩) := hnn 1 rfl
   refine qz1 (v := .pointer (some ⟨Q6o, 1, none⟩)) (w' := W) ?_ (hK _ _ rfl (Q6s _ _) (fun h => by cases h))
   generalize a.eval = ev at *
   go_simp
  | 3, ho =>
   obtain rfl := Q6p ho
   have e1 : a.eval (.tmp 5) = .pointer (some ⟨Q6o, 1, none⟩) := hd ⟨2, .data⟩ (by simp) rfl 5 rfl
   refine qz1 (v := .slice a0 Q74 c0) (w' := W) ?_ (hK _ _ rfl (Q6s _ _) (fun h => by cases h))
   generalize a.eval = ev at *
   go_simp
  | 4, ho =>
   obtain rfl := Q6p ho
   have e1 : a.eval (.tmp 6) = .slice a0 Q74 c0 := hd ⟨3, .data⟩ (by simp) rfl 6 rfl
   have ef : a.eval (.func 80) = .func (.func 80) #[] #[] := rfl
   refine qz19 (f := 80) (args := #[.slice a0 Q74 c0]) (R := fun v w' => w'.ownsRow W.heap.size 2 1 v Q74 (qz8 intC A.slots) /\ Below W.heap.size W w') ?_ ((qz6y B _ A.slots W (by omega) (by omega) IW.s).mono (fun e w' h => h)) (fun v w' h => hK v w' (qz26 h.1 (by omega)) h.2 (fun _ q hq => by rw [qz3k h.1] at hq; exact qz1g h.1 hq))
   generalize a.eval = ev at *
   go_simp
  | 5, ho =>
   obtain rfl := Q6p ho
   have e1 : a.eval (.tmp 1) = .pointer (some ⟨Q6o, 0, none⟩) := hnn 1 rfl
   refine qz1 (v := .pointer (some ⟨Q6o, 2, none⟩)) (w' := W) ?_ (hK _ _ rfl (Q6s _ _) (fun h => by cases h))
   generalize a.eval = ev at *
   go_simp
  | 6, ho =>
   obtain rfl := Q6p ho
   have e1 : a.eval (.tmp 8) = .pointer (some ⟨Q6o, 2, none⟩) := hd ⟨5, .data⟩ (by simp) rfl 8 rfl
   refine qz1 (v := .slice a1 Q75 c1) (w' := W) ?_ (hK _ _ rfl (Q6s _ _) (fun h => by cases h))
   generalize a.eval = ev at *
   go_simp
  | 7, ho =>
   obtain rfl := Q6p ho
   have e1 : a.eval (.tmp 9) = .slice a1 Q75 c1 := hd ⟨6, .data⟩ (by simp) rfl 9 rfl
   have ef : a.eval (.func 80) = .func (.func 80) #[] #[] := rfl
   refine qz19 (f := 80) (args := #[.slice a1 Q75 c1]) (R := fun v w' => w'.ownsRow W.heap.size 2 1 v Q75 (qz8 intC A.guides) /\ Below W.heap.size W w') ?_ ((qz6y B _ A.guides W (by omega) (by omega) IW.g).mono (fun e w' h => h)) (fun v w' h => hK v w' (qz26 h.1 (by omega)) h.2 (fun _ q hq => by rw [qz3k h.1] at hq; exact qz1g h.1 hq))
   generalize a.eval = ev at *
   go_simp
  | 8, ho =>
   obtain rfl := Q6p ho
   refine qz1 (v := .slice (some ⟨W.heap.size, 0, none⟩) 0 0) (w' := W.alloc (.cells #[] 42)) ?_ (hK _ _ ⟨_, rfl⟩ ((Q6s _ _).alloc (Q6v _) _) (fun h => by cases h))
   generalize a.eval = ev at *
   go_simp
  | 9, ho =>
   obtain rfl := Q6p ho
   have e1 : a.eval (.tmp 1) = .pointer (some ⟨Q6o, 0, none⟩) := hnn 1 rfl
   refine qz1 (v := .pointer (some ⟨Q6o, 3, none⟩)) (w' := W) ?_ (hK _ _ rfl (Q6s _ _) (fun h => by cases h))
   generalize a.eval = ev at *
   go_simp
  | 10, ho =>
   obtain rfl := Q6p ho
   have e1 : a.eval (.tmp 12) = .pointer (some ⟨Q6o, 3, none⟩) := hd ⟨9, .data⟩ (by simp) rfl 12 rfl
   refine qz1 (v := .slice a2 Q6q c2) (w' := W) ?_ (hK _ _ rfl (Q6s _ _) (fun h => by cases h))
   generalize a.eval = ev at *
   go_simp
  | 11, ho =>
   obtain rfl := Q6p ho
   obtain ⟨g, e1⟩ := (show ∃ g, a.eval (.tmp 11) = .slice (some ⟨g, 0, none⟩) 0 0 from hd ⟨8, .data⟩ (by simp) rfl 11 rfl)
   have e2 : a.eval (.tmp 13) = .slice a2 Q6q c2 := hd ⟨10, .data⟩ (by simp) rfl 13 rfl
   obtain ⟨i0, hi, hzr, hsz, hby⟩ := info_parts qz6u
   obtain ⟨cap, w', hrun, how, hbl, hlt⟩ := qz5g (P := Tryz.prog) W (w.heap.size + 2) 27 27 42 i0 _ 3 24 Tryz.underlying27 hi hzr hsz hby rfl (by decide) g B _ A.nodes.length (qz8 ndC A.nodes) IW.n hn (by rw [qzz (sz := 3) (fun _ => rfl)]) (qz3m qzd5 A.nodes) (by unfold maxLen; omega) (by omega) (by omega)
   refine qz1 (v := .slice (some ⟨W.heap.size, 0, none⟩) Q6q cap) (w' := w') ?_ (hK _ _ how hbl (fun h => by cases h))
   generalize a.eval = ev at *
   simp [execOp, resolve, invoke, builtin, e1, e2, hrun, Result.andThen]
  | 12, ho =>
   obtain rfl := Q6p ho
   refine qz1 (v := .slice (some ⟨W.heap.size, 0, none⟩) 0 0) (w' := W.alloc (.cells #[] 40)) ?_ (hK _ _ ⟨_, rfl⟩ ((Q6s _ _).alloc (Q6v _) _) (fun h => by cases h))
   generalize a.eval = ev at *
   go_simp
  | 13, ho =>
   obtain rfl := Q6p ho
   have e1 : a.eval (.tmp 1) = .pointer (some ⟨Q6o, 0, none⟩) := hnn 1 rfl
   refine qz1 (v := .pointer (some ⟨Q6o, 4, none⟩)) (w' := W) ?_ (hK _ _ rfl (Q6s _ _) (fun h => by cases h))
   generalize a.eval = ev at *
   go_simp
  | 14, ho =>
   obtain rfl := Q6p ho
   have e1 : a.eval (.tmp 16) = .pointer (some ⟨Q6o, 4, none⟩) := hd ⟨13, .data⟩ (by simp) rfl 16 rfl
   refine qz1 (v := .slice a3 Q6r c3) (w' := W) ?_ (hK _ _ rfl (Q6s _ _) (fun h => by cases h))
   generalize a.eval = ev at *
   go_simp
  | 15, ho =>
   obtain rfl := Q6p ho
   obtain ⟨g, e1⟩ := (show ∃ g, a.eval (.tmp 15) = .slice (some ⟨g, 0, none⟩) 0 0 from hd ⟨12, .data⟩ (by simp) rfl 15 rfl)
   have e2 : a.eval (.tmp 17) = .slice a3 Q6r c3 := hd ⟨14, .data⟩ (by simp) rfl 17 rfl
   obtain ⟨i0, hi, hzr, hsz, hby⟩ := info_parts qz9i
   obtain ⟨cap, w', hrun, how, hbl, hlt⟩ := qz5g (P := Tryz.prog) W (w.heap.size + 2) 28 28 40 i0 _ 5 40 Tryz.underlying28 hi hzr hsz hby rfl (by decide) g B _ A.vers.length (qz8 vrC A.vers) IW.r hr (by rw [qzz (sz := 5) (fun _ => rfl)]) (qz3m qzde A.vers) (by unfold maxLen; omega) (by omega) (by omega)
   refine qz1 (v := .slice (some ⟨W.heap.size, 0, none⟩) Q6r cap) (w' := w') ?_ (hK _ _ how hbl (fun h => by cases h))
   generalize a.eval = ev at *
   simp [execOp, resolve, invoke, builtin, e1, e2, hrun, Result.andThen]
  | n + 16, ho => omega
 case final =>
  intro vs W hb hG hD
  have g1 : vs 1 = .int .i64 Q6w := hG 1 (by decide)
  have g4 : W.ownsRow (Q6o + 2) 2 1 (vs 4) Q74 (qz8 intC A.slots) := hG 4 (by decide)
  have g7 : W.ownsRow (Q6o + 2) 2 1 (vs 7) Q75 (qz8 intC A.guides) := hG 7 (by decide)
  have g11 : W.ownsRow (Q6o + 2) 42 3 (vs 11) Q6q (qz8 ndC A.nodes) := hG 11 (by decide)
  have g15 : W.ownsRow (Q6o + 2) 40 5 (vs 15) Q6r (qz8 vrC A.vers) := hG 15 (by decide)
  have hne : ∀ b, (vs 4).ownBlock = some b -> (vs 7).ownBlock ≠ some b := fun b h => by
   have := hD 4 7 b (by decide) (by decide) (by decide) rfl rfl (by rw [qz3k g4]; exact h)
   rw [qz3k g7] at this
   exact this
  have OW : qz1t (Q6o + 2) W (vs 4) (vs 7) (vs 11) (vs 15) A := ⟨g4, g7, g11, g15, hne⟩
  have FW := qz5 F0 hb (by omega)
  have KW := K0.trans (hb.mono (by omega))
  generalize hl : laid _ vs _ _ _ = A'
  have hA' : A' = { tmps := #[.agg Q02, .pointer (some ⟨Q6o, 0, none⟩), .pointer (some ⟨Q6o + 1, 0, none⟩), vs 0, vs 1, vs 2, vs 3, vs 4, vs 5, vs 6, vs 7, vs 8, vs 9, vs 10, vs 11, vs 12, vs 13, vs 14, vs 15, undef], defers := [] } := by
   rw [<- hl]
   kernel_rfl
  subst hA'
  rw [g1]
  obtain ⟨sa, sc, es⟩ := qzf g4
  obtain ⟨ga, gc, eg⟩ := qzf g7
  obtain ⟨na, nc, en⟩ := qzf g11
  obtain ⟨ra, rc, er⟩ := qzf g15
  rw [es, eg, en, er] at OW ⊢
  clear hl hG hD g1 g4 g7 g11 g15 hne es eg en er X0 F0 I0 K0
  have OF : qz1t Q6o (W.setCells (Q6o + 1) 0 Q46) Q0a Q07 Q0c Q0h A := (OW.only (qze (Q6o + 1) _ 0 W) (by omega)).lo (by omega)
  have KF := Below.setCells (B := Q6o) (b := Q6o + 1) (by omega) Q46 0 _ KW
  go_wp2_with (refine Q6t rfl 30 (.tmp 2) (.tmp 19) rfl (Q6o + 1) 0 Q5s ?hx ?hy ?ht ?hi ?h1 ?_)
  case hx => rfl
  case hy => rfl
  case ht => exact FW
  case hi => exact qz1n
  case h1 => simp [Value.oneCell']
  refine bodyPost_ret (v := .agg Q5s) ?_ rfl ⟨_, _, _, _, rfl, OF, KF⟩
  exact qz3 Tryz.results39 _ _ (Q6o + 1) 0 rfl Q46 _ (Q6u _ _ _ _ FW) Q7g rfl qz1n
end
section
theorem qz9s (w1 : World) (uN : Nat) : (qz5n w1 uN).heap[Q6y]? = some (.cells (Q4r).toArray 2 (0, 0)) /\ (qz5n w1 uN).heap[Q6y + 1]? = some (.cells (ndC ⟨-1, 0, 0⟩).toArray 42 (0, 0)) /\ (qz5n w1 uN).heap[Q6y + 1 + 1]? = some (.cells (vrC ⟨-1, false, 0, -1, 0⟩).toArray 40 (0, 0)) := by
 have e : madeCells #[Value.int IntKind.i64 0] uN = (Q4r).toArray := by
  apply Array.toList_inj.1
  rw [toList_madeCells_one, qz42]
 have keep : ∀ (w : World) (o : Obj) (k : Nat), k < Q6o -> (w.alloc o).heap[k]? = w.heap[k]? := fun w o k h => ((Q6s Q6o w).alloc (Q6v _) o).block k h
 unfold qz5n
 rw [e]
 refine ⟨?_, ?_, ?_⟩
 ·rw [keep _ _ _ (by simp only [World.size_alloc]; omega), keep _ _ _ (by simp only [World.size_alloc]; omega), keep _ _ _ (by simp only [World.size_alloc]; omega)]
  exact World.alloc_heap_new _ _
 ·rw [keep _ _ _ (by simp only [World.size_alloc]; omega), keep _ _ _ (by simp only [World.size_alloc]; omega)]
  have h := World.alloc_heap_new (w1.alloc (Obj.cells (Q4r).toArray 2)) (Obj.cells (ndC ⟨-1, 0, 0⟩).toArray 42)
  simp only [World.size_alloc] at h
  exact h
 ·rw [keep _ _ _ (by simp only [World.size_alloc]; omega)]
  have h := World.alloc_heap_new ((w1.alloc (Obj.cells (Q4r).toArray 2)).alloc (Obj.cells (ndC ⟨-1, 0, 0⟩).toArray 42)) (Obj.cells (vrC ⟨-1, false, 0, -1, 0⟩).toArray 40)
  simp only [World.size_alloc] at h
  exact h
theorem qz8h {w : World} {base : Nat} {e : TypeId} {sz n g : Nat} {xs : List Value} (hl : xs.length = n * sz) (hg : base <= g) (hb : w.heap[g]? = some (.cells xs.toArray e (0, 0))) (hn : n <= 1000) : w.ownsRow base e sz (.slice (some ⟨g, 0, none⟩) n n) n xs :=
 ⟨hl, Or.inr ⟨g, n, xs.toArray, rfl, hg, hb, Nat.le_refl _, by unfold maxLen; omega, by simpa using hl, by rw [<- hl]; simp⟩⟩
theorem qz1t.onlyAt {base b : Nat} {w w1 w' : World} {s g n r : Value} {A : Ar} (O : qz1t base w s g n r A) (ha : Below Q6o w w1) (hb : Only b w1 w') (hm : Q6o <= b) : qz1t base w' s g n r A :=
 ⟨qzm (qz1o O.rs ha) hb (fun j e => by have := qz2d O.rs e; omega), qzm (qz1o O.rg ha) hb (fun j e => by have := qz2d O.rg e; omega), qzm (qz1o O.rn ha) hb (fun j e => by have := qz2d O.rn e; omega), qzm (qz1o O.rr ha) hb (fun j e => by have := qz2d O.rr e; omega), O.ne⟩
theorem qz9a (xN uN : Nat) (y z : Int) (w : World) (hp : qz3w xN y z uN = true) :
  Calls Tryz.prog 124 #[.agg Q49] w fun e w' => ∃ sg sc gb nb vb, e = .returned (.agg #[.int .i64 0, .slice (some ⟨sg, 0, none⟩) xN sc, .slice (some ⟨gb, 0, none⟩) uN uN, .slice (some ⟨nb, 0, none⟩) 1 1, .slice (some ⟨vb, 0, none⟩) 1 1]) /\
   qz1j w'.heap.size w' Q3d Q3e Q3q Q3p (qz24 xN uN) /\ Below Q6o w w' /\ Hid ((Q6o <= sg /\ Q6o <= gb /\ Q6o <= nb /\ Q6o <= vb) /\ qz1t Q6o w' Q3d Q3e Q3q Q3p (qz24 xN uN)) := by
 have hr := (qz2n xN y z uN).1 hp
 obtain ⟨⟨hx1, hx2⟩, ⟨hy1, hy2⟩, ⟨hz1, hz2⟩, hu1, hu2⟩ := hr
 have hmk := fun w => run_make_row' (P := Tryz.prog) 26 2 (.int .i64 0) 8 Tryz.underlying26 qzbg rfl .i64 .i64 uN (by omega) (by omega) w
 have P0 := qz1q w xN y z uN 25
 go_enter Tryz.func124, Tryz.ntmps124
 go_wp2_with fail
 have R0 := qzg (w.alloc (Obj.cells Q49 25)) Q09 30 5 (by decide)
 refine (qz1y _ _ _ _ _).mono ?_
 rintro e w1 ⟨rfl, b1⟩
 have hz1 := b1.size
 simp at hz1
 have P1 := (P0.below ((Q6s _ _).alloc (Q6v _) _) (by simp)).below b1 (by simp; omega)
 have R1 := qz5 R0 b1 (by simp)
 have bb1 := (((Q6s Q6o w).alloc (Q6v _) (Obj.cells Q49 25)).alloc (by simp) (Obj.cells Q09 30)).trans (b1.mono (by simp; omega))
 have P1' := P1
 obtain ⟨c0, c1, c2, c3⟩ := P1'
 clear b1 P0 R0
 rw [hp]
 obtain ⟨i0, hi, hzr, hsz, hby⟩ := info_parts qzbg
 go_wp2
 go_loopw [4] (fun i wr => ∃ (k : Nat) (s : Value), k <= xN /\ i = .int .i64 k /\ qz6x w1 uN wr k s) (fun i _ => xN - (intOf i).toNat)
 case atStart => exact ⟨0, _, Nat.zero_le _, rfl, qza2 w1 uN⟩
 case round =>
  obtain ⟨k, s, hk, rfl, D⟩ := hrel
  have hz := D.blk
  have bW : Below Q6y w1 wr := (by
   have h1 : Below Q6y w1 (qz5n w1 uN) := ((((Q6s Q6y w1).alloc (Q6v _) _).alloc (by simp) _).alloc (by simp; omega) _).alloc (by simp; omega) _
   exact h1.trans (D.bel.mono (by omega)))
  obtain ⟨e0, e1, e2, e3⟩ := P1.below bW (by omega)
  by_cases hlt : k < xN
  ·have D0 := D
   obtain ⟨a0, a1, a2, a3, a4, f1, own, bel⟩ := D
   go_wp2_with (at_builtin; refine wpList_append_own _ rfl _ _ 26 rfl (Q6y + 4) 2 i0 (.int .i64 0) 1 8 Tryz.underlying26 hi hzr hsz hby rfl (by decide) _ _ _ rfl (own.alloc _) ⟨wr.heap.size, 0, none⟩ 1 1 [.int .i64 (-1)] rfl rfl ?c1 ?c2 ?c3 ?c4 ?c5 ?_)
   case c1 =>
    intro j u hj
    match j, hj with
    | 0, hj => simp at hj; subst hj; simp [Addr.add]
   case c2 => intro u hu; simp at hu; subst hu; rfl
   case c3 => unfold maxLen; omega
   case c4 => omega
   case c5 => simp; omega
   intro v' w2 hown' hgrow _
   have S := D0.step hown' hgrow
   have b2 : Below (Q6y + 4) wr w2 := ((Q6s _ wr).alloc hz _).grown hgrow (by simp; omega) (fun j e => qz1g own e)
   have g1 := (b2.cell (p := ⟨Q6y + 1 + 1 + 1, 1, none⟩) (by simp)).trans a1
   have g2 := (b2.frozen (p := ⟨Q6y + 1 + 1 + 1, 1, none⟩) (by simp)).trans f1
   obtain ⟨g, cap, hv⟩ := qz12 hown' (by omega)
   rw [hv] at S ⊢
   clear own bel D0 hown' hgrow b2 bW
   go_wp2
   go_roundw
   case rel => exact ⟨k + 1, _, by omega, by go_num, S⟩
   case measure => simp [intOf]; omega
  ·obtain rfl : k = xN := by omega
   have D0 := D
   obtain ⟨a0, a1, a2, a3, a4, f1, own, bel⟩ := D
   have R2 := qz5 R1 bW (by simp; omega)
   simp only [World.size_alloc] at R2
   obtain ⟨g, cap, rfl⟩ := qz12 own (by omega)
   obtain ⟨gz, gr⟩ := qze8 own (by omega)
   rw [<- qz42] at gr
   obtain ⟨B0, B1, B2⟩ := qzc9 w1 uN
   have M0 := qz0 B0 bel (by omega)
   have M1 := qz0 B1 bel (by omega)
   have M2 := qz0 B2 bel (by omega)
   have gg := qz1g own rfl
   have gg' : Q6y + 4 <= g := gg
   have hlow : Hid (Q6o <= g /\ Q6o <= Q6y /\ Q6o <= Q6y + 1 /\ Q6o <= Q6y + 1 + 1) := by show _ /\ _; omega
   obtain ⟨Z0, Z1, Z2⟩ := qz9s w1 uN
   have OO : qz1t Q6y wr (.slice (some ⟨g, 0, none⟩) k cap) (.slice (some ⟨Q6y, 0, none⟩) uN uN) (.slice (some ⟨Q6y + 1, 0, none⟩) 1 1) (.slice (some ⟨Q6y + 1 + 1, 0, none⟩) 1 1) (qz24 k uN) := by
    refine ⟨?_, ?_, ?_, ?_, ?_⟩
    ·have h := qz26 (base' := Q6y) own (by omega)
     simpa [qz24, qz42] using h
    ·have h := qz8h (sz := 1) (n := uN) (base := w1.heap.size) (by simp [qz42]) (Nat.le_refl _) ((bel.block _ (by omega)).trans Z0) (by omega)
     simpa [qz24] using h
    ·have h := qz8h (sz := 3) (n := 1) (base := w1.heap.size) (by simp [ndC]) (by omega) ((bel.block _ (by omega)).trans Z1) (by omega)
     simpa [qz24, qz8] using h
    ·have h := qz8h (sz := 5) (n := 1) (base := w1.heap.size) (by simp [vrC]) (by omega) ((bel.block _ (by omega)).trans Z2) (by omega)
     simpa [qz24, qz8] using h
    ·intro b hb hc
     simp [Value.ownBlock] at hb hc
     omega
   clear Z0 Z1 Z2
   clear bel own B0 B1 B2 gg'
   go_wp2_with (refine wpList_store_mid rfl 30 (.tmp 2) (.tmp 28) rfl (w.heap.size + 1) 0 _ rfl rfl R2 qz1n (by simp [Value.oneCell']) ?_)
   refine bodyPost_ret (v := .agg #[.int .i64 0, .slice (some ⟨g, 0, none⟩) k cap, .slice (some ⟨Q6y, 0, none⟩) uN uN, .slice (some ⟨Q6y + 1, 0, none⟩) 1 1, .slice (some ⟨Q6y + 1 + 1, 0, none⟩) 1 1]) ?_ rfl ⟨_, _, _, _, _, rfl, ⟨?_, ?_, ?_, ?_⟩, ?_, ⟨hlow.out, ?_⟩⟩
   ·exact qz3 Tryz.results124 _ _ (Q6o + 1) 0 rfl Q1o _ (Q6u _ _ _ _ R2) Q7g rfl qz1n
   ·exact qzu.of (by simp [qz24]) (by rw [qzp]; omega) (World.rangeAt_setCells_apart gr (w.heap.size + 1) 0 Q1o (Or.inl (by omega)))
   ·exact qzu.of (by simp [qz24]) (by rw [qzp]; omega) (World.rangeAt_setCells_apart M0 (w.heap.size + 1) 0 Q1o (Or.inl (by omega)))
   ·exact qzu.of (rfl) (by rw [qzp]; omega) (World.rangeAt_setCells_apart M1 (w.heap.size + 1) 0 Q1o (Or.inl (by omega)))
   ·exact qzu.of (rfl) (by rw [qzp]; omega) (World.rangeAt_setCells_apart M2 (w.heap.size + 1) 0 Q1o (Or.inl (by omega)))
   ·exact Below.setCells (by omega) _ _ _ (bb1.trans (bW.mono (by omega)))
   ·exact (OO.only (qze (Q6o + 1) _ 0 wr) (by omega)).lo (by omega)
end
end Go.Proofs.YthjkdnlmopafkaaGreatDoor
