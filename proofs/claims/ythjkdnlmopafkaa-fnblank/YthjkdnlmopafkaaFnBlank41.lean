/-
  What the law's proof goes by, part 42.
-/
import Derived.Test.YthjkdnlmopafkaaFnBlank00
import Derived.Test.YthjkdnlmopafkaaFnBlank01
import Derived.Test.YthjkdnlmopafkaaFnBlank02
import Derived.Test.YthjkdnlmopafkaaFnBlank39
import Derived.Test.YthjkdnlmopafkaaFnBlank40
namespace Go.Proofs.Ythjkdnlmopafkaa
open Go.ChangeShapes Go.WideShapes Go.ChangeAt Go.RowKit
set_option maxRecDepth 100000
set_option maxHeartbeats 16000000
set_option linter.unusedVariables false
set_option linter.unusedSimpArgs false
set_option linter.unnecessarySimpa false
set_option linter.unusedSectionVars false
section
attribute [local go_sem ↓] Go.wp_at_zero Go.wp_at_succ
def qz4m (lo n : Nat) (v : Value) (w : World) : Prop := ∃ b, v = .slice (some ⟨b, 0, none⟩) n n /\ lo <= b /\ w.heap[b]? = some (.cells (List.replicate n (.int .i64 0)).toArray 2 (0, 0))
def qzcj (T : TypeId) (cs : List Value) (v : Value) (w : World) : Prop := ∃ b, v = .pointer (some ⟨b, 0, none⟩) /\ w.heap[b]? = some (.cells cs.toArray T (0, 0))
def qz6a (T PT : TypeId) (cs : List Value) (v : Value) (w : World) : Prop := ∃ b p, v = .slice (some ⟨b, 0, none⟩) 1 1 /\ w.heap[b]? = some (.cells #[.pointer (some ⟨p, 0, none⟩)] PT (0, 0)) /\ w.heap[p]? = some (.cells cs.toArray T (0, 0))
theorem qz49 {w w' : World} {b : Nat} {o : Obj} (h : w.heap[b]? = some o) (hb : Below Q67 w w') : w'.heap[b]? = some o := by
 have hlt : b < Q67 := by
  rcases Nat.lt_or_ge b Q67 with hl | hl
  ·exact hl
  ·rw [Array.getElem?_eq_none hl] at h; cases h
 rw [hb.block b hlt]
 exact h
theorem qzc2 {w : World} {a b : Nat} {c d : Array Value} {t u : TypeId} {f g : Nat × Nat} (h1 : w.heap[a]? = some (.cells c t f)) (h2 : w.heap[b]? = some (.cells d u g)) (h : t ≠ u) : a ≠ b := by
 intro e
 subst e
 rw [h1] at h2
 injection h2 with h2
 injection h2 with _ h3 _
 exact h h3
theorem qzd6 {w : World} {b : Nat} {o : Obj} (h : w.heap[b]? = some o) : b < Q67 := by
 rcases Nat.lt_or_ge b Q67 with hl | hl
 ·exact hl
 ·rw [Array.getElem?_eq_none hl] at h; cases h
theorem qz52 (w : World) (o : Obj) : (w.alloc o).heap[Q67]? = some o := by
 show (w.heap.push o)[Q67]? = some o
 simp
theorem qz4m.kept {lo n : Nat} {v : Value} {w w' : World} (h : qz4m lo n v w) (hb : Below Q67 w w') : qz4m lo n v w' := by
 obtain ⟨b, h1, h0, h2⟩ := h
 exact ⟨b, h1, h0, qz49 h2 hb⟩
theorem qzcj.kept {T : TypeId} {cs : List Value} {v : Value} {w w' : World} (h : qzcj T cs v w) (hb : Below Q67 w w') : qzcj T cs v w' := by
 obtain ⟨b, h1, h2⟩ := h
 exact ⟨b, h1, qz49 h2 hb⟩
theorem qz6a.kept {T PT : TypeId} {cs : List Value} {v : Value} {w w' : World} (h : qz6a T PT cs v w) (hb : Below Q67 w w') : qz6a T PT cs v w' := by
 obtain ⟨b, p, h1, h2, h3⟩ := h
 exact ⟨b, p, h1, qz49 h2 hb, qz49 h3 hb⟩
def qz83 (lo xN uN : Nat) (s g n r : Value) (w : World) : Prop :=
 qz4m lo xN s w /\ qz4m lo uN g w /\ qz6a 78 105 (ndC ⟨-1, 0, 0⟩) n w /\ qz6a 54 107 (vrC ⟨-1, false, 0, -1, 0⟩) r w /\ ∀ b, qz3e s = some b -> qz3e g ≠ some b
theorem qz83.kept {lo xN uN : Nat} {s g n r : Value} {w w' : World} (h : qz83 lo xN uN s g n r w) (hb : Below Q67 w w') : qz83 lo xN uN s g n r w' :=
 ⟨h.1.kept hb, h.2.1.kept hb, h.2.2.1.kept hb, h.2.2.2.1.kept hb, h.2.2.2.2⟩
def qzcz (wz xN uN : Nat) (i : Nat) (v : Value) (w : World) : Prop :=
 match i with
 | 0 => v = .pointer (some ⟨wz, 0, none⟩)
 | 1 => v = .int .i64 xN
 | 2 => qz4m wz xN v w
 | 3 => v = .pointer (some ⟨wz, 3, none⟩)
 | 4 => v = .int .i64 uN
 | 5 => qz4m wz uN v w
 | 6 => v = .agg (ndC ⟨-1, 0, 0⟩).toArray
 | 7 => qzcj 78 (ndC ⟨-1, 0, 0⟩) v w
 | 8 => qz6a 78 105 (ndC ⟨-1, 0, 0⟩) v w
 | 9 => v = .agg (vrC ⟨-1, false, 0, -1, 0⟩).toArray
 | 10 => qzcj 54 (vrC ⟨-1, false, 0, -1, 0⟩) v w
 | 11 => qz6a 54 107 (vrC ⟨-1, false, 0, -1, 0⟩) v w
 | 12 => ∃ s g n r, v = .agg Q53 /\ qz83 wz xN uN s g n r w
 | _ => ∃ b s g n r, v = .pointer (some ⟨b, 0, none⟩) /\ w.heap[b]? = some (.cells Q53 110 (0, 0)) /\ qz83 wz xN uN s g n r w
def qz6e (i : Nat) : Bool := i == 2 || i == 5
theorem qzah (wz xN uN : Nat) : ∀ (i : Nat) (v : Value) (w w' : World), qzcz wz xN uN i v w -> Below Q67 w w' -> qzcz wz xN uN i v w'
 | 0, _, _, _, h, _ => h
 | 1, _, _, _, h, _ => h
 | 2, _, _, _, h, hb => qz4m.kept h hb
 | 3, _, _, _, h, _ => h
 | 4, _, _, _, h, _ => h
 | 5, _, _, _, h, hb => qz4m.kept h hb
 | 6, _, _, _, h, _ => h
 | 7, _, _, _, h, hb => qzcj.kept h hb
 | 8, _, _, _, h, hb => qz6a.kept h hb
 | 9, _, _, _, h, _ => h
 | 10, _, _, _, h, hb => qzcj.kept h hb
 | 11, _, _, _, h, hb => qz6a.kept h hb
 | 12, _, _, _, ⟨s, g, n, r, h1, h2⟩, hb => ⟨s, g, n, r, h1, h2.kept hb⟩
 | _ + 13, _, _, _, ⟨b, s, g, n, r, h1, h2, h3⟩, hb => ⟨b, s, g, n, r, h1, qz49 h2 hb, h3.kept hb⟩
theorem qzb8 (wz xN uN : Nat) (i : Nat) (v : Value) (w : World) (b : Nat) (hf : qz6e i = true) (h : qzcz wz xN uN i v w) (hb : qz3e v = some b) : b < Q67 := by
 have : i = 2 ∨ i = 5 := by simpa [qz6e] using hf
 rcases this with rfl | rfl
 ·obtain ⟨b', rfl, -, h2⟩ := h
  simp only [qz3e] at hb
  cases hb
  exact qzd6 h2
 ·obtain ⟨b', rfl, -, h2⟩ := h
  simp only [qz3e] at hb
  cases hb
  exact qzd6 h2
theorem qz7c (xN uN : Nat) (y z : Int) (w : World) (hp : qz38 xN y z uN = true) :
  Calls Try.prog 33 #[.agg Q1r] w fun e w' => ∃ cb s g n r, e = .returned (.pointer (some ⟨cb, 0, none⟩)) /\ qz75 w'.heap.size w' cb s g n r (qz1a xN uN) /\ Below Q67 w w' := by
 obtain ⟨⟨hx1, hx2⟩, ⟨hy1, hy2⟩, ⟨hz1, hz2⟩, hu1, hu2⟩ := (qz1r xN y z uN).1 hp
 have hmk : ∀ (n : Nat), n <= 8 -> ∀ w : World, (Instr.makeSlice 26 (.int .i64 (n : Int)) (.int .i64 (n : Int))).run Try.prog w = .ok (.slice (some ⟨Q67, 0, none⟩) n n) (w.alloc (.cells (List.replicate n (.int .i64 0)).toArray 2)) := by
  intro n hn w
  have h := run_make_row' (P := Try.prog) 26 2 (.int .i64 0) 8 Try.underlying26 qz6b rfl .i64 .i64 n (by omega) (by omega) w
  have e : madeCells #[Value.int IntKind.i64 0] n = (List.replicate n (Value.int IntKind.i64 0)).toArray := by
   apply Array.toList_inj.1
   rw [toList_madeCells_one]
  rw [e] at h
  exact h
 clear hp
 have P0 := qz1h w xN y z uN 25
 have K0 : Below Q67 w (w.alloc (.cells Q1r 25)) := (Q6c _ _).alloc (Q6f _) _
 have hz0 : Q67 < (w.alloc (.cells Q1r 25)).heap.size := by simp
 go_enter Try.func33, Try.ntmps33
 go_wp2
 generalize w.alloc (.cells Q1r 25) = w0 at P0 K0 hz0 ⊢
 obtain ⟨p0, p1, p2, p3⟩ := P0
 refine qzcm (by kernel_rfl) (qzcz Q67 xN uN) qz6e (by kernel_rfl) (by kernel_rfl) (by kernel_rfl) (by rfl) (fun i v w w' _ h hb => qzah _ _ _ i v w w' h hb) (fun i v w b hf h hb => qzb8 _ _ _ i v w b hf h hb) ?step ?final
 case step =>
  intro i o ho ev w1 hb hc hn hd hq
  have q0 : w1.cell? ⟨Q67, 0, none⟩ = some (.int .i64 xN) := (hb.cell (p := ⟨Q67, 0, none⟩) hz0).trans p0
  have q3 : w1.cell? ⟨Q67, 3, none⟩ = some (.int .i64 uN) := (hb.cell (p := ⟨Q67, 3, none⟩) hz0).trans p3
  match i, ho with
  | 0, ho =>
   obtain rfl := Q68 ho
   have e1 : ev (.tmp 1) = .pointer (some ⟨Q67, 0, none⟩) := hn 1 rfl
   refine ⟨.pointer (some ⟨Q67, 0, none⟩), w1, ?_, rfl, Q6c _ _, fun h => by cases h⟩
   go_simp
  | 1, ho =>
   obtain rfl := Q68 ho
   have e1 : ev (.tmp 5) = .pointer (some ⟨Q67, 0, none⟩) := hd ⟨0, .data⟩ (by simp) rfl 5 rfl
   refine ⟨.int .i64 xN, w1, ?_, rfl, Q6c _ _, fun h => by cases h⟩
   go_simp
  | 2, ho =>
   obtain rfl := Q68 ho
   have e1 : ev (.tmp 6) = .int .i64 xN := hd ⟨1, .data⟩ (by simp) rfl 6 rfl
   have h := hmk xN (by omega) w1
   refine ⟨.slice (some ⟨Q6j, 0, none⟩) xN xN, _, ?_, ⟨_, rfl, by have := hb.size; omega, qz52 _ _⟩, (Q6c _ _).alloc (Q6f _) _, fun _ b hbb => by simp only [qz3e] at hbb; cases hbb; exact Q6f _⟩
   clear hmk
   go_simp
  | 3, ho =>
   obtain rfl := Q68 ho
   have e1 : ev (.tmp 1) = .pointer (some ⟨Q67, 0, none⟩) := hn 1 rfl
   refine ⟨.pointer (some ⟨Q67, 3, none⟩), w1, ?_, rfl, Q6c _ _, fun h => by cases h⟩
   go_simp
  | 4, ho =>
   obtain rfl := Q68 ho
   have e1 : ev (.tmp 8) = .pointer (some ⟨Q67, 3, none⟩) := hd ⟨3, .data⟩ (by simp) rfl 8 rfl
   refine ⟨.int .i64 uN, w1, ?_, rfl, Q6c _ _, fun h => by cases h⟩
   go_simp
  | 5, ho =>
   obtain rfl := Q68 ho
   have e1 : ev (.tmp 9) = .int .i64 uN := hd ⟨4, .data⟩ (by simp) rfl 9 rfl
   have h := hmk uN (by omega) w1
   refine ⟨.slice (some ⟨Q6j, 0, none⟩) uN uN, _, ?_, ⟨_, rfl, by have := hb.size; omega, qz52 _ _⟩, (Q6c _ _).alloc (Q6f _) _, fun _ b hbb => by simp only [qz3e] at hbb; cases hbb; exact Q6f _⟩
   clear hmk
   go_simp
  | 6, ho =>
   obtain rfl := Q68 ho
   have e1 := hc (.int .i64 (-1))
   have e2 := hc (.int .i64 0)
   refine ⟨.agg (ndC ⟨-1, 0, 0⟩).toArray, w1, ?_, rfl, Q6c _ _, fun h => by cases h⟩
   go_simp
   rfl
  | 7, ho =>
   obtain rfl := Q68 ho
   have e1 : ev (.tmp 11) = .agg (ndC ⟨-1, 0, 0⟩).toArray := hd ⟨6, .data⟩ (by simp) rfl 11 rfl
   refine ⟨.pointer (some ⟨Q6j, 0, none⟩), w1.alloc (.cells (ndC ⟨-1, 0, 0⟩).toArray 78), ?_, ⟨_, rfl, qz52 _ _⟩, (Q6c _ _).alloc (Q6f _) _, fun h => by cases h⟩
   go_simp
  | 8, ho =>
   obtain rfl := Q68 ho
   obtain ⟨b, e1, h1⟩ := (show qzcj _ _ _ _ from hd ⟨7, .data⟩ (by simp) rfl 12 rfl)
   refine ⟨.slice (some ⟨Q6j, 0, none⟩) 1 1, w1.alloc (.cells Q4d 105), ?_, ⟨_, b, rfl, qz52 _ _, qz49 h1 ((Q6c _ _).alloc (Q6f _) _)⟩, (Q6c _ _).alloc (Q6f _) _, fun h => by cases h⟩
   go_simp
  | 9, ho =>
   obtain rfl := Q68 ho
   have e1 := hc (.int .i64 (-1))
   have e2 := hc (.int .i64 0)
   have e3 := hc (.bool false)
   refine ⟨.agg (vrC ⟨-1, false, 0, -1, 0⟩).toArray, w1, ?_, rfl, Q6c _ _, fun h => by cases h⟩
   go_simp
   rfl
  | 10, ho =>
   obtain rfl := Q68 ho
   have e1 : ev (.tmp 14) = .agg (vrC ⟨-1, false, 0, -1, 0⟩).toArray := hd ⟨9, .data⟩ (by simp) rfl 14 rfl
   refine ⟨.pointer (some ⟨Q6j, 0, none⟩), w1.alloc (.cells (vrC ⟨-1, false, 0, -1, 0⟩).toArray 54), ?_, ⟨_, rfl, qz52 _ _⟩, (Q6c _ _).alloc (Q6f _) _, fun h => by cases h⟩
   go_simp
  | 11, ho =>
   obtain rfl := Q68 ho
   obtain ⟨b, e1, h1⟩ := (show qzcj _ _ _ _ from hd ⟨10, .data⟩ (by simp) rfl 15 rfl)
   refine ⟨.slice (some ⟨Q6j, 0, none⟩) 1 1, w1.alloc (.cells Q4d 107), ?_, ⟨_, b, rfl, qz52 _ _, qz49 h1 ((Q6c _ _).alloc (Q6f _) _)⟩, (Q6c _ _).alloc (Q6f _) _, fun h => by cases h⟩
   go_simp
  | 12, ho =>
   obtain rfl := Q68 ho
   have g1 : qz4m Q67 xN (ev (.tmp 7)) w1 := hd ⟨2, .data⟩ (by simp) rfl 7 rfl
   have g2 : qz4m Q67 uN (ev (.tmp 10)) w1 := hd ⟨5, .data⟩ (by simp) rfl 10 rfl
   have g3 : qz6a 78 105 (ndC ⟨-1, 0, 0⟩) (ev (.tmp 13)) w1 := hd ⟨8, .data⟩ (by simp) rfl 13 rfl
   have g4 : qz6a 54 107 (vrC ⟨-1, false, 0, -1, 0⟩) (ev (.tmp 16)) w1 := hd ⟨11, .data⟩ (by simp) rfl 16 rfl
   have g5 : ∀ b, qz3e (ev (.tmp 7)) = some b -> qz3e (ev (.tmp 10)) ≠ some b := fun b hbb => hq ⟨2, .data⟩ (by simp) rfl ⟨5, .data⟩ (by simp) rfl (by decide) rfl rfl 7 10 b rfl rfl hbb
   have g1' := g1
   have g2' := g2
   have g3' := g3
   have g4' := g4
   obtain ⟨b1, e1, -⟩ := g1'
   obtain ⟨b2, e2, -⟩ := g2'
   obtain ⟨b3, c3, e3, -⟩ := g3'
   obtain ⟨b4, c4, e4, -⟩ := g4'
   refine ⟨.agg #[.int .i64 0, ev (.tmp 7), ev (.tmp 10), ev (.tmp 13), ev (.tmp 16)], w1, ?_, ⟨_, _, _, _, rfl, g1, g2, g3, g4, g5⟩, Q6c _ _, fun h => by cases h⟩
   clear g1 g2 g3 g4 g5
   go_simp
  | 13, ho =>
   obtain rfl := Q68 ho
   obtain ⟨s, g, n, r, e1, h1⟩ := (show (∃ s g n r, ev (.tmp 17) = .agg Q53 /\ qz83 Q67 xN uN s g n r w1) from hd ⟨12, .data⟩ (by simp) rfl 17 rfl)
   refine ⟨.pointer (some ⟨Q6j, 0, none⟩), w1.alloc (.cells Q53 110), ?_, ⟨_, s, g, n, r, rfl, qz52 _ _, h1.kept ((Q6c _ _).alloc (Q6f _) _)⟩, (Q6c _ _).alloc (Q6f _) _, fun h => by cases h⟩
   clear h1
   go_simp
  | 14, ho =>
   obtain rfl := Q68 ho
   obtain ⟨b, s, g, n, r, e1, h1, h2⟩ := (show (∃ b s g n r, ev (.tmp 18) = .pointer (some ⟨b, 0, none⟩) /\ w1.heap[b]? = some (.cells Q53 110 (0, 0)) /\ qz83 Q67 xN uN s g n r w1) from hd ⟨13, .data⟩ (by simp) rfl 18 rfl)
   refine ⟨.pointer (some ⟨b, 0, none⟩), w1, ?_, ⟨b, s, g, n, r, rfl, h1, h2⟩, Q6c _ _, fun h => by cases h⟩
   clear h1 h2
   go_simp
  | n + 15, ho => exact absurd ho (by simp)
 case final =>
  intro vs w1 hb hG hD
  obtain ⟨cb, s, g, n, r, e14, hc, hz, hgz, ⟨nb, np, rfl, hn1, hn2⟩, ⟨rb, rp, rfl, hr1, hr2⟩, hne⟩ := (show (∃ b s g n r, vs 14 = .pointer (some ⟨b, 0, none⟩) /\ w1.heap[b]? = some (.cells Q53 110 (0, 0)) /\ qz83 Q67 xN uN s g n r w1) from hG 14 (by decide))
  obtain ⟨sb, rfl, hsb, hs1⟩ := hz
  obtain ⟨gb, rfl, -, hg1⟩ := hgz
  have hne1 : sb ≠ gb := fun h => hne sb rfl (by rw [h]; rfl)
  have hne2 : sb ≠ nb := qzc2 hs1 hn1 (by decide)
  have hne3 : sb ≠ np := qzc2 hs1 hn2 (by decide)
  have hne4 : sb ≠ rb := qzc2 hs1 hr1 (by decide)
  have hne5 : sb ≠ rp := qzc2 hs1 hr2 (by decide)
  have hne6 : sb ≠ cb := qzc2 hs1 hc (by decide)
  obtain ⟨zc, rc, -⟩ := qz2r (cs := [.int .i64 0, .slice (some ⟨sb, 0, none⟩) xN xN, .slice (some ⟨gb, 0, none⟩) uN uN, .slice (some ⟨nb, 0, none⟩) 1 1, .slice (some ⟨rb, 0, none⟩) 1 1]) hc
  obtain ⟨zs, rs, ts⟩ := qz2r hs1
  obtain ⟨zg, rg, -⟩ := qz2r hg1
  obtain ⟨znb, rnb, -⟩ := qz2r (cs := [.pointer (some ⟨np, 0, none⟩)]) hn1
  obtain ⟨znp, rnp, -⟩ := qz2r hn2
  obtain ⟨zrb, rrb, -⟩ := qz2r (cs := [.pointer (some ⟨rp, 0, none⟩)]) hr1
  obtain ⟨zrp, rrp, -⟩ := qz2r hr2
  rw [List.length_replicate] at ts
  have KK : Below Q67 w w1 := K0.trans (hb.mono K0.size)
  clear hG hD hb hc hs1 hg1 hn1 hn2 hr1 hr2 hne hmk
  generalize hl : laid _ vs _ _ _ = A
  have hA : A = { tmps := #[.agg Q1r, .pointer (some ⟨Q67, 0, none⟩), .pointer none, vs 14, undef, vs 0, vs 1, vs 2, vs 3, vs 4, vs 5, vs 6, vs 7, vs 8, vs 9, vs 10, vs 11, vs 12, vs 13, undef, undef, undef, undef, undef, undef, undef, undef, undef, undef, undef, undef, undef, undef, undef, undef], defers := [] } := by
   rw [<- hl]
   kernel_rfl
  subst hA
  clear hl
  rw [e14]
  obtain ⟨x0, x1, x2, x3, x4⟩ := row5 rc
  go_wp2
  clear x0 x1 x2 x3 x4
  go_loopw [24] (fun i wr => ∃ k : Nat, k <= xN /\ i = .int .i64 k /\ wr.rangeAt sb 0 (qze intC (List.replicate k (-1))) /\ wr.there sb 0 xN /\ Only sb w1 wr) (fun i _ => xN - (intOf i).toNat)
  case atStart => exact ⟨0, Nat.zero_le _, rfl, by simp [qze, World.rangeAt], ts, Only.refl _ _⟩
  case round =>
   obtain ⟨k, hk, rfl, R, T, O⟩ := hrel
   have rc' : wr.rangeAt cb 0 _ := fun j v hv => (O.cell (p := ⟨cb, 0 + j, none⟩) zc (Ne.symm hne6)).trans (rc j v hv)
   by_cases hlt : k < xN
   ·obtain ⟨x0, x1, x2, x3, x4⟩ := row5 rc'
    obtain ⟨tc, tf⟩ := T k hlt
    obtain ⟨u, hu⟩ := Option.isSome_iff_exists.1 tc
    simp only [Nat.zero_add] at hu tf
    have hlen : (qze intC (List.replicate k (-1))).length = k := by rw [qz1o (sz := 1) (fun _ => rfl), List.length_replicate]; omega
    have R1 := qz98 R (by rw [hlen, Nat.zero_add, hu]; rfl) (.int .i64 (-1))
    rw [hlen, Nat.zero_add] at R1
    have e1 : qze intC (List.replicate (k + 1) (-1)) = qze intC (List.replicate k (-1)) ++ [.int .i64 (-1)] := by rw [List.replicate_succ', qz1v]; rfl
    rw [<- e1] at R1
    clear e1 hlen rc'
    go_wp2
    go_roundw
    case rel => exact ⟨k + 1, by omega, by go_num, R1, qz2 T _ _, O.setCell (Or.inl rfl) _⟩
    case measure => simp [intOf]; omega
   ·obtain rfl : k = xN := by omega
    have zz := O.size
    have KF : Below Q67 w wr := KK.trans (O.below hsb KK.size)
    have rg' : wr.rangeAt gb 0 _ := fun j v hv => (O.cell (p := ⟨gb, 0 + j, none⟩) zg (Ne.symm hne1)).trans (rg j v hv)
    have rnb' : wr.rangeAt nb 0 _ := fun j v hv => (O.cell (p := ⟨nb, 0 + j, none⟩) znb (Ne.symm hne2)).trans (rnb j v hv)
    have rnp' : wr.rangeAt np 0 _ := fun j v hv => (O.cell (p := ⟨np, 0 + j, none⟩) znp (Ne.symm hne3)).trans (rnp j v hv)
    have rrb' : wr.rangeAt rb 0 _ := fun j v hv => (O.cell (p := ⟨rb, 0 + j, none⟩) zrb (Ne.symm hne4)).trans (rrb j v hv)
    have rrp' : wr.rangeAt rp 0 _ := fun j v hv => (O.cell (p := ⟨rp, 0 + j, none⟩) zrp (Ne.symm hne5)).trans (rrp j v hv)
    rw [<- qz31] at rg'
    have C : qz75 wr.heap.size wr cb (.slice (some ⟨sb, 0, none⟩) k k) Q2b Q2h (.slice (some ⟨rb, 0, none⟩) 1 1) (qz1a k uN) :=
     ⟨rc', by omega, qzs.of (by simp [qz1a]) (by omega) R, qzs.of (by simp [qz1a]) (by omega) rg',
      ⟨[⟨np, 0, none⟩], qzs.of rfl (by omega) rnb', ⟨rfl, fun i hi => by obtain rfl : i = 0 := (by simp [qz1a] at hi; omega); exact ⟨np, 0, rfl, by omega, rnp'⟩⟩⟩,
      ⟨[⟨rp, 0, none⟩], qzs.of rfl (by omega) rrb', ⟨rfl, fun i hi => by obtain rfl : i = 0 := (by simp [qz1a] at hi; omega); exact ⟨rp, 0, rfl, by omega, rrp'⟩⟩⟩⟩
    clear R T rc rs rg rnb rnp rrb rrp rc' rg' rnb' rnp' rrb' rrp'
    go_wp2
    go_ret
    exact ⟨_, _, _, _, _, rfl, C, KF⟩
theorem qz40.elder {lo c o : Nat} {w : World} {s g n r : Value} {A : Ar} {b0 b1 b2 b3 : Nat} (N : qz40 lo w s g n r A b0 b1 b2 b3) (hc : c < lo) (vs : List Value) : qz40 lo (w.setCells c o vs) s g n r A b0 b1 b2 b3 := by
 have O : But (fun q => q = c) w (w.setCells c o vs) := But.of_only (qzc c vs o w) rfl
 exact ⟨N.s.but O (fun h e => by have := N.s.lt h; omega), N.g.but O (fun h e => by have := N.g.lt h; omega), N.n.but O (fun h e => by have := N.n.lt h; omega), N.r.but O (fun h e => by have := N.r.lt h; omega), N.d01, N.d02, N.d03, N.d12, N.d13, N.d23⟩
theorem qz7j (x y z u : Int) (w : World) :
  Calls Try.prog 9 #[.agg Q08] w fun e w' => ∃ s g n r b0 b1 b2 b3, e = .returned (.agg Q53) /\ qz40 Q67 w' s g n r (qz46 x y z u) b0 b1 b2 b3 /\ Below Q67 w w' := by
 have P0 := (qz1h w x y z u 25).below ((Q6c _ _).alloc (Q6f _) (.cells Q0d 30)) (by simp)
 have R0 := qzf (w.alloc (Obj.cells Q08 25)) Q0d 30 5 (by decide)
 have K0 := ((Q6c Q67 w).alloc (Q6f _) (Obj.cells Q08 25)).alloc (by simp) (Obj.cells Q0d 30)
 have hz0 : Q67 + 1 < ((w.alloc (Obj.cells Q08 25)).alloc (Obj.cells Q0d 30)).heap.size := by simp
 simp only [World.size_alloc] at R0
 go_enter Try.func9, Try.ntmps9
 go_wp2_with fail
 refine (qza2 _ _ _ _ _).mono ?_
 rintro e w1 ⟨rfl, b1⟩
 have P1 := P0.below b1 (by omega)
 have R1 := qz5 R0 b1 hz0
 have K1 := K0.trans (b1.mono (by omega))
 have hz1 := Q6l hz0 b1.size
 clear P0 R0 K0 b1
 cases hp : qz38 x y z u
 ·go_wp2_with (refine Q6b rfl 30 (.tmp 2) (.tmp 6) rfl (Q67 + 1) 0 _ rfl rfl ?ht ?hi ?h1 ?_)
  try (case ht => exact R1)
  case hi => exact qz1p
  case h1 => simp [Value.oneCell']
  refine bodyPost_ret (v := .agg Q0d) ?_ rfl ⟨_, _, _, _, 0, 1, 2, 3, rfl, by rw [qz8l hp]; exact ⟨⟨_, _, 0, rfl, Or.inl rfl⟩, ⟨_, _, 0, rfl, Or.inl rfl⟩, ⟨_, _, 0, rfl, Or.inl rfl⟩, ⟨_, _, 0, rfl, Or.inl rfl⟩, by decide, by decide, by decide, by decide, by decide, by decide⟩, ?_⟩
  ·exact qz3 Try.results9 _ _ (Q67 + 1) 0 rfl Q44 _ (Q6d _ _ _ _ R1) Try.underlying30 rfl qz1p
  ·exact Below.setCells (by omega) _ _ _ K1
 ·have hr := (qz1r x y z u).1 hp
  obtain ⟨xN, rfl⟩ : ∃ k : Nat, x = k := ⟨x.toNat, by omega⟩
  obtain ⟨uN, rfl⟩ : ∃ k : Nat, u = k := ⟨u.toNat, by omega⟩
  have P1' := P1
  obtain ⟨p0, p1, p2, p3⟩ := P1'
  go_wp2_with fail
  refine (qz7c xN uN y z _ hp).mono ?_
  rintro e w2 ⟨cb, s, g, n, r, rfl, C, b2⟩
  have R2 := qz5 R1 b2 (by omega)
  have K2 := K1.trans (b2.mono (by omega))
  have hz2 := Q6l hz1 b2.size
  clear P1 p0 p1 p2 p3 R1 b2
  go_wp2_with fail
  refine (qzdl Q6v cb s g n r (qz1a xN uN) w2 (Q6f _) (by simp only [Ar.size, qz1a, List.length_replicate, List.length_cons, List.length_nil]; omega) C).mono ?_
  rintro e w3 ⟨s', g', n', r', b0, b1, b2, b3, rfl, N, b4⟩
  have R3 := qz5 R2 b4 (by omega)
  have K3 := K2.trans (b4.mono (by omega))
  obtain ⟨a0, k0, rfl⟩ : ∃ a k, s' = .slice a (qz1a xN uN).slots.length k := by obtain ⟨a, cap, off, h, -⟩ := N.s; exact ⟨a, cap, h⟩
  obtain ⟨a1, k1, rfl⟩ : ∃ a k, g' = .slice a (qz1a xN uN).guides.length k := by obtain ⟨a, cap, off, h, -⟩ := N.g; exact ⟨a, cap, h⟩
  obtain ⟨a2, k2, rfl⟩ : ∃ a k, n' = .slice a (qz1a xN uN).nodes.length k := by obtain ⟨a, cap, off, h, -⟩ := N.n; exact ⟨a, cap, h⟩
  obtain ⟨a3, k3, rfl⟩ : ∃ a k, r' = .slice a (qz1a xN uN).vers.length k := by obtain ⟨a, cap, off, h, -⟩ := N.r; exact ⟨a, cap, h⟩
  clear R2 b4 C
  rw [show (qz1a xN uN).camera = 0 from rfl]
  go_wp2_with (refine Q6b rfl 30 (.tmp 2) (.tmp 9) rfl (Q67 + 1) 0 _ rfl rfl ?ht ?hi ?h1 ?_)
  try (case ht => exact R3)
  case hi => exact qz1p
  case h1 => simp [Value.oneCell']
  refine bodyPost_ret (v := .agg #[.int .i64 0, .slice a0 (qz1a xN uN).slots.length k0, .slice a1 (qz1a xN uN).guides.length k1, .slice a2 (qz1a xN uN).nodes.length k2, .slice a3 (qz1a xN uN).vers.length k3]) ?_ rfl ⟨_, _, _, _, b0, b1, b2, b3, rfl, by rw [qz5n hp]; exact (N.elder hz2 _).lo (by omega), ?_⟩
  ·exact qz3 Try.results9 _ _ (Q67 + 1) 0 rfl [.int .i64 0, .slice a0 (qz1a xN uN).slots.length k0, .slice a1 (qz1a xN uN).guides.length k1, .slice a2 (qz1a xN uN).nodes.length k2, .slice a3 (qz1a xN uN).vers.length k3] _ (Q6d _ _ _ _ R3) Try.underlying30 rfl qz1p
  ·exact Below.setCells (by omega) _ _ _ K3
end
section
attribute [local go_sem ↓] Go.wp_at_zero Go.wp_at_succ
theorem qz3s {B : Nat} {a w : World} (h : Below B a w) (n : Nat) : Below B a (w.drewN n) := ⟨h.os, h.tape, h.output, h.size, h.block⟩
end
end Go.Proofs.Ythjkdnlmopafkaa
