/-
  The program's blank arena, as a contract: the same as the model's, in memory of its own. For every plan.
-/
import Derived.Test.YtcgjkodpmloccaaBlankOf
import Derived.Test.YtcgjkodpmloccaaCells
import Derived.Test.YtcgjkodpmloccaaAnyOrder
namespace Go.Proofs.Ytcgjkodpmloccaa
open Go.ChangeShapes Go.WideShapes Go.ChangeAt Go.RowKit
set_option linter.unusedVariables false
attribute [local go_sem ↓] Go.wp_at_zero Go.wp_at_succ

/-- A new row of n zeros. -/
def ZerosAt (lo n : Nat) (v : Value) (w : World) : Prop := ∃ b, v = .slice (some ⟨b, 0, none⟩) n n ∧ lo ≤ b ∧ w.heap[b]? = some (.cells (List.replicate n (.int .i64 0)).toArray 2 (0, 0))
/-- A new variable. -/
def BoxAt (T : TypeId) (cs : List Value) (v : Value) (w : World) : Prop := ∃ b, v = .pointer (some ⟨b, 0, none⟩) ∧ w.heap[b]? = some (.cells cs.toArray T (0, 0))
/-- A new row of one pointer to a new variable. -/
def RowAt1 (T PT : TypeId) (cs : List Value) (v : Value) (w : World) : Prop := ∃ b p, v = .slice (some ⟨b, 0, none⟩) 1 1 ∧ w.heap[b]? = some (.cells #[.pointer (some ⟨p, 0, none⟩)] PT (0, 0)) ∧ w.heap[p]? = some (.cells cs.toArray T (0, 0))

theorem heap_kept {w w' : World} {b : Nat} {o : Obj} (h : w.heap[b]? = some o) (hb : Below w.heap.size w w') : w'.heap[b]? = some o := by
  have hlt : b < w.heap.size := by
    rcases Nat.lt_or_ge b w.heap.size with hl | hl
    · exact hl
    · rw [Array.getElem?_eq_none hl] at h; cases h
  rw [hb.block b hlt]
  exact h
theorem typ_ne {w : World} {a b : Nat} {c d : Array Value} {t u : TypeId} {f g : Nat × Nat} (h1 : w.heap[a]? = some (.cells c t f)) (h2 : w.heap[b]? = some (.cells d u g)) (h : t ≠ u) : a ≠ b := by
  intro e
  subst e
  rw [h1] at h2
  injection h2 with h2
  injection h2 with _ h3 _
  exact h h3
theorem heap_lt {w : World} {b : Nat} {o : Obj} (h : w.heap[b]? = some o) : b < w.heap.size := by
  rcases Nat.lt_or_ge b w.heap.size with hl | hl
  · exact hl
  · rw [Array.getElem?_eq_none hl] at h; cases h
theorem heap_new (w : World) (o : Obj) : (w.alloc o).heap[w.heap.size]? = some o := by
  show (w.heap.push o)[w.heap.size]? = some o
  simp
theorem ZerosAt.kept {lo n : Nat} {v : Value} {w w' : World} (h : ZerosAt lo n v w) (hb : Below w.heap.size w w') : ZerosAt lo n v w' := by
  obtain ⟨b, h1, h0, h2⟩ := h
  exact ⟨b, h1, h0, heap_kept h2 hb⟩
theorem BoxAt.kept {T : TypeId} {cs : List Value} {v : Value} {w w' : World} (h : BoxAt T cs v w) (hb : Below w.heap.size w w') : BoxAt T cs v w' := by
  obtain ⟨b, h1, h2⟩ := h
  exact ⟨b, h1, heap_kept h2 hb⟩
theorem RowAt1.kept {T PT : TypeId} {cs : List Value} {v : Value} {w w' : World} (h : RowAt1 T PT cs v w) (hb : Below w.heap.size w w') : RowAt1 T PT cs v w' := by
  obtain ⟨b, p, h1, h2, h3⟩ := h
  exact ⟨b, p, h1, heap_kept h2 hb, heap_kept h3 hb⟩

/-- The four lists of new cells. -/
def FourAt (lo xN uN : Nat) (s g n r : Value) (w : World) : Prop :=
  ZerosAt lo xN s w ∧ ZerosAt lo uN g w ∧ RowAt1 60 97 (ndC ⟨-1, 0, 0⟩) n w ∧ RowAt1 62 99 (vrC ⟨-1, false, 0, -1, 0⟩) r w ∧ ∀ b, blkOf s = some b → blkOf g ≠ some b
theorem FourAt.kept {lo xN uN : Nat} {s g n r : Value} {w w' : World} (h : FourAt lo xN uN s g n r w) (hb : Below w.heap.size w w') : FourAt lo xN uN s g n r w' :=
  ⟨h.1.kept hb, h.2.1.kept hb, h.2.2.1.kept hb, h.2.2.2.1.kept hb, h.2.2.2.2⟩

/-- What each operation of the cells' making leaves. -/
def blankG (wz xN uN : Nat) (i : Nat) (v : Value) (w : World) : Prop :=
  match i with
  | 0 => v = .pointer (some ⟨wz, 0, none⟩)
  | 1 => v = .int .i64 xN
  | 2 => ZerosAt wz xN v w
  | 3 => v = .pointer (some ⟨wz, 3, none⟩)
  | 4 => v = .int .i64 uN
  | 5 => ZerosAt wz uN v w
  | 6 => v = .agg (ndC ⟨-1, 0, 0⟩).toArray
  | 7 => BoxAt 60 (ndC ⟨-1, 0, 0⟩) v w
  | 8 => RowAt1 60 97 (ndC ⟨-1, 0, 0⟩) v w
  | 9 => v = .agg (vrC ⟨-1, false, 0, -1, 0⟩).toArray
  | 10 => BoxAt 62 (vrC ⟨-1, false, 0, -1, 0⟩) v w
  | 11 => RowAt1 62 99 (vrC ⟨-1, false, 0, -1, 0⟩) v w
  | 12 => ∃ s g n r, v = .agg #[.int .i64 0, s, g, n, r] ∧ FourAt wz xN uN s g n r w
  | _ => ∃ b s g n r, v = .pointer (some ⟨b, 0, none⟩) ∧ w.heap[b]? = some (.cells #[.int .i64 0, s, g, n, r] 102 (0, 0)) ∧ FourAt wz xN uN s g n r w
def blankFresh (i : Nat) : Bool := i == 2 || i == 5

theorem blankG_kept (wz xN uN : Nat) : ∀ (i : Nat) (v : Value) (w w' : World), blankG wz xN uN i v w → Below w.heap.size w w' → blankG wz xN uN i v w'
  | 0, _, _, _, h, _ => h
  | 1, _, _, _, h, _ => h
  | 2, _, _, _, h, hb => ZerosAt.kept h hb
  | 3, _, _, _, h, _ => h
  | 4, _, _, _, h, _ => h
  | 5, _, _, _, h, hb => ZerosAt.kept h hb
  | 6, _, _, _, h, _ => h
  | 7, _, _, _, h, hb => BoxAt.kept h hb
  | 8, _, _, _, h, hb => RowAt1.kept h hb
  | 9, _, _, _, h, _ => h
  | 10, _, _, _, h, hb => BoxAt.kept h hb
  | 11, _, _, _, h, hb => RowAt1.kept h hb
  | 12, _, _, _, ⟨s, g, n, r, h1, h2⟩, hb => ⟨s, g, n, r, h1, h2.kept hb⟩
  | _ + 13, _, _, _, ⟨b, s, g, n, r, h1, h2, h3⟩, hb => ⟨b, s, g, n, r, h1, heap_kept h2 hb, h3.kept hb⟩
theorem blankG_blk (wz xN uN : Nat) (i : Nat) (v : Value) (w : World) (b : Nat) (hf : blankFresh i = true) (h : blankG wz xN uN i v w) (hb : blkOf v = some b) : b < w.heap.size := by
  have : i = 2 ∨ i = 5 := by simpa [blankFresh] using hf
  rcases this with rfl | rfl
  · obtain ⟨b', rfl, -, h2⟩ := h
    simp only [blkOf] at hb
    cases hb
    exact heap_lt h2
  · obtain ⟨b', rfl, -, h2⟩ := h
    simp only [blkOf] at hb
    cases hb
    exact heap_lt h2

set_option maxHeartbeats 4000000 in
theorem blankCells_any (xN uN : Nat) (y z : Int) (w : World) (hp : planB xN y z uN = true) :
    Calls Try.prog 31 #[.agg #[.int .i64 xN, .int .i64 y, .int .i64 z, .int .i64 uN]] w fun e w' => ∃ cb s g n r, e = .returned (.pointer (some ⟨cb, 0, none⟩)) ∧ CellsAt w'.heap.size w' cb s g n r (blankA xN uN) ∧ Below w.heap.size w w' := by
  obtain ⟨⟨hx1, hx2⟩, ⟨hy1, hy2⟩, ⟨hz1, hz2⟩, hu1, hu2⟩ := (planB_iff xN y z uN).1 hp
  have hmk : ∀ (n : Nat), n ≤ 8 → ∀ w : World, (Instr.makeSlice 24 (.int .i64 (n : Int)) (.int .i64 (n : Int))).run Try.prog w = .ok (.slice (some ⟨w.heap.size, 0, none⟩) n n) (w.alloc (.cells (List.replicate n (.int .i64 0)).toArray 2)) := by
    intro n hn w
    have h := run_make_row' (P := Try.prog) 24 2 (.int .i64 0) 8 Try.underlying24 infoInt rfl .i64 .i64 n (by omega) (by omega) w
    have e : madeCells #[Value.int IntKind.i64 0] n = (List.replicate n (Value.int IntKind.i64 0)).toArray := by
      apply Array.toList_inj.1
      rw [toList_madeCells_one]
    rw [e] at h
    exact h
  clear hp
  have P0 := planAt_alloc w xN y z uN 30
  have K0 : Below w.heap.size w (w.alloc (.cells #[.int .i64 xN, .int .i64 y, .int .i64 z, .int .i64 uN] 30)) := (Below.refl _ _).alloc (Nat.le_refl _) _
  have hz0 : w.heap.size < (w.alloc (.cells #[.int .i64 xN, .int .i64 y, .int .i64 z, .int .i64 uN] 30)).heap.size := by simp
  go_enter Try.func31, Try.ntmps31
  go_wp2
  generalize w.alloc (.cells #[.int .i64 xN, .int .i64 y, .int .i64 z, .int .i64 uN] 30) = w0 at P0 K0 hz0 ⊢
  obtain ⟨p0, p1, p2, p3⟩ := P0
  refine any_order (by kernel_rfl) (blankG w.heap.size xN uN) blankFresh (by kernel_rfl) (by kernel_rfl) (by kernel_rfl) (by rfl) (fun i v w w' _ h hb => blankG_kept _ _ _ i v w w' h hb) (fun i v w b hf h hb => blankG_blk _ _ _ i v w b hf h hb) ?step ?final
  case step =>
    intro i o ho ev w1 hb hc hn hd hq
    have q0 : w1.cell? ⟨w.heap.size, 0, none⟩ = some (.int .i64 xN) := (hb.cell (p := ⟨w.heap.size, 0, none⟩) hz0).trans p0
    have q3 : w1.cell? ⟨w.heap.size, 3, none⟩ = some (.int .i64 uN) := (hb.cell (p := ⟨w.heap.size, 3, none⟩) hz0).trans p3
    match i, ho with
    | 0, ho =>
      obtain rfl := Option.some.inj ho
      have e1 : ev (.tmp 1) = .pointer (some ⟨w.heap.size, 0, none⟩) := hn 1 rfl
      refine ⟨.pointer (some ⟨w.heap.size, 0, none⟩), w1, ?_, rfl, Below.refl _ _, fun h => by cases h⟩
      go_simp
    | 1, ho =>
      obtain rfl := Option.some.inj ho
      have e1 : ev (.tmp 5) = .pointer (some ⟨w.heap.size, 0, none⟩) := hd ⟨0, .data⟩ (by simp) rfl 5 rfl
      refine ⟨.int .i64 xN, w1, ?_, rfl, Below.refl _ _, fun h => by cases h⟩
      go_simp
    | 2, ho =>
      obtain rfl := Option.some.inj ho
      have e1 : ev (.tmp 6) = .int .i64 xN := hd ⟨1, .data⟩ (by simp) rfl 6 rfl
      have h := hmk xN (by omega) w1
      refine ⟨.slice (some ⟨w1.heap.size, 0, none⟩) xN xN, _, ?_, ⟨_, rfl, by have := hb.size; omega, heap_new _ _⟩, (Below.refl _ _).alloc (Nat.le_refl _) _, fun _ b hbb => by simp only [blkOf] at hbb; cases hbb; exact Nat.le_refl _⟩
      clear hmk
      go_simp
    | 3, ho =>
      obtain rfl := Option.some.inj ho
      have e1 : ev (.tmp 1) = .pointer (some ⟨w.heap.size, 0, none⟩) := hn 1 rfl
      refine ⟨.pointer (some ⟨w.heap.size, 3, none⟩), w1, ?_, rfl, Below.refl _ _, fun h => by cases h⟩
      go_simp
    | 4, ho =>
      obtain rfl := Option.some.inj ho
      have e1 : ev (.tmp 8) = .pointer (some ⟨w.heap.size, 3, none⟩) := hd ⟨3, .data⟩ (by simp) rfl 8 rfl
      refine ⟨.int .i64 uN, w1, ?_, rfl, Below.refl _ _, fun h => by cases h⟩
      go_simp
    | 5, ho =>
      obtain rfl := Option.some.inj ho
      have e1 : ev (.tmp 9) = .int .i64 uN := hd ⟨4, .data⟩ (by simp) rfl 9 rfl
      have h := hmk uN (by omega) w1
      refine ⟨.slice (some ⟨w1.heap.size, 0, none⟩) uN uN, _, ?_, ⟨_, rfl, by have := hb.size; omega, heap_new _ _⟩, (Below.refl _ _).alloc (Nat.le_refl _) _, fun _ b hbb => by simp only [blkOf] at hbb; cases hbb; exact Nat.le_refl _⟩
      clear hmk
      go_simp
    | 6, ho =>
      obtain rfl := Option.some.inj ho
      have e1 := hc (.int .i64 (-1))
      have e2 := hc (.int .i64 0)
      refine ⟨.agg (ndC ⟨-1, 0, 0⟩).toArray, w1, ?_, rfl, Below.refl _ _, fun h => by cases h⟩
      go_simp
      rfl
    | 7, ho =>
      obtain rfl := Option.some.inj ho
      have e1 : ev (.tmp 11) = .agg (ndC ⟨-1, 0, 0⟩).toArray := hd ⟨6, .data⟩ (by simp) rfl 11 rfl
      refine ⟨.pointer (some ⟨w1.heap.size, 0, none⟩), w1.alloc (.cells (ndC ⟨-1, 0, 0⟩).toArray 60), ?_, ⟨_, rfl, heap_new _ _⟩, (Below.refl _ _).alloc (Nat.le_refl _) _, fun h => by cases h⟩
      go_simp
    | 8, ho =>
      obtain rfl := Option.some.inj ho
      obtain ⟨b, e1, h1⟩ := (show BoxAt _ _ _ _ from hd ⟨7, .data⟩ (by simp) rfl 12 rfl)
      refine ⟨.slice (some ⟨w1.heap.size, 0, none⟩) 1 1, w1.alloc (.cells #[.pointer (some ⟨b, 0, none⟩)] 97), ?_, ⟨_, b, rfl, heap_new _ _, heap_kept h1 ((Below.refl _ _).alloc (Nat.le_refl _) _)⟩, (Below.refl _ _).alloc (Nat.le_refl _) _, fun h => by cases h⟩
      go_simp
    | 9, ho =>
      obtain rfl := Option.some.inj ho
      have e1 := hc (.int .i64 (-1))
      have e2 := hc (.int .i64 0)
      have e3 := hc (.bool false)
      refine ⟨.agg (vrC ⟨-1, false, 0, -1, 0⟩).toArray, w1, ?_, rfl, Below.refl _ _, fun h => by cases h⟩
      go_simp
      rfl
    | 10, ho =>
      obtain rfl := Option.some.inj ho
      have e1 : ev (.tmp 14) = .agg (vrC ⟨-1, false, 0, -1, 0⟩).toArray := hd ⟨9, .data⟩ (by simp) rfl 14 rfl
      refine ⟨.pointer (some ⟨w1.heap.size, 0, none⟩), w1.alloc (.cells (vrC ⟨-1, false, 0, -1, 0⟩).toArray 62), ?_, ⟨_, rfl, heap_new _ _⟩, (Below.refl _ _).alloc (Nat.le_refl _) _, fun h => by cases h⟩
      go_simp
    | 11, ho =>
      obtain rfl := Option.some.inj ho
      obtain ⟨b, e1, h1⟩ := (show BoxAt _ _ _ _ from hd ⟨10, .data⟩ (by simp) rfl 15 rfl)
      refine ⟨.slice (some ⟨w1.heap.size, 0, none⟩) 1 1, w1.alloc (.cells #[.pointer (some ⟨b, 0, none⟩)] 99), ?_, ⟨_, b, rfl, heap_new _ _, heap_kept h1 ((Below.refl _ _).alloc (Nat.le_refl _) _)⟩, (Below.refl _ _).alloc (Nat.le_refl _) _, fun h => by cases h⟩
      go_simp
    | 12, ho =>
      obtain rfl := Option.some.inj ho
      have g1 : ZerosAt w.heap.size xN (ev (.tmp 7)) w1 := hd ⟨2, .data⟩ (by simp) rfl 7 rfl
      have g2 : ZerosAt w.heap.size uN (ev (.tmp 10)) w1 := hd ⟨5, .data⟩ (by simp) rfl 10 rfl
      have g3 : RowAt1 60 97 (ndC ⟨-1, 0, 0⟩) (ev (.tmp 13)) w1 := hd ⟨8, .data⟩ (by simp) rfl 13 rfl
      have g4 : RowAt1 62 99 (vrC ⟨-1, false, 0, -1, 0⟩) (ev (.tmp 16)) w1 := hd ⟨11, .data⟩ (by simp) rfl 16 rfl
      have g5 : ∀ b, blkOf (ev (.tmp 7)) = some b → blkOf (ev (.tmp 10)) ≠ some b := fun b hbb => hq ⟨2, .data⟩ (by simp) rfl ⟨5, .data⟩ (by simp) rfl (by decide) rfl rfl 7 10 b rfl rfl hbb
      have g1' := g1
      have g2' := g2
      have g3' := g3
      have g4' := g4
      obtain ⟨b1, e1, -⟩ := g1'
      obtain ⟨b2, e2, -⟩ := g2'
      obtain ⟨b3, c3, e3, -⟩ := g3'
      obtain ⟨b4, c4, e4, -⟩ := g4'
      refine ⟨.agg #[.int .i64 0, ev (.tmp 7), ev (.tmp 10), ev (.tmp 13), ev (.tmp 16)], w1, ?_, ⟨_, _, _, _, rfl, g1, g2, g3, g4, g5⟩, Below.refl _ _, fun h => by cases h⟩
      clear g1 g2 g3 g4 g5
      go_simp
    | 13, ho =>
      obtain rfl := Option.some.inj ho
      obtain ⟨s, g, n, r, e1, h1⟩ := (show (∃ s g n r, ev (.tmp 17) = .agg #[.int .i64 0, s, g, n, r] ∧ FourAt w.heap.size xN uN s g n r w1) from hd ⟨12, .data⟩ (by simp) rfl 17 rfl)
      refine ⟨.pointer (some ⟨w1.heap.size, 0, none⟩), w1.alloc (.cells #[.int .i64 0, s, g, n, r] 102), ?_, ⟨_, s, g, n, r, rfl, heap_new _ _, h1.kept ((Below.refl _ _).alloc (Nat.le_refl _) _)⟩, (Below.refl _ _).alloc (Nat.le_refl _) _, fun h => by cases h⟩
      clear h1
      go_simp
    | 14, ho =>
      obtain rfl := Option.some.inj ho
      obtain ⟨b, s, g, n, r, e1, h1, h2⟩ := (show (∃ b s g n r, ev (.tmp 18) = .pointer (some ⟨b, 0, none⟩) ∧ w1.heap[b]? = some (.cells #[.int .i64 0, s, g, n, r] 102 (0, 0)) ∧ FourAt w.heap.size xN uN s g n r w1) from hd ⟨13, .data⟩ (by simp) rfl 18 rfl)
      refine ⟨.pointer (some ⟨b, 0, none⟩), w1, ?_, ⟨b, s, g, n, r, rfl, h1, h2⟩, Below.refl _ _, fun h => by cases h⟩
      clear h1 h2
      go_simp
    | n + 15, ho => exact absurd ho (by simp)
  case final =>
    intro vs w1 hb hG hD
    obtain ⟨cb, s, g, n, r, e14, hc, hz, hgz, ⟨nb, np, rfl, hn1, hn2⟩, ⟨rb, rp, rfl, hr1, hr2⟩, hne⟩ := (show (∃ b s g n r, vs 14 = .pointer (some ⟨b, 0, none⟩) ∧ w1.heap[b]? = some (.cells #[.int .i64 0, s, g, n, r] 102 (0, 0)) ∧ FourAt w.heap.size xN uN s g n r w1) from hG 14 (by decide))
    obtain ⟨sb, rfl, hsb, hs1⟩ := hz
    obtain ⟨gb, rfl, -, hg1⟩ := hgz
    have hne1 : sb ≠ gb := fun h => hne sb rfl (by rw [h]; rfl)
    have hne2 : sb ≠ nb := typ_ne hs1 hn1 (by decide)
    have hne3 : sb ≠ np := typ_ne hs1 hn2 (by decide)
    have hne4 : sb ≠ rb := typ_ne hs1 hr1 (by decide)
    have hne5 : sb ≠ rp := typ_ne hs1 hr2 (by decide)
    have hne6 : sb ≠ cb := typ_ne hs1 hc (by decide)
    obtain ⟨zc, rc, -⟩ := new_of_block (cs := [.int .i64 0, .slice (some ⟨sb, 0, none⟩) xN xN, .slice (some ⟨gb, 0, none⟩) uN uN, .slice (some ⟨nb, 0, none⟩) 1 1, .slice (some ⟨rb, 0, none⟩) 1 1]) hc
    obtain ⟨zs, rs, ts⟩ := new_of_block hs1
    obtain ⟨zg, rg, -⟩ := new_of_block hg1
    obtain ⟨znb, rnb, -⟩ := new_of_block (cs := [.pointer (some ⟨np, 0, none⟩)]) hn1
    obtain ⟨znp, rnp, -⟩ := new_of_block hn2
    obtain ⟨zrb, rrb, -⟩ := new_of_block (cs := [.pointer (some ⟨rp, 0, none⟩)]) hr1
    obtain ⟨zrp, rrp, -⟩ := new_of_block hr2
    rw [List.length_replicate] at ts
    have KK : Below w.heap.size w w1 := K0.trans (hb.mono K0.size)
    clear hG hD hb hc hs1 hg1 hn1 hn2 hr1 hr2 hne hmk
    generalize hl : laid _ vs _ _ _ = A
    have hA : A = { tmps := #[.agg #[.int .i64 xN, .int .i64 y, .int .i64 z, .int .i64 uN], .pointer (some ⟨w.heap.size, 0, none⟩), .pointer none, vs 14, undef, vs 0, vs 1, vs 2, vs 3, vs 4, vs 5, vs 6, vs 7, vs 8, vs 9, vs 10, vs 11, vs 12, vs 13, undef, undef, undef, undef, undef, undef, undef, undef, undef, undef, undef, undef, undef, undef, undef, undef], defers := [] } := by
      rw [← hl]
      kernel_rfl
    subst hA
    clear hl
    rw [e14]
    obtain ⟨x0, x1, x2, x3, x4⟩ := row5 rc
    go_wp2
    clear x0 x1 x2 x3 x4
    go_loopw [24] (fun i wr => ∃ k : Nat, k ≤ xN ∧ i = .int .i64 k ∧ wr.rangeAt sb 0 (cellsOf intC (List.replicate k (-1))) ∧ wr.there sb 0 xN ∧ Only sb w1 wr) (fun i _ => xN - (intOf i).toNat)
    case atStart => exact ⟨0, Nat.zero_le _, rfl, by simp [cellsOf, World.rangeAt], ts, Only.refl _ _⟩
    case round =>
      obtain ⟨k, hk, rfl, R, T, O⟩ := hrel
      have rc' : wr.rangeAt cb 0 _ := fun j v hv => (O.cell (p := ⟨cb, 0 + j, none⟩) zc (Ne.symm hne6)).trans (rc j v hv)
      by_cases hlt : k < xN
      · obtain ⟨x0, x1, x2, x3, x4⟩ := row5 rc'
        obtain ⟨tc, tf⟩ := T k hlt
        obtain ⟨u, hu⟩ := Option.isSome_iff_exists.1 tc
        simp only [Nat.zero_add] at hu tf
        have hlen : (cellsOf intC (List.replicate k (-1))).length = k := by rw [cellsOf_length (sz := 1) (fun _ => rfl), List.length_replicate]; omega
        have R1 := rangeAt_snoc R (by rw [hlen, Nat.zero_add, hu]; rfl) (.int .i64 (-1))
        rw [hlen, Nat.zero_add] at R1
        have e1 : cellsOf intC (List.replicate (k + 1) (-1)) = cellsOf intC (List.replicate k (-1)) ++ [.int .i64 (-1)] := by rw [List.replicate_succ', cellsOf_snoc]; rfl
        rw [← e1] at R1
        clear e1 hlen rc'
        go_wp2
        go_roundw
        case rel => exact ⟨k + 1, by omega, by go_num, R1, there_setCell T _ _, O.setCell (Or.inl rfl) _⟩
        case measure => simp [intOf]; omega
      · obtain rfl : k = xN := by omega
        have zz := O.size
        have KF : Below w.heap.size w wr := KK.trans (O.below hsb KK.size)
        have rg' : wr.rangeAt gb 0 _ := fun j v hv => (O.cell (p := ⟨gb, 0 + j, none⟩) zg (Ne.symm hne1)).trans (rg j v hv)
        have rnb' : wr.rangeAt nb 0 _ := fun j v hv => (O.cell (p := ⟨nb, 0 + j, none⟩) znb (Ne.symm hne2)).trans (rnb j v hv)
        have rnp' : wr.rangeAt np 0 _ := fun j v hv => (O.cell (p := ⟨np, 0 + j, none⟩) znp (Ne.symm hne3)).trans (rnp j v hv)
        have rrb' : wr.rangeAt rb 0 _ := fun j v hv => (O.cell (p := ⟨rb, 0 + j, none⟩) zrb (Ne.symm hne4)).trans (rrb j v hv)
        have rrp' : wr.rangeAt rp 0 _ := fun j v hv => (O.cell (p := ⟨rp, 0 + j, none⟩) zrp (Ne.symm hne5)).trans (rrp j v hv)
        rw [← cellsOf_ints] at rg'
        have C : CellsAt wr.heap.size wr cb (.slice (some ⟨sb, 0, none⟩) k k) (.slice (some ⟨gb, 0, none⟩) uN uN) (.slice (some ⟨nb, 0, none⟩) 1 1) (.slice (some ⟨rb, 0, none⟩) 1 1) (blankA k uN) :=
          ⟨rc', by omega, SliceAt.of (by simp [blankA]) (by omega) R, SliceAt.of (by simp [blankA]) (by omega) rg',
            ⟨[⟨np, 0, none⟩], SliceAt.of rfl (by omega) rnb', ⟨rfl, fun i hi => by obtain rfl : i = 0 := (by simp [blankA] at hi; omega); exact ⟨np, 0, rfl, by omega, rnp'⟩⟩⟩,
            ⟨[⟨rp, 0, none⟩], SliceAt.of rfl (by omega) rrb', ⟨rfl, fun i hi => by obtain rfl : i = 0 := (by simp [blankA] at hi; omega); exact ⟨rp, 0, rfl, by omega, rrp'⟩⟩⟩⟩
        clear R T rc rs rg rnb rnp rrb rrp rc' rg' rnb' rnp' rrb' rrp'
        go_wp2
        go_ret
        exact ⟨_, _, _, _, _, rfl, C, KF⟩

/-- A new arena stays as it is where an elder block is written. -/
theorem NewArena.elder {lo c o : Nat} {w : World} {s g n r : Value} {A : Ar} {b0 b1 b2 b3 : Nat} (N : NewArena lo w s g n r A b0 b1 b2 b3) (hc : c < lo) (vs : List Value) : NewArena lo (w.setCells c o vs) s g n r A b0 b1 b2 b3 := by
  have O : But (fun q => q = c) w (w.setCells c o vs) := But.of_only (only_setCells c vs o w) rfl
  exact ⟨N.s.but O (fun h e => by have := N.s.lt h; omega), N.g.but O (fun h e => by have := N.g.lt h; omega), N.n.but O (fun h e => by have := N.n.lt h; omega), N.r.but O (fun h e => by have := N.r.lt h; omega), N.d01, N.d02, N.d03, N.d12, N.d13, N.d23⟩

set_option maxHeartbeats 1000000 in
theorem blankArena_any (x y z u : Int) (w : World) :
    Calls Try.prog 11 #[.agg #[.int .i64 x, .int .i64 y, .int .i64 z, .int .i64 u]] w fun e w' => ∃ s g n r b0 b1 b2 b3, e = .returned (.agg #[.int .i64 0, s, g, n, r]) ∧ NewArena w.heap.size w' s g n r (blankOf x y z u) b0 b1 b2 b3 ∧ Below w.heap.size w w' := by
  have P0 := (planAt_alloc w x y z u 30).below ((Below.refl _ _).alloc (Nat.le_refl _) (.cells #[.int .i64 0, .slice none 0 0, .slice none 0 0, .slice none 0 0, .slice none 0 0] 28)) (by simp)
  have R0 := there_new (w.alloc (Obj.cells #[.int .i64 x, .int .i64 y, .int .i64 z, .int .i64 u] 30)) #[.int .i64 0, .slice none 0 0, .slice none 0 0, .slice none 0 0, .slice none 0 0] 28 5 (by decide)
  have K0 := ((Below.refl w.heap.size w).alloc (Nat.le_refl _) (Obj.cells #[.int .i64 x, .int .i64 y, .int .i64 z, .int .i64 u] 30)).alloc (by simp) (Obj.cells #[.int .i64 0, .slice none 0 0, .slice none 0 0, .slice none 0 0, .slice none 0 0] 28)
  have hz0 : w.heap.size + 1 < ((w.alloc (Obj.cells #[.int .i64 x, .int .i64 y, .int .i64 z, .int .i64 u] 30)).alloc (Obj.cells #[.int .i64 0, .slice none 0 0, .slice none 0 0, .slice none 0 0, .slice none 0 0] 28)).heap.size := by simp
  simp only [World.size_alloc] at R0
  go_enter Try.func11, Try.ntmps11
  go_wp2_with fail
  refine (right_any _ _ _ _ _).mono ?_
  rintro e w1 ⟨rfl, b1⟩
  have P1 := P0.below b1 (by omega)
  have R1 := there_below R0 b1 hz0
  have K1 := K0.trans (b1.mono (by omega))
  have hz1 := Nat.lt_of_lt_of_le hz0 b1.size
  clear P0 R0 K0 b1
  cases hp : planB x y z u
  · go_wp2_with (refine wpList_store_mid rfl 28 (.tmp 2) (.tmp 6) rfl (w.heap.size + 1) 0 _ rfl rfl ?ht ?hi ?h1 ?_)
    try (case ht => exact R1)
    case hi => exact infoArena
    case h1 => simp [Value.oneCell']
    refine bodyPost_ret (v := .agg #[.int .i64 0, .slice none 0 0, .slice none 0 0, .slice none 0 0, .slice none 0 0]) ?_ rfl ⟨_, _, _, _, 0, 1, 2, 3, rfl, by rw [blankOf_no hp]; exact ⟨⟨_, _, 0, rfl, Or.inl rfl⟩, ⟨_, _, 0, rfl, Or.inl rfl⟩, ⟨_, _, 0, rfl, Or.inl rfl⟩, ⟨_, _, 0, rfl, Or.inl rfl⟩, by decide, by decide, by decide, by decide, by decide, by decide⟩, ?_⟩
    · exact results_row Try.results11 _ _ (w.heap.size + 1) 0 rfl [.int .i64 0, .slice none 0 0, .slice none 0 0, .slice none 0 0, .slice none 0 0] _ (World.rangeAt_setCells_same _ _ _ _ R1) Try.underlying28 rfl infoArena
    · exact Below.setCells (by omega) _ _ _ K1
  · have hr := (planB_iff x y z u).1 hp
    obtain ⟨xN, rfl⟩ : ∃ k : Nat, x = k := ⟨x.toNat, by omega⟩
    obtain ⟨uN, rfl⟩ : ∃ k : Nat, u = k := ⟨u.toNat, by omega⟩
    have P1' := P1
    obtain ⟨p0, p1, p2, p3⟩ := P1'
    go_wp2_with fail
    refine (blankCells_any xN uN y z _ hp).mono ?_
    rintro e w2 ⟨cb, s, g, n, r, rfl, C, b2⟩
    have R2 := there_below R1 b2 (by omega)
    have K2 := K1.trans (b2.mono (by omega))
    have hz2 := Nat.lt_of_lt_of_le hz1 b2.size
    clear P1 p0 p1 p2 p3 R1 b2
    go_wp2_with fail
    refine (face_any w2.heap.size cb s g n r (blankA xN uN) w2 (Nat.le_refl _) (by simp only [Ar.size, blankA, List.length_replicate, List.length_cons, List.length_nil]; omega) C).mono ?_
    rintro e w3 ⟨s', g', n', r', b0, b1, b2, b3, rfl, N, b4⟩
    have R3 := there_below R2 b4 (by omega)
    have K3 := K2.trans (b4.mono (by omega))
    obtain ⟨a0, k0, rfl⟩ : ∃ a k, s' = .slice a (blankA xN uN).slots.length k := by obtain ⟨a, cap, off, h, -⟩ := N.s; exact ⟨a, cap, h⟩
    obtain ⟨a1, k1, rfl⟩ : ∃ a k, g' = .slice a (blankA xN uN).guides.length k := by obtain ⟨a, cap, off, h, -⟩ := N.g; exact ⟨a, cap, h⟩
    obtain ⟨a2, k2, rfl⟩ : ∃ a k, n' = .slice a (blankA xN uN).nodes.length k := by obtain ⟨a, cap, off, h, -⟩ := N.n; exact ⟨a, cap, h⟩
    obtain ⟨a3, k3, rfl⟩ : ∃ a k, r' = .slice a (blankA xN uN).vers.length k := by obtain ⟨a, cap, off, h, -⟩ := N.r; exact ⟨a, cap, h⟩
    clear R2 b4 C
    rw [show (blankA xN uN).camera = 0 from rfl]
    go_wp2_with (refine wpList_store_mid rfl 28 (.tmp 2) (.tmp 9) rfl (w.heap.size + 1) 0 _ rfl rfl ?ht ?hi ?h1 ?_)
    try (case ht => exact R3)
    case hi => exact infoArena
    case h1 => simp [Value.oneCell']
    refine bodyPost_ret (v := .agg #[.int .i64 0, .slice a0 (blankA xN uN).slots.length k0, .slice a1 (blankA xN uN).guides.length k1, .slice a2 (blankA xN uN).nodes.length k2, .slice a3 (blankA xN uN).vers.length k3]) ?_ rfl ⟨_, _, _, _, b0, b1, b2, b3, rfl, by rw [blankOf_yes hp]; exact (N.elder hz2 _).lo (by omega), ?_⟩
    · exact results_row Try.results11 _ _ (w.heap.size + 1) 0 rfl [.int .i64 0, .slice a0 (blankA xN uN).slots.length k0, .slice a1 (blankA xN uN).guides.length k1, .slice a2 (blankA xN uN).nodes.length k2, .slice a3 (blankA xN uN).vers.length k3] _ (World.rangeAt_setCells_same _ _ _ _ R3) Try.underlying28 rfl infoArena
    · exact Below.setCells (by omega) _ _ _ K3

end Go.Proofs.Ytcgjkodpmloccaa
