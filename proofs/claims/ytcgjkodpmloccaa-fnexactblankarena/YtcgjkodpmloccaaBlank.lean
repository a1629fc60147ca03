/-
  Blank arenas as the model makes them, as contracts: what each of their lists holds. For every plan.
-/
import Derived.Test.YtcgjkodpmloccaaArena
import Derived.Test.YtcgjkodpmloccaaRows2
import Derived.Deep.OwnRows
namespace Go.Proofs.Ytcgjkodpmloccaa
open Go.ChangeShapes Go.WideShapes Go.ChangeAt Go.RowKit
set_option linter.unusedVariables false

/-- A blank arena of so many processes and guides. -/
def blankA (xN uN : Nat) : Ar := ⟨0, List.replicate xN (-1), List.replicate uN 0, [⟨-1, 0, 0⟩], [⟨-1, false, 0, -1, 0⟩]⟩

theorem SliceAt.of {B : Nat} {w : World} {b len n cap : Nat} {cs : List Value} (hl : n = len) (hb : b < B) (R : w.rangeAt b 0 cs) : SliceAt B w (.slice (some ⟨b, 0, none⟩) n cap) len cs := by
  subst hl
  exact ⟨_, _, rfl, Or.inr ⟨b, 0, rfl, hb, R⟩⟩

theorem cellsOf_ints (n : Nat) (v : Int) : cellsOf intC (List.replicate n v) = List.replicate n (.int .i64 v) := by
  induction n with
  | zero => rfl
  | succ n ih => simp only [List.replicate_succ, cellsOf, List.flatMap_cons] at ih ⊢; rw [ih]; rfl

theorem own_range {w : World} {base : Nat} {e : TypeId} {g n cap : Nat} {xs : List Value} (h : w.ownsRow base e 1 (.slice (some ⟨g, 0, none⟩) n cap) n xs) (hn : 0 < n) : g < w.heap.size ∧ w.rangeAt g 0 xs := by
  rcases h.2 with ⟨h0, _⟩ | ⟨g', cap', cur, hv, hg, hh, hnc, _, hs, ht⟩
  · cases h0
  · injection hv with hv _ _
    injection hv with hv
    injection hv with hv _ _
    subst hv
    have hlt : g < w.heap.size := by
      rcases Nat.lt_or_ge g w.heap.size with hl | hl
      · exact hl
      · rw [Array.getElem?_eq_none hl] at hh; cases hh
    refine ⟨hlt, ?_⟩
    have R := World.rangeAt_of_block hh 0 n
    have e1 : (cur.extract 0 (0 + n)).toList = xs := by rw [← ht]; simp
    rw [e1] at R
    exact R

theorem infoInt : (Try.prog.info? 2).map (fun i => (i.zero, i.size, i.bytes)) = some (some (.int .i64 0), 1, 8) := by kernel_rfl

theorem infoArena : (Try.prog.info? 28).map (fun i => i.size) = some 5 := by kernel_rfl

theorem own_ge {w : World} {base : Nat} {e : TypeId} {size : Nat} {v : Value} {n : Nat} {xs : List Value} (h : w.ownsRow base e size v n xs) {j : Nat} (hj : v.ownBlock = some j) : base ≤ j := by
  rcases h.2 with ⟨rfl, _⟩ | ⟨g, cap, cur, rfl, hg, _⟩
  · simp [Value.ownBlock] at hj
  · simp [Value.ownBlock] at hj
    omega

theorem own_slice {w : World} {base : Nat} {e : TypeId} {size : Nat} {v : Value} {n : Nat} {xs : List Value} (h : w.ownsRow base e size v n xs) (hn : 0 < n) : ∃ g cap, v = .slice (some ⟨g, 0, none⟩) n cap := by
  rcases h.2 with ⟨rfl, h0⟩ | ⟨g, cap, cur, rfl, _⟩
  · omega
  · exact ⟨g, cap, rfl⟩

/-- The world in which a blank arena has its guides, its head and the head's link, and no slots yet. -/
def blank0 (w1 : World) (uN : Nat) : World :=
  (((w1.alloc (Obj.cells (madeCells #[Value.int IntKind.i64 0] uN) 2)).alloc (Obj.cells #[Value.int IntKind.i64 (-1), Value.int IntKind.i64 0, Value.int IntKind.i64 0] 60)).alloc
    (Obj.cells #[Value.int IntKind.i64 (-1), Value.bool false, Value.int IntKind.i64 0, Value.int IntKind.i64 (-1), Value.int IntKind.i64 0] 62)).alloc
      (Obj.cells #[Value.int IntKind.i64 0, Value.slice none 0 0, Value.slice (some ⟨w1.heap.size, 0, none⟩) uN uN, Value.slice (some ⟨w1.heap.size + 1, 0, none⟩) 1 1, Value.slice (some ⟨w1.heap.size + 1 + 1, 0, none⟩) 1 1] 28)

theorem blank0_size (w1 : World) (uN : Nat) : (blank0 w1 uN).heap.size = w1.heap.size + 4 := by simp [blank0]

theorem blank0_rows (w1 : World) (uN : Nat) : (blank0 w1 uN).rangeAt w1.heap.size 0 (cellsOf intC (List.replicate uN 0)) ∧ (blank0 w1 uN).rangeAt (w1.heap.size + 1) 0 (ndC ⟨-1, 0, 0⟩) ∧ (blank0 w1 uN).rangeAt (w1.heap.size + 1 + 1) 0 (vrC ⟨-1, false, 0, -1, 0⟩) := by
  have e : madeCells #[Value.int IntKind.i64 0] uN = (cellsOf intC (List.replicate uN 0)).toArray := by
    apply Array.toList_inj.1
    rw [toList_madeCells_one, cellsOf_ints]
  unfold blank0
  rw [e]
  refine ⟨?_, ?_, ?_⟩
  · exact World.rangeAt_alloc (World.rangeAt_alloc (World.rangeAt_alloc (rangeAt_new w1 _ _) _) _) _
  · have h := rangeAt_new (w1.alloc (Obj.cells (cellsOf intC (List.replicate uN 0)).toArray 2)) (ndC ⟨-1, 0, 0⟩) 60
    simp only [World.size_alloc] at h
    exact World.rangeAt_alloc (World.rangeAt_alloc h _) _
  · have h := rangeAt_new ((w1.alloc (Obj.cells (cellsOf intC (List.replicate uN 0)).toArray 2)).alloc (Obj.cells (ndC ⟨-1, 0, 0⟩).toArray 60)) (vrC ⟨-1, false, 0, -1, 0⟩) 62
    simp only [World.size_alloc] at h
    exact World.rangeAt_alloc h _

/-- The arena of k slots, in the making. -/
structure BlankAt (w1 : World) (uN : Nat) (wr : World) (k : Nat) (s : Value) : Prop where
  a0 : wr.cell? ⟨w1.heap.size + 1 + 1 + 1, 0, none⟩ = some (.int .i64 0)
  a1 : wr.cell? ⟨w1.heap.size + 1 + 1 + 1, 1, none⟩ = some s
  a2 : wr.cell? ⟨w1.heap.size + 1 + 1 + 1, 2, none⟩ = some (.slice (some ⟨w1.heap.size, 0, none⟩) uN uN)
  a3 : wr.cell? ⟨w1.heap.size + 1 + 1 + 1, 3, none⟩ = some (.slice (some ⟨w1.heap.size + 1, 0, none⟩) 1 1)
  a4 : wr.cell? ⟨w1.heap.size + 1 + 1 + 1, 4, none⟩ = some (.slice (some ⟨w1.heap.size + 1 + 1, 0, none⟩) 1 1)
  f1 : wr.frozen? ⟨w1.heap.size + 1 + 1 + 1, 1, none⟩ = false
  own : wr.ownsRow (w1.heap.size + 4) 2 1 s k (List.replicate k (.int .i64 (-1)))
  bel : Below (w1.heap.size + 3) (blank0 w1 uN) wr

theorem BlankAt.blk {w1 : World} {uN : Nat} {wr : World} {k : Nat} {s : Value} (D : BlankAt w1 uN wr k s) : w1.heap.size + 4 ≤ wr.heap.size := by
  have := D.bel.size
  rw [blank0_size] at this
  exact this

theorem blankAt_start (w1 : World) (uN : Nat) : BlankAt w1 uN (blank0 w1 uN) 0 (.slice none 0 0) := by
  have h := (there_new (((w1.alloc (Obj.cells (madeCells #[Value.int IntKind.i64 0] uN) 2)).alloc (Obj.cells #[Value.int IntKind.i64 (-1), Value.int IntKind.i64 0, Value.int IntKind.i64 0] 60)).alloc
    (Obj.cells #[Value.int IntKind.i64 (-1), Value.bool false, Value.int IntKind.i64 0, Value.int IntKind.i64 (-1), Value.int IntKind.i64 0] 62))
      #[Value.int IntKind.i64 0, Value.slice none 0 0, Value.slice (some ⟨w1.heap.size, 0, none⟩) uN uN, Value.slice (some ⟨w1.heap.size + 1, 0, none⟩) 1 1, Value.slice (some ⟨w1.heap.size + 1 + 1, 0, none⟩) 1 1] 28 5 (by simp) 1 (by omega)).2
  simp only [World.size_alloc, Nat.zero_add] at h
  refine ⟨?_, ?_, ?_, ?_, ?_, h, World.ownsRow_nil _ _ _ _, Below.refl _ _⟩ <;> simp [blank0, World.cell?_alloc_at]

theorem BlankAt.step {w1 : World} {uN : Nat} {wr : World} {k : Nat} {s : Value} (D : BlankAt w1 uN wr k s) {o : Obj} {w2 : World} {v' : Value}
    (ho : w2.ownsRow (w1.heap.size + 4) 2 1 v' (k + 1) (List.replicate k (.int .i64 (-1)) ++ [.int .i64 (-1)])) (hg : (wr.alloc o).grownBy w2 s.ownBlock) :
    BlankAt w1 uN (w2.setCell ⟨w1.heap.size + 1 + 1 + 1, 1, none⟩ v') (k + 1) v' := by
  have hz := D.blk
  have b2 : Below (w1.heap.size + 4) wr w2 := ((Below.refl _ wr).alloc hz o).grown hg (by simp; omega) (fun j e => own_ge D.own e)
  have hc : ∀ j, w2.cell? ⟨w1.heap.size + 1 + 1 + 1, j, none⟩ = wr.cell? ⟨w1.heap.size + 1 + 1 + 1, j, none⟩ := fun j => b2.cell (p := ⟨w1.heap.size + 1 + 1 + 1, j, none⟩) (by simp)
  have hf := b2.frozen (p := ⟨w1.heap.size + 1 + 1 + 1, 1, none⟩) (by simp)
  refine ⟨?_, World.cell?_setCell_same _ _ _ ((hc 1).trans D.a1), ?_, ?_, ?_, (World.frozen?_setCell _ _ _ _).trans (hf.trans D.f1), ?_, ?_⟩
  · exact (World.cell?_setCell_other _ _ _ _ (by simp)).trans ((hc 0).trans D.a0)
  · exact (World.cell?_setCell_other _ _ _ _ (by simp)).trans ((hc 2).trans D.a2)
  · exact (World.cell?_setCell_other _ _ _ _ (by simp)).trans ((hc 3).trans D.a3)
  · exact (World.cell?_setCell_other _ _ _ _ (by simp)).trans ((hc 4).trans D.a4)
  · rw [List.replicate_succ']
    exact ownsRow_setCell_below ho (by simp) _
  · exact (D.bel.trans (b2.mono (by omega))).setCell (by simp) _

set_option maxHeartbeats 1000000 in
theorem specBlank_full (xN uN : Nat) (y z : Int) (w : World) (hp : planB xN y z uN = true) :
    Calls Try.prog 9 #[.agg #[.int .i64 xN, .int .i64 y, .int .i64 z, .int .i64 uN]] w fun e w' => ∃ sg sc gb nb vb, e = .returned (.agg #[.int .i64 0, .slice (some ⟨sg, 0, none⟩) xN sc, .slice (some ⟨gb, 0, none⟩) uN uN, .slice (some ⟨nb, 0, none⟩) 1 1, .slice (some ⟨vb, 0, none⟩) 1 1]) ∧
      ArenaIs w'.heap.size w' (.slice (some ⟨sg, 0, none⟩) xN sc) (.slice (some ⟨gb, 0, none⟩) uN uN) (.slice (some ⟨nb, 0, none⟩) 1 1) (.slice (some ⟨vb, 0, none⟩) 1 1) (blankA xN uN) ∧ Below w.heap.size w w' := by
  have hr := (planB_iff xN y z uN).1 hp
  obtain ⟨⟨hx1, hx2⟩, ⟨hy1, hy2⟩, ⟨hz1, hz2⟩, hu1, hu2⟩ := hr
  have hmk := fun w => run_make_row' (P := Try.prog) 24 2 (.int .i64 0) 8 Try.underlying24 infoInt rfl .i64 .i64 uN (by omega) (by omega) w
  have P0 := planAt_alloc w xN y z uN 30
  go_enter Try.func9, Try.ntmps9
  go_wp2_with fail
  have R0 := there_new (w.alloc (Obj.cells #[.int .i64 xN, .int .i64 y, .int .i64 z, .int .i64 uN] 30)) #[.int .i64 0, .slice none 0 0, .slice none 0 0, .slice none 0 0, .slice none 0 0] 28 5 (by decide)
  refine (specPlanOk_any _ _ _ _ _).mono ?_
  rintro e w1 ⟨rfl, b1⟩
  have hz1 := b1.size
  simp at hz1
  have P1 := (P0.below ((Below.refl _ _).alloc (Nat.le_refl _) _) (by simp)).below b1 (by simp; omega)
  have R1 := there_below R0 b1 (by simp)
  have bb1 := (((Below.refl w.heap.size w).alloc (Nat.le_refl _) (Obj.cells #[.int .i64 xN, .int .i64 y, .int .i64 z, .int .i64 uN] 30)).alloc (by simp) (Obj.cells #[.int .i64 0, .slice none 0 0, .slice none 0 0, .slice none 0 0, .slice none 0 0] 28)).trans (b1.mono (by simp; omega))
  have P1' := P1
  obtain ⟨c0, c1, c2, c3⟩ := P1'
  clear b1 P0 R0
  rw [hp]
  obtain ⟨i0, hi, hzr, hsz, hby⟩ := info_parts infoInt
  go_wp2
  go_loopw [4] (fun i wr => ∃ (k : Nat) (s : Value), k ≤ xN ∧ i = .int .i64 k ∧ BlankAt w1 uN wr k s) (fun i _ => xN - (intOf i).toNat)
  case atStart => exact ⟨0, _, Nat.zero_le _, rfl, blankAt_start w1 uN⟩
  case round =>
    obtain ⟨k, s, hk, rfl, D⟩ := hrel
    have hz := D.blk
    have bW : Below w1.heap.size w1 wr := (by
      have h1 : Below w1.heap.size w1 (blank0 w1 uN) := ((((Below.refl w1.heap.size w1).alloc (Nat.le_refl _) _).alloc (by simp) _).alloc (by simp; omega) _).alloc (by simp; omega) _
      exact h1.trans (D.bel.mono (by omega)))
    obtain ⟨e0, e1, e2, e3⟩ := P1.below bW (by omega)
    by_cases hlt : k < xN
    · have D0 := D
      obtain ⟨a0, a1, a2, a3, a4, f1, own, bel⟩ := D
      go_wp2_with (at_builtin; refine wpList_append_own _ rfl _ _ 24 rfl (w1.heap.size + 4) 2 i0 (.int .i64 0) 1 8 Try.underlying24 hi hzr hsz hby rfl (by decide) _ _ _ rfl (own.alloc _) ⟨wr.heap.size, 0, none⟩ 1 1 [.int .i64 (-1)] rfl rfl ?c1 ?c2 ?c3 ?c4 ?c5 ?_)
      case c1 =>
        intro j u hj
        match j, hj with
        | 0, hj => simp at hj; subst hj; simp [Addr.add]
      case c2 => intro u hu; simp at hu; subst hu; rfl
      case c3 => unfold maxLen; omega
      case c4 => omega
      case c5 => simp; omega
      intro v' w2 hown' hgrow _
      have S := D0.step hown' hgrow
      have b2 : Below (w1.heap.size + 4) wr w2 := ((Below.refl _ wr).alloc hz _).grown hgrow (by simp; omega) (fun j e => own_ge own e)
      have g1 := (b2.cell (p := ⟨w1.heap.size + 1 + 1 + 1, 1, none⟩) (by simp)).trans a1
      have g2 := (b2.frozen (p := ⟨w1.heap.size + 1 + 1 + 1, 1, none⟩) (by simp)).trans f1
      obtain ⟨g, cap, hv⟩ := own_slice hown' (by omega)
      rw [hv] at S ⊢
      clear own bel D0 hown' hgrow b2 bW
      go_wp2
      go_roundw
      case rel => exact ⟨k + 1, _, by omega, by go_num, S⟩
      case measure => simp [intOf]; omega
    · obtain rfl : k = xN := by omega
      have D0 := D
      obtain ⟨a0, a1, a2, a3, a4, f1, own, bel⟩ := D
      have R2 := there_below R1 bW (by simp; omega)
      simp only [World.size_alloc] at R2
      obtain ⟨g, cap, rfl⟩ := own_slice own (by omega)
      obtain ⟨gz, gr⟩ := own_range own (by omega)
      rw [← cellsOf_ints] at gr
      obtain ⟨B0, B1, B2⟩ := blank0_rows w1 uN
      have M0 := rangeAt_below B0 bel (by omega)
      have M1 := rangeAt_below B1 bel (by omega)
      have M2 := rangeAt_below B2 bel (by omega)
      have gg := own_ge own rfl
      clear bel own B0 B1 B2
      go_wp2_with (refine wpList_store_mid rfl 28 (.tmp 2) (.tmp 28) rfl (w.heap.size + 1) 0 _ rfl rfl R2 infoArena (by simp [Value.oneCell']) ?_)
      refine bodyPost_ret (v := .agg #[.int .i64 0, .slice (some ⟨g, 0, none⟩) k cap, .slice (some ⟨w1.heap.size, 0, none⟩) uN uN, .slice (some ⟨w1.heap.size + 1, 0, none⟩) 1 1, .slice (some ⟨w1.heap.size + 1 + 1, 0, none⟩) 1 1]) ?_ rfl ⟨_, _, _, _, _, rfl, ⟨?_, ?_, ?_, ?_⟩, ?_⟩
      · exact results_row Try.results9 _ _ (w.heap.size + 1) 0 rfl [.int .i64 0, .slice (some ⟨g, 0, none⟩) k cap, .slice (some ⟨w1.heap.size, 0, none⟩) uN uN, .slice (some ⟨w1.heap.size + 1, 0, none⟩) 1 1, .slice (some ⟨w1.heap.size + 1 + 1, 0, none⟩) 1 1] _ (World.rangeAt_setCells_same _ _ _ _ R2) Try.underlying28 rfl infoArena
      · exact SliceAt.of (by simp [blankA]) (by rw [setCells_size]; omega) (World.rangeAt_setCells_apart gr (w.heap.size + 1) 0 [.int .i64 0, .slice (some ⟨g, 0, none⟩) k cap, .slice (some ⟨w1.heap.size, 0, none⟩) uN uN, .slice (some ⟨w1.heap.size + 1, 0, none⟩) 1 1, .slice (some ⟨w1.heap.size + 1 + 1, 0, none⟩) 1 1] (Or.inl (by omega)))
      · exact SliceAt.of (by simp [blankA]) (by rw [setCells_size]; omega) (World.rangeAt_setCells_apart M0 (w.heap.size + 1) 0 [.int .i64 0, .slice (some ⟨g, 0, none⟩) k cap, .slice (some ⟨w1.heap.size, 0, none⟩) uN uN, .slice (some ⟨w1.heap.size + 1, 0, none⟩) 1 1, .slice (some ⟨w1.heap.size + 1 + 1, 0, none⟩) 1 1] (Or.inl (by omega)))
      · exact SliceAt.of (rfl) (by rw [setCells_size]; omega) (World.rangeAt_setCells_apart M1 (w.heap.size + 1) 0 [.int .i64 0, .slice (some ⟨g, 0, none⟩) k cap, .slice (some ⟨w1.heap.size, 0, none⟩) uN uN, .slice (some ⟨w1.heap.size + 1, 0, none⟩) 1 1, .slice (some ⟨w1.heap.size + 1 + 1, 0, none⟩) 1 1] (Or.inl (by omega)))
      · exact SliceAt.of (rfl) (by rw [setCells_size]; omega) (World.rangeAt_setCells_apart M2 (w.heap.size + 1) 0 [.int .i64 0, .slice (some ⟨g, 0, none⟩) k cap, .slice (some ⟨w1.heap.size, 0, none⟩) uN uN, .slice (some ⟨w1.heap.size + 1, 0, none⟩) 1 1, .slice (some ⟨w1.heap.size + 1 + 1, 0, none⟩) 1 1] (Or.inl (by omega)))
      · exact Below.setCells (by omega) _ _ _ (bb1.trans (bW.mono (by omega)))

theorem specBlank_any (xN uN : Nat) (y z : Int) (w : World) (hp : planB xN y z uN = true) :
    Calls Try.prog 9 #[.agg #[.int .i64 xN, .int .i64 y, .int .i64 z, .int .i64 uN]] w fun e w' => ∃ sg sc gb nb vb, e = .returned (.agg #[.int .i64 0, .slice (some ⟨sg, 0, none⟩) xN sc, .slice (some ⟨gb, 0, none⟩) uN uN, .slice (some ⟨nb, 0, none⟩) 1 1, .slice (some ⟨vb, 0, none⟩) 1 1]) ∧ Below w.heap.size w w' :=
  (specBlank_full xN uN y z w hp).mono fun e w' ⟨sg, sc, gb, nb, vb, h, _, b⟩ => ⟨sg, sc, gb, nb, vb, h, b⟩

theorem specBlank_zero (x y z u : Int) (w : World) (hp : planB x y z u = false) :
    Calls Try.prog 9 #[.agg #[.int .i64 x, .int .i64 y, .int .i64 z, .int .i64 u]] w fun e w' => e = .returned (.agg #[.int .i64 0, .slice none 0 0, .slice none 0 0, .slice none 0 0, .slice none 0 0]) ∧ Below w.heap.size w w' := by
  go_enter Try.func9, Try.ntmps9
  go_wp2_with fail
  have R0 := there_new (w.alloc (Obj.cells #[.int .i64 x, .int .i64 y, .int .i64 z, .int .i64 u] 30)) #[.int .i64 0, .slice none 0 0, .slice none 0 0, .slice none 0 0, .slice none 0 0] 28 5 (by decide)
  refine (specPlanOk_any _ _ _ _ _).mono ?_
  rintro e w1 ⟨rfl, b1⟩
  have R1 := there_below R0 b1 (by simp)
  simp only [World.size_alloc] at R1
  have K1 := (((Below.refl w.heap.size w).alloc (Nat.le_refl _) (Obj.cells #[.int .i64 x, .int .i64 y, .int .i64 z, .int .i64 u] 30)).alloc (by simp) (Obj.cells #[.int .i64 0, .slice none 0 0, .slice none 0 0, .slice none 0 0, .slice none 0 0] 28)).trans (b1.mono (by simp; omega))
  rw [hp]
  clear b1 R0
  go_wp2_with (refine wpList_store_mid rfl 28 (.tmp 2) (.tmp 8) rfl (w.heap.size + 1) 0 _ rfl rfl ?ht ?hi ?h1 ?_)
  try (case ht => exact R1)
  case hi => exact infoArena
  case h1 => simp [Value.oneCell']
  refine bodyPost_ret (v := .agg #[.int .i64 0, .slice none 0 0, .slice none 0 0, .slice none 0 0, .slice none 0 0]) ?_ rfl ⟨rfl, ?_⟩
  · exact results_row Try.results9 _ _ (w.heap.size + 1) 0 rfl [.int .i64 0, .slice none 0 0, .slice none 0 0, .slice none 0 0, .slice none 0 0] _ (World.rangeAt_setCells_same _ _ _ _ R1) Try.underlying28 rfl infoArena
  · exact Below.setCells (by omega) _ _ _ K1

end Go.Proofs.Ytcgjkodpmloccaa
