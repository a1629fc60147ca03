/-
  What the law's proof goes by, part 41.
-/
import Derived.Laws.CopyOwn
import Derived.Test.YthjkdnlmopafkaaFnBlank00
import Derived.Test.YthjkdnlmopafkaaFnBlank01
import Derived.Test.YthjkdnlmopafkaaFnBlank03
namespace Go.Proofs.Ythjkdnlmopafkaa
open Go.ChangeShapes Go.WideShapes Go.ChangeAt Go.RowKit
set_option maxRecDepth 100000
set_option maxHeartbeats 16000000
set_option linter.unusedVariables false
set_option linter.unusedSimpArgs false
set_option linter.unnecessarySimpa false
set_option linter.unusedSectionVars false
section
attribute [local go_sem ↓] Go.wp_at_zero Go.wp_at_succ
structure Ptrs {α : Type} (B : Nat) (w : World) (f : α -> List Value) (ps : List Addr) (l : List α) : Prop where
 len : ps.length = l.length
 at' : ∀ i (h : i < l.length), ∃ b o, ps[i]? = some ⟨b, o, none⟩ /\ b < B /\ w.rangeAt b o (f l[i])
def ptrC (p : Addr) : List Value := [.pointer (some p)]
def qz9i {α : Type} (B : Nat) (w : World) (v : Value) (f : α -> List Value) (l : List α) : Prop :=
 ∃ ps, qzs B w v l.length (qze ptrC ps) /\ Ptrs B w f ps l
theorem Ptrs.below {α : Type} {B : Nat} {w w' : World} {f : α -> List Value} {ps : List Addr} {l : List α} (h : Ptrs B w f ps l) (hb : Below B w w') : Ptrs B w' f ps l :=
 ⟨h.len, fun i hi => by obtain ⟨b, o, h1, h2, h3⟩ := h.at' i hi; exact ⟨b, o, h1, h2, qz0 h3 hb h2⟩⟩
theorem qz9i.below {α : Type} {B : Nat} {w w' : World} {v : Value} {f : α -> List Value} {l : List α} (h : qz9i B w v f l) (hb : Below B w w') : qz9i B w' v f l := by
 obtain ⟨ps, h1, h2⟩ := h
 exact ⟨ps, h1.below hb, h2.below hb⟩
theorem qz96 (l : List Int) : qze intC l = l.map (fun n => .int .i64 n) := by
 induction l with
 | nil => rfl
 | cons x l ih => simp only [qze, List.flatMap_cons, List.map_cons] at ih ⊢; rw [ih]; rfl
theorem qz2r {w : World} {g : Nat} {cs : List Value} {t : TypeId} (h : w.heap[g]? = some (.cells cs.toArray t (0, 0))) : g < Q67 /\ w.rangeAt g 0 cs /\ w.there g 0 cs.length := by
 have hlt : g < Q67 := by
  rcases Nat.lt_or_ge g Q67 with hl | hl
  ·exact hl
  ·rw [Array.getElem?_eq_none hl] at h; cases h
 refine ⟨hlt, ?_, ?_⟩
 ·intro j v hj
  rw [Nat.zero_add, cell_of_row w g j cs.toArray t (0, 0) h]
  simpa using hj
 ·intro j hj
  rw [Nat.zero_add, cell_of_row w g j cs.toArray t (0, 0) h]
  refine ⟨by simp [hj], ?_⟩
  simp [World.frozen?, h]
theorem qzf4 : (Try.prog.info? 2).map (·.size) = some 1 := by kernel_rfl
theorem qz8h (B : Nat) (v : Value) (l : List Int) (w : World) (hB : B <= Q67) (hl : l.length <= 1048576) (S : qzs B w v l.length (qze intC l)) :
  Calls Try.prog 67 #[v] w fun e w' => e = .returned Q4c /\ w'.rangeAt Q67 0 (qze intC l) /\ w'.there Q67 0 l.length /\ Q67 < w'.heap.size /\ Below Q67 w w' := by
 obtain ⟨a, cap, rfl, hS⟩ := S
 have hmk := fun w => run_make_row' (P := Try.prog) 26 2 (.int .i64 0) 8 Try.underlying26 qzf1 rfl .i64 .i64 l.length (by omega) (by omega) w
 go_enter Try.func67, Try.ntmps67
 have hcur : Hid (madeCells #[Value.int IntKind.i64 0] l.length = (List.replicate l.length (Value.int IntKind.i64 0)).toArray) := by
  show _ = _
  apply Array.toList_inj.1
  rw [toList_madeCells_one]
 obtain ⟨cs, hcs⟩ : ∃ cs, cs = qze intC l := ⟨_, rfl⟩
 have hlen : cs.length = l.length := by rw [hcs, qz1o (sz := 1) (fun _ => rfl)]; omega
 have hone : ∀ v ∈ cs, v.oneCell' = true := by
  intro v hv
  rw [hcs, qz96] at hv
  obtain ⟨n, _, rfl⟩ := List.mem_map.1 hv
  rfl
 rw [<- hcs] at hS ⊢
 clear hcs
 go_wp2_with (refine wpList_copy_splice rfl (.tmp 7) (.tmp 8) 26 26 rfl 2 Try.underlying26 qzf4 _ _ _ _ _ _ rfl rfl Q67 0 (List.replicate l.length (Value.int IntKind.i64 0)) 2 ?hg cs ?hn ?hpos ?hfit hone Q67 w ?hb (Q6f _) ?_)
 case hg => rw [hcur.out]; show (w.heap.push _)[w.heap.size]? = some _; simp
 case hn => rw [hlen]; exact (Nat.min_self _).symm
 case hpos =>
  intro hp
  rcases hS with h0 | ⟨bb, off, rfl, hbb, R0⟩
  ·omega
  ·refine ⟨_, rfl, fun j v hj => ?_⟩
   have := (qz0 R0 (((Q6c Q67 w).alloc (Q6f _) (Obj.cells (madeCells #[Value.int IntKind.i64 0] l.length) 2)).mono hB) hbb) j v hj
   have ea : (⟨bb, off, none⟩ : Addr).add j = ⟨bb, off + j, none⟩ := by unfold Addr.add; split <;> simp_all
   rw [ea]
   exact this
 case hfit => rw [hlen, List.length_replicate]; omega
 case hb => exact (Q6c _ _).alloc (Q6f _) _
 intro w2 HG hB2
 go_wp2
 go_ret
 have e1 : splice (List.replicate l.length (Value.int IntKind.i64 0)) 0 cs = cs := by
  simp only [splice, List.take_zero, List.nil_append, Nat.zero_add]
  rw [List.drop_eq_nil_of_le (by rw [List.length_replicate]; omega), List.append_nil]
 have HG' := HG.out
 rw [e1] at HG'
 obtain ⟨n1, n2, n3⟩ := qz2r HG'
 rw [hlen] at n3
 exact ⟨rfl, n2, n3, n1, hB2⟩
theorem qz62 (B : Nat) (v : Value) (l : List Nd) (w : World) (hB : B <= Q67) (hl : l.length <= 1048576) (S : qz9i B w v ndC l) :
  Calls Try.prog 68 #[v] w fun e w' => e = .returned Q4c /\ w'.rangeAt Q67 0 (qze ndC l) /\ w'.there Q67 0 (l.length * 3) /\ Q67 < w'.heap.size /\ Below Q67 w w' := by
 obtain ⟨ps, ⟨a, cap, rfl, hS⟩, Q⟩ := S
 obtain ⟨i0, hi, hz0, hz1, hz2⟩ := info_parts qz8v
 have hmk : ∀ w : World, (Instr.makeSlice 27 (.int .i64 (l.length : Int)) (.int .i64 (l.length : Int))).run Try.prog w = .ok Q4c (w.alloc (.cells (madeCells (.agg #[.int .i64 0, .int .i64 0, .int .i64 0] : Value).cells (l.length * 3)) 78)) := by
  intro w
  have h := run_make (P := Try.prog) w 27 78 i0 _ Try.underlying27 hi hz0 .i64 .i64 l.length l.length (by omega) (by omega) (by rw [hz2]; omega) (by omega)
  simpa [hz1] using h
 clear hi hz0 hz1 hz2
 go_enter Try.func68, Try.ntmps68
 go_wp2
 clear hmk
 go_loopw [11] (fun i wr => ∃ k : Nat, k <= l.length /\ i = .int .i64 k /\ wr.rangeAt Q67 0 (qze ndC (l.take k)) /\ wr.there Q67 0 (l.length * 3) /\ Q67 < wr.heap.size /\ Below Q67 w wr) (fun i _ => l.length - (intOf i).toNat)
 case atStart => exact ⟨0, Nat.zero_le _, rfl, by simp [qze, World.rangeAt], qzf _ _ _ _ (by rw [size_madeCells]; exact Nat.le_refl _), by simp, (Below.refl _ _).alloc (Nat.le_refl _) _⟩
 case round =>
  obtain ⟨k, hk, rfl, R, T, hz, bel⟩ := hrel
  by_cases hlt : k < l.length
  ·rcases hS with h0 | ⟨bb, off, rfl, hbb, R0⟩
   ·omega
   ·obtain ⟨pb, po, hp1, hp2, hp3⟩ := (Q.below (bel.mono hB)).at' k hlt
    have hkp : k < ps.length := by rw [Q.len]; exact hlt
    have hc : wr.cell? ⟨bb, off + k, none⟩ = some (.pointer (some ⟨pb, po, none⟩)) := by
     have h1 := (qzi (sz := 1) (f := ptrC) (fun _ => rfl) (qz0 R0 (bel.mono hB) hbb) k hkp) 0 (.pointer (some ps[k])) rfl
     rw [List.getElem?_eq_getElem hkp] at hp1
     rw [Option.some.inj hp1, Nat.mul_one, Nat.add_zero] at h1
     exact h1
    clear R0 hp1 hkp
    have hk3 : k * 3 + 3 <= l.length * 3 := by omega
    have hlen : (qze ndC (l.take k)).length = k * 3 := by rw [qz1o (sz := 3) (fun _ => rfl), List.length_take]; omega
    have T2 := qz14 T (k * 3) 3 hk3
    have G := qz67 R (vs := ndC l[k]) (by rw [hlen]; exact T2)
    rw [hlen, <- qz1v, <- List.take_succ_eq_append_getElem hlt] at G
    simp only [Nat.zero_add] at G T2
    clear R hlen
    go_wp2_with (first | (refine Q6h rfl 78 (.tmp 19) rfl pb po rfl (ndC l[k]) _ ?hc Try.underlying78 rfl (qzcx _) ?_) | (refine Q6b rfl 78 (.tmp 21) (.tmp 20) rfl Q67 (k * 3) _ rfl rfl ?ht ?hi ?h1 ?_))
    case hc => exact hp3
    case ht => exact T2
    case hi => exact qzdr _
    case h1 => simp [ndC, Value.oneCell']
    go_roundw
    case rel => exact ⟨k + 1, by omega, by go_num, G, World.there_setCells T _ _ _, by rw [qzr]; omega, Below.setCells (Nat.le_refl _) _ _ _ bel⟩
    case measure => simp [intOf]; omega
  ·obtain rfl : k = l.length := by omega
   go_wp2
   go_ret
   exact ⟨rfl, by simpa using R, T, hz, bel⟩
theorem qz6m (B : Nat) (v : Value) (l : List Vr) (w : World) (hB : B <= Q67) (hl : l.length <= 1048576) (S : qz9i B w v vrC l) :
  Calls Try.prog 69 #[v] w fun e w' => e = .returned Q4c /\ w'.rangeAt Q67 0 (qze vrC l) /\ w'.there Q67 0 (l.length * 5) /\ Q67 < w'.heap.size /\ Below Q67 w w' := by
 obtain ⟨ps, ⟨a, cap, rfl, hS⟩, Q⟩ := S
 obtain ⟨i0, hi, hz0, hz1, hz2⟩ := info_parts qz9p
 have hmk : ∀ w : World, (Instr.makeSlice 28 (.int .i64 (l.length : Int)) (.int .i64 (l.length : Int))).run Try.prog w = .ok Q4c (w.alloc (.cells (madeCells (.agg #[.int .i64 0, .bool false, .int .i64 0, .int .i64 0, .int .i64 0] : Value).cells (l.length * 5)) 54)) := by
  intro w
  have h := run_make (P := Try.prog) w 28 54 i0 _ Try.underlying28 hi hz0 .i64 .i64 l.length l.length (by omega) (by omega) (by rw [hz2]; omega) (by omega)
  simpa [hz1] using h
 clear hi hz0 hz1 hz2
 go_enter Try.func69, Try.ntmps69
 go_wp2
 clear hmk
 go_loopw [11] (fun i wr => ∃ k : Nat, k <= l.length /\ i = .int .i64 k /\ wr.rangeAt Q67 0 (qze vrC (l.take k)) /\ wr.there Q67 0 (l.length * 5) /\ Q67 < wr.heap.size /\ Below Q67 w wr) (fun i _ => l.length - (intOf i).toNat)
 case atStart => exact ⟨0, Nat.zero_le _, rfl, by simp [qze, World.rangeAt], qzf _ _ _ _ (by rw [size_madeCells]; exact Nat.le_refl _), by simp, (Below.refl _ _).alloc (Nat.le_refl _) _⟩
 case round =>
  obtain ⟨k, hk, rfl, R, T, hz, bel⟩ := hrel
  by_cases hlt : k < l.length
  ·rcases hS with h0 | ⟨bb, off, rfl, hbb, R0⟩
   ·omega
   ·obtain ⟨pb, po, hp1, hp2, hp3⟩ := (Q.below (bel.mono hB)).at' k hlt
    have hkp : k < ps.length := by rw [Q.len]; exact hlt
    have hc : wr.cell? ⟨bb, off + k, none⟩ = some (.pointer (some ⟨pb, po, none⟩)) := by
     have h1 := (qzi (sz := 1) (f := ptrC) (fun _ => rfl) (qz0 R0 (bel.mono hB) hbb) k hkp) 0 (.pointer (some ps[k])) rfl
     rw [List.getElem?_eq_getElem hkp] at hp1
     rw [Option.some.inj hp1, Nat.mul_one, Nat.add_zero] at h1
     exact h1
    clear R0 hp1 hkp
    have hk5 : k * 5 + 5 <= l.length * 5 := by omega
    have hlen : (qze vrC (l.take k)).length = k * 5 := by rw [qz1o (sz := 5) (fun _ => rfl), List.length_take]; omega
    have T2 := qz14 T (k * 5) 5 hk5
    have G := qz67 R (vs := vrC l[k]) (by rw [hlen]; exact T2)
    rw [hlen, <- qz1v, <- List.take_succ_eq_append_getElem hlt] at G
    simp only [Nat.zero_add] at G T2
    clear R hlen
    go_wp2_with (first | (refine Q6h rfl 54 (.tmp 19) rfl pb po rfl (vrC l[k]) _ ?hc Try.underlying54 rfl (qzdq _) ?_) | (refine Q6b rfl 54 (.tmp 21) (.tmp 20) rfl Q67 (k * 5) _ rfl rfl ?ht ?hi ?h1 ?_))
    case hc => exact hp3
    case ht => exact T2
    case hi => exact qze3 _
    case h1 => simp [vrC, Value.oneCell']
    go_roundw
    case rel => exact ⟨k + 1, by omega, by go_num, G, World.there_setCells T _ _ _, by rw [qzr]; omega, Below.setCells (Nat.le_refl _) _ _ _ bel⟩
    case measure => simp [intOf]; omega
  ·obtain rfl : k = l.length := by omega
   go_wp2
   go_ret
   exact ⟨rfl, by simpa using R, T, hz, bel⟩
structure qz75 (B : Nat) (w : World) (cb : Nat) (s g n r : Value) (A : Ar) : Prop where
 row : w.rangeAt cb 0 [.int .i64 Q6e, s, g, n, r]
 blk : cb < B
 s : qzs B w s Q6o (qze intC A.slots)
 g : qzs B w g Q6p (qze intC A.guides)
 n : qz9i B w n ndC A.nodes
 r : qz9i B w r vrC A.vers
theorem qz75.below {B : Nat} {w w' : World} {cb : Nat} {s g n r : Value} {A : Ar} (h : qz75 B w cb s g n r A) (hb : Below B w w') : qz75 B w' cb s g n r A :=
 ⟨qz0 h.row hb h.blk, h.blk, h.s.below hb, h.g.below hb, h.n.below hb, h.r.below hb⟩
theorem qzdl (B : Nat) (cb : Nat) (s g n r : Value) (A : Ar) (w : World) (hB : B <= Q67) (hA : A.size <= 1048576) (C : qz75 B w cb s g n r A) :
  Calls Try.prog 34 #[.pointer (some ⟨cb, 0, none⟩)] w fun e w' => ∃ s' g' n' r' b0 b1 b2 b3, e = .returned (.agg #[.int .i64 Q6e, s', g', n', r']) /\ qz40 Q67 w' s' g' n' r' A b0 b1 b2 b3 /\ Below Q67 w w' := by
 unfold Ar.size at hA
 have hne : cb ≠ Q67 := by have := C.blk; omega
 have hne' : Q67 ≠ cb := hne.symm
 have K0 : Below Q67 w (w.alloc (Obj.cells Q0d 30)) := (Q6c _ _).alloc (Q6f _) _
 have Z0 : (w.alloc (Obj.cells Q0d 30)).rangeAt Q67 0 Q44 := qz7 w Q44 30
 have F0 : (w.alloc (Obj.cells Q0d 30)).there Q67 0 5 := qzf w Q0d 30 5 (by decide)
 have hz0 : Q67 < (w.alloc (Obj.cells Q0d 30)).heap.size := by simp
 have tk0 : True := trivial
 go_enter Try.func34, Try.ntmps34
 go_wp2
 generalize w.alloc (Obj.cells Q0d 30) = w0 at K0 Z0 F0 hz0 ⊢
 obtain ⟨x0, x1, x2, x3, x4⟩ := row5 (C.below (K0.mono hB)).row
 go_region_held3 (fun w' => w'.cell? ⟨cb, 0, none⟩ = some (.int .i64 Q6e) /\ w'.cell? ⟨cb, 1, none⟩ = some s /\ w'.cell? ⟨cb, 2, none⟩ = some g /\ w'.cell? ⟨cb, 3, none⟩ = some n /\ w'.cell? ⟨cb, 4, none⟩ = some r) (go_keep) (first
  | (clear tk0; go_at_call 67; refine (qz8h B s A.slots _ (by exact (Q6s hB K0.size)) (by omega) (by exact (C.below ((K0.drew).mono hB)).s)).mono ?_; rintro e w1 ⟨rfl, R1, T1, z1, b1⟩; have tk1 : True := trivial; have L1 : Below Q6n w0 w1 := (by exact ⟨b1.os, b1.tape, b1.output, b1.size, b1.block⟩); have K1 : Below Q67 w w1 := (by exact K0.trans (L1.mono (by exact K0.size))); have Z1 := qz0 Z0 L1 hz0; have F1 := qz5 F0 L1 hz0; have hz1 := Q6l hz0 L1.size; obtain ⟨y0, y1, y2, y3, y4⟩ := row5 (C.below (K1.mono hB)).row)
  | (clear tk1; go_at_call 67; refine (qz8h B g A.guides _ (by exact (Q6s hB K1.size)) (by omega) (by exact (C.below (K1.mono hB)).g)).mono ?_; rintro e w2 ⟨rfl, R2, T2, z2, b2⟩; have tk2 : True := trivial; have K2 : Below Q67 w w2 := (by exact K1.trans (b2.mono (by exact K1.size))); have Z2 := qz0 Z1 b2 hz1; have F2 := qz5 F1 b2 hz1; have hz2 := Q6l hz1 b2.size; obtain ⟨y0, y1, y2, y3, y4⟩ := row5 (C.below (K2.mono hB)).row)
  | (clear tk2; go_at_call 68; refine (qz62 B n A.nodes _ (by exact (Q6s hB K2.size)) (by omega) (by exact (C.below (K2.mono hB)).n)).mono ?_; rintro e w3 ⟨rfl, R3, T3, z3, b3⟩; have tk3 : True := trivial; have K3 : Below Q67 w w3 := (by exact K2.trans (b3.mono (by exact K2.size))); have Z3 := qz0 Z2 b3 hz2; have F3 := qz5 F2 b3 hz2; have hz3 := Q6l hz2 b3.size; obtain ⟨y0, y1, y2, y3, y4⟩ := row5 (C.below (K3.mono hB)).row)
  | (clear tk3; go_at_call 69; refine (qz6m B r A.vers _ (by exact (Q6s hB K3.size)) (by omega) (by exact (C.below (K3.mono hB)).r)).mono ?_; rintro e w4 ⟨rfl, R4, T4, z4, b4⟩; have tk4 : True := trivial; have K4 : Below Q67 w w4 := (by exact K3.trans (b4.mono (by exact K3.size))); have Z4 := qz0 Z3 b4 hz3; have F4 := qz5 F3 b4 hz3; have hz4 := Q6l hz3 b4.size; obtain ⟨y0, y1, y2, y3, y4⟩ := row5 (C.below (K4.mono hB)).row; obtain ⟨u0, u1, u2, u3, u4⟩ := row5 Z4; have v0 : w4.frozen? ⟨Q67, 0, none⟩ = false := (by have := (F4 0 (by omega)).2; simpa using this); have v1 : w4.frozen? ⟨Q67, 1, none⟩ = false := (by have := (F4 1 (by omega)).2; simpa using this); have v2 : w4.frozen? ⟨Q67, 2, none⟩ = false := (by have := (F4 2 (by omega)).2; simpa using this); have v3 : w4.frozen? ⟨Q67, 3, none⟩ = false := (by have := (F4 3 (by omega)).2; simpa using this); have v4 : w4.frozen? ⟨Q67, 4, none⟩ = false := (by have := (F4 4 (by omega)).2; simpa using this)))
 obtain ⟨vs, hvs⟩ : ∃ vs : List Value, vs = Q3g := ⟨_, rfl⟩
 have hW : ((((w4.setCell ⟨Q67, 0, none⟩ (.int .i64 Q6e)).setCell ⟨Q67, 1, none⟩ (.slice (some ⟨Q6n, 0, none⟩) Q6o Q6o)).setCell ⟨Q67, 2, none⟩ (.slice (some ⟨Q6j, 0, none⟩) Q6p Q6p)).setCell ⟨Q67, 3, none⟩ (.slice (some ⟨Q6v, 0, none⟩) Q69 Q69)).setCell ⟨Q67, 4, none⟩ (.slice (some ⟨w3.heap.size, 0, none⟩) Q6a Q6a) = w4.setCells Q67 0 vs := by rw [hvs]; rfl
 rw [hW]
 have e0 : w0.drew.heap.size = Q6n := rfl
 rw [e0] at R1 T1 z1
 have k1 := K1.size
 have k2 := b2.size
 have k3 := b3.size
 have k4 := b4.size
 have l1 := L1.size
 have RR : (Q5w).rangeAt Q67 0 vs := Q6d _ _ _ _ (by rw [hvs]; exact F4)
 have N0 : qz39 Q67 Q5w (.slice (some ⟨Q6n, 0, none⟩) Q6o Q6o) Q6o 1 (qze intC A.slots) Q6n :=
  ⟨_, _, 0, rfl, Or.inr ⟨rfl, by omega, by rw [qzr]; omega, World.rangeAt_setCells_apart (qz0 (qz0 (qz0 R1 b2 (by omega)) b3 (by omega)) b4 (by omega)) _ _ _ (Or.inl (by omega)), by rw [Nat.mul_one]; exact World.there_setCells (qz5 (qz5 (qz5 T1 b2 (by omega)) b3 (by omega)) b4 (by omega)) _ _ _⟩⟩
 have N1 : qz39 Q67 Q5w (.slice (some ⟨Q6j, 0, none⟩) Q6p Q6p) Q6p 1 (qze intC A.guides) Q6j :=
  ⟨_, _, 0, rfl, Or.inr ⟨rfl, by omega, by rw [qzr]; omega, World.rangeAt_setCells_apart (qz0 (qz0 R2 b3 (by omega)) b4 (by omega)) _ _ _ (Or.inl (by omega)), by rw [Nat.mul_one]; exact World.there_setCells (qz5 (qz5 T2 b3 (by omega)) b4 (by omega)) _ _ _⟩⟩
 have N2 : qz39 Q67 Q5w (.slice (some ⟨Q6v, 0, none⟩) Q69 Q69) Q69 3 (qze ndC A.nodes) Q6v :=
  ⟨_, _, 0, rfl, Or.inr ⟨rfl, by omega, by rw [qzr]; omega, World.rangeAt_setCells_apart (qz0 R3 b4 (by omega)) _ _ _ (Or.inl (by omega)), World.there_setCells (qz5 T3 b4 (by omega)) _ _ _⟩⟩
 have N3 : qz39 Q67 Q5w (.slice (some ⟨w3.heap.size, 0, none⟩) Q6a Q6a) Q6a 5 (qze vrC A.vers) w3.heap.size :=
  ⟨_, _, 0, rfl, Or.inr ⟨rfl, by omega, by rw [qzr]; omega, World.rangeAt_setCells_apart R4 _ _ _ (Or.inl (by omega)), World.there_setCells T4 _ _ _⟩⟩
 have KF := Below.setCells (Q6f Q67) vs 0 _ K4
 clear hW R1 R2 R3 R4 T1 T2 T3 T4 u0 u1 u2 u3 u4 v0 v1 v2 v3 v4 F0 F1 F2 F3 F4 Z0 Z1 Z2 Z3 Z4
 go_wp2
 refine bodyPost_ret (v := .agg #[.int .i64 Q6e, .slice (some ⟨Q6n, 0, none⟩) Q6o Q6o, .slice (some ⟨Q6j, 0, none⟩) Q6p Q6p, .slice (some ⟨Q6v, 0, none⟩) Q69 Q69, .slice (some ⟨w3.heap.size, 0, none⟩) Q6a Q6a]) ?_ rfl ⟨_, _, _, _, _, _, _, _, rfl, ⟨N0, N1, N2, N3, by omega, by omega, by omega, by omega, by omega, by omega⟩, KF⟩
 subst hvs
 exact qz3 Try.results34 _ _ Q67 0 rfl Q3g _ RR Try.underlying30 rfl qz1p
end
end Go.Proofs.Ythjkdnlmopafkaa
