/-
  What the law's proof goes by, part 42.
-/
import Derived.WalkKit
import Derived.LaidEql
import Derived.Stop.Asserts
import Derived.RowKitTokens
import Derived.LaidLaws
import Derived.LaidHandle
import Derived.Laws.CopyOwn
import Derived.Laws.IdiomCopy
import Derived.Laws.MakeOwn
import Derived.Test.YthjkdnlmopafkaaGreatDoorFnSwappedCard00
import Derived.Test.YthjkdnlmopafkaaGreatDoorFnSwappedCard01
import Derived.Test.YthjkdnlmopafkaaGreatDoorFnSwappedCard03
namespace Go.Proofs.YthjkdnlmopafkaaGreatDoor
open Go.ChangeShapes Go.WideShapes Go.ChangeAt Go.RowKit
set_option maxRecDepth 100000
set_option maxHeartbeats 16000000
set_option linter.unusedVariables false
set_option linter.unusedSimpArgs false
set_option linter.unnecessarySimpa false
set_option linter.unusedSectionVars false
section
open Go.ChangeShapes Go.WideShapes Go.ChangeAt Go.RowKit Go.Extern.Stop Go.Stop Go.Extern
theorem qzdj (v : Value) (w : World) : (Extern.ReflectliteType.typeOf #[.iface 217 v]).run Tryz.prog w = .ok (.iface 195 (.agg #[.pointer (some ⟨4, 217, none⟩)])) w := by kernel_rfl
theorem qz6z (w : World) : ((Extern.ReflectliteType.method fun t => do Extern.Rtype.noPackHeld "Comparable" t; (fun a => Value.bool a.comparable) <$> typeInfo t) #[.agg #[.pointer (some ⟨4, 217, none⟩)]]).run Tryz.prog w = .ok (.bool true) w := by kernel_rfl
theorem qz4h (v : Value) (w : World) : (Go.method 351 195 v "Comparable").run Tryz.prog w = .ok (189, v) w := by kernel_rfl
theorem qzgm : (Tryz.prog.info? 217).map (·.comparable) = some true := by kernel_rfl
theorem qzgg : (Tryz.prog.info? 239).map (·.size) = some 1 := by kernel_rfl
theorem qzhy (v : Value) (xT : TypeId) (w : World) : (Instr.typeAssert (.iface 217 v) xT 207 true).run Tryz.prog w = .ok (.tuple #[.nilIface, .bool false]) w := run_typeAssert_lacksB Tryz.underlying207 (by kernel_rfl) (by kernel_rfl) v xT w
theorem qzer (v : Value) (xT : TypeId) (w : World) : (Instr.typeAssert (.iface 217 v) xT 202 true).run Tryz.prog w = .ok (.tuple #[.nilIface, .bool false]) w := run_typeAssert_lacksB Tryz.underlying202 (by kernel_rfl) (by kernel_rfl) v xT w
theorem qzd6 (v : Value) (xT : TypeId) (w : World) : (Instr.typeAssert (.iface 217 v) xT 204 true).run Tryz.prog w = .ok (.tuple #[.nilIface, .bool false]) w := run_typeAssert_lacksB Tryz.underlying204 (by kernel_rfl) (by kernel_rfl) v xT w
theorem qzht (v : Value) (xT : TypeId) (w : World) : (Instr.typeAssert (.iface 134 v) xT 207 true).run Tryz.prog w = .ok (.tuple #[.nilIface, .bool false]) w := run_typeAssert_lacksB Tryz.underlying207 (by kernel_rfl) (by kernel_rfl) v xT w
theorem qz9t (v : Value) (xT : TypeId) (w : World) : (Instr.typeAssert (.iface 134 v) xT 202 true).run Tryz.prog w = .ok (.tuple #[.iface 134 v, .bool true]) w := run_typeAssert_hasB Tryz.underlying202 (by kernel_rfl) v xT w
theorem qz64 (v : Value) (w : World) : (Go.method 351 134 v "Unwrap").run Tryz.prog w = .ok (182, v) w := by kernel_rfl
def qzc2 (w : World) (a : Addr) : Prop := ∃ ca ta, w.heap[a.block]? = some (.cells ca ta (0, 0))
theorem qzc2.lt {w : World} {a : Addr} (h : qzc2 w a) : a.block < Q6o := by
 obtain ⟨ca, ta, h⟩ := h
 rcases Nat.lt_or_ge a.block Q6o with h1 | h1
 ·exact h1
 ·rw [Array.getElem?_eq_none h1] at h; cases h
theorem qzc2.below {w w' : World} {a : Addr} {B : Nat} (h : qzc2 w a) (hb : Below B w w') (hl : a.block < B) : qzc2 w' a := by
 obtain ⟨ca, ta, h⟩ := h
 exact ⟨ca, ta, (hb.block a.block hl).trans h⟩
theorem qze9 (b : Addr) (w : World) :
  Calls Tryz.prog 79 #[.nilIface, .iface 217 (.pointer (some b))] w fun e w' => e = .returned (.bool false) /\ w' = w := by
 have hn := run_eql_iface_nil_left (P := Tryz.prog) w 217 (.pointer (some b)) Tryz.underlying83
 go_enter Tryz.func79, Tryz.ntmps79
 go_wp2
 go_ret
 exact ⟨rfl, rfl⟩
theorem qzdm (a : Addr) (w : World) :
  Calls Tryz.prog 79 #[.iface 134 (.agg Q3a), .iface 217 (.pointer (some a))] w fun e w' => e = .returned (.bool true) /\ Below Q6o w w' := by
 obtain ⟨i, hi, hcmp⟩ := Option.map_eq_some_iff.1 qzgm
 obtain ⟨j, hj, hjs⟩ := Option.map_eq_some_iff.1 qzgg
 have h8 := @run_callFunc_extern Tryz.prog 121 _ Extern.ReflectliteType.typeOf Tryz.func121 (by kernel_rfl) (by kernel_rfl) (by kernel_rfl) (by kernel_rfl)
 have h32 := @run_callFunc_extern Tryz.prog 189 _ (Extern.ReflectliteType.method fun t => do Extern.Rtype.noPackHeld "Comparable" t; pure (.bool (<- typeInfo t).comparable)) Tryz.func189 (by kernel_rfl) (by kernel_rfl) (by kernel_rfl) (by kernel_rfl)
 have tT := qzdj
 have cT := qz6z
 have mR := qz4h
 have nU := qzht
 have uU := qz9t
 have mU := qz64
 have heq := fun w : World => run_eql_iface_ptr_same (P := Tryz.prog) w a Tryz.underlying83 Tryz.underlying217 hi hcmp hj
 have hty := run_eql_iface_types (P := Tryz.prog) 134 217 (.agg Q3a) (.pointer (some a)) Tryz.underlying83 (by decide) w
 go_enter Tryz.func79, Tryz.ntmps79
 go_wp2
 refine wp_loop_rounds 2 ?_
 rw [rounds_succ]
 go_wp2
 rw [rounds_succ]
 go_wp2
 go_ret
 exact ⟨rfl, (Q6s Q6o w).alloc (Q6v _) _⟩
theorem qz7s (a b : Addr) (w : World) (hne : a ≠ b) (ha0 : qzc2 w a) (hb0 : qzc2 w b) :
  Calls Tryz.prog 79 #[.iface 134 (.agg Q3a), .iface 217 (.pointer (some b))] w fun e w' => e = .returned (.bool false) /\ Below Q6o w w' := by
 obtain ⟨i, hi, hcmp⟩ := Option.map_eq_some_iff.1 qzgm
 obtain ⟨j, hj, hjs⟩ := Option.map_eq_some_iff.1 qzgg
 have h8 := @run_callFunc_extern Tryz.prog 121 _ Extern.ReflectliteType.typeOf Tryz.func121 (by kernel_rfl) (by kernel_rfl) (by kernel_rfl) (by kernel_rfl)
 have h32 := @run_callFunc_extern Tryz.prog 189 _ (Extern.ReflectliteType.method fun t => do Extern.Rtype.noPackHeld "Comparable" t; pure (.bool (<- typeInfo t).comparable)) Tryz.func189 (by kernel_rfl) (by kernel_rfl) (by kernel_rfl) (by kernel_rfl)
 have tT := qzdj
 have cT := qz6z
 have mR := qz4h
 have nE := qzhy
 have uE := qzer
 have vE := qzd6
 have nU := qzht
 have uU := qz9t
 have mU := qz64
 have K := (Q6s Q6o w).alloc (Q6v _) (.cells Q3a 134)
 obtain ⟨ca, ta, ha⟩ := ha0.below K ha0.lt
 obtain ⟨cb, tb, hb⟩ := hb0.below K hb0.lt
 have heq := run_eql_iface_ptr_other (P := Tryz.prog) _ Tryz.underlying83 Tryz.underlying217 hi hcmp hj (by rw [hjs]; decide) hne ha hb
 have hty := run_eql_iface_types (P := Tryz.prog) 134 217 (.agg Q3a) (.pointer (some b)) Tryz.underlying83 (by decide) w
 clear ha hb
 go_enter Tryz.func79, Tryz.ntmps79
 go_wp2
 refine wp_loop_rounds 2 ?_
 rw [rounds_succ]
 go_wp2
 rw [rounds_succ]
 go_wp2
 go_ret
 exact ⟨rfl, K⟩
end
section
structure Errs (base : Nat) (w : World) (eN eF eU : Addr) : Prop where
 gN : w.cell? ⟨0, 0, none⟩ = some (.iface 217 (.pointer (some eN)))
 gF : w.cell? ⟨1, 0, none⟩ = some (.iface 217 (.pointer (some eF)))
 gU : w.cell? ⟨2, 0, none⟩ = some (.iface 217 (.pointer (some eU)))
 lN : 0 < base
 lF : 1 < base
 lU : 2 < base
 bN : eN.block < base
 bF : eF.block < base
 bU : eU.block < base
 aN : qzc2 w eN
 aF : qzc2 w eF
 aU : qzc2 w eU
 nNF : eN ≠ eF
 nUF : eU ≠ eF
theorem Errs.below {base : Nat} {w w' : World} {eN eF eU : Addr} (E : Errs base w eN eF eU) (hb : Below base w w') : Errs base w' eN eF eU := by
 have c : ∀ g, g < base -> w'.cell? ⟨g, 0, none⟩ = w.cell? ⟨g, 0, none⟩ := fun g hg => World.cell?_of_block (w := w) (hb.block g hg)
 exact ⟨(c _ E.lN).trans E.gN, (c _ E.lF).trans E.gF, (c _ E.lU).trans E.gU, E.lN, E.lF, E.lU, E.bN, E.bF, E.bU, E.aN.below hb E.bN, E.aF.below hb E.bF, E.aU.below hb E.bU, E.nNF, E.nUF⟩
theorem Errs.raise {base base' : Nat} {w : World} {eN eF eU : Addr} (E : Errs base w eN eF eU) (hb : base <= base') : Errs base' w eN eF eU :=
 ⟨E.gN, E.gF, E.gU, Q72 E.lN hb, Q72 E.lF hb, Q72 E.lU hb, Q72 E.bN hb, Q72 E.bF hb, Q72 E.bU hb, E.aN, E.aF, E.aU, E.nNF, E.nUF⟩
def errV (eN eF eU : Addr) : Nat -> Value
 | 0 => .iface 134 (.agg #[.iface 217 (.pointer (some eN))])
 | 1 => .iface 134 (.agg #[.iface 217 (.pointer (some eF))])
 | 2 => .iface 134 (.agg #[.iface 217 (.pointer (some eU))])
 | _ => .nilIface
theorem qz5c {base : Nat} {eN eF eU : Addr} (c : Nat) (hc : c < 4) (w : World) (E : Errs base w eN eF eU) :
  Calls Tryz.prog 79 #[errV eN eF eU c, .iface 217 (.pointer (some eF))] w fun e w' => e = .returned (.bool (c == 1)) /\ Below Q6o w w' := by
 match c, hc with
 | 0, _ => exact qz7s eN eF w E.nNF E.aN E.aF
 | 1, _ => exact qzdm eF w
 | 2, _ => exact qz7s eU eF w E.nUF E.aU E.aF
 | 3, _ => exact (qze9 eF w).mono (fun e w' h => by obtain ⟨rfl, rfl⟩ := h; exact ⟨rfl, Q6s _ _⟩)
 | n + 4, h => omega
theorem qz7b {P : Program} {n0 n1 n2 nm : String} {text0 text1 text2 : List UInt8} {r : List (String × DataW Unit)} {W : World} {g0 g1 g2 : Nat} {ti tp te ts : TypeId} {ms : Array (String × TypeId)} {f : Field}
  (h : laidMet P ((n0, .iface nm (.ptr (.agg [.lit (.string text0)]))) :: (n1, .iface nm (.ptr (.agg [.lit (.string text1)]))) :: (n2, .iface nm (.ptr (.agg [.lit (.string text2)]))) :: r) W)
  (hg0 : P.globalNamed n0 = some g0) (ht0 : (P.globals[g0]?).map (·.type) = some ti) (hg1 : P.globalNamed n1 = some g1) (ht1 : (P.globals[g1]?).map (·.type) = some ti) (hg2 : P.globalNamed n2 = some g2) (ht2 : (P.globals[g2]?).map (·.type) = some ti)
  (hi : P.underlying ti = some (.interface ms)) (hrow : ∀ u, P.typeName? 3 u = some nm -> u = tp)
  (hp : P.underlying tp = some (.pointer te)) (he : P.underlying te = some (.struct #[f])) (hft : f.type = ts) (hfo : f.offset = 0) (hs : P.underlying ts = some .string) (hc : P.cellsOf te = 1) (hcs : P.cellsOf ts = 1) :
  ∃ (a0 a1 a2 : Addr), W.cell? ⟨g0, 0, none⟩ = some (.iface tp (.pointer (some a0))) /\ W.cell? ⟨g1, 0, none⟩ = some (.iface tp (.pointer (some a1))) /\ W.cell? ⟨g2, 0, none⟩ = some (.iface tp (.pointer (some a2))) /\
   qzc2 W a0 /\ qzc2 W a1 /\ qzc2 W a2 /\ a0 ≠ a1 /\ a0 ≠ a2 /\ a1 ≠ a2 := by
 obtain ⟨ps, ⟨g0', t0', cs0, f0, p0, q0, hg0', ht0', hv0, hd0, ⟨g1', t1', cs1, f1, p1, q1, hg1', ht1', hv1, hd1, ⟨g2', t2', cs2, f2, p2, q2, hg2', ht2', hv2, hd2, _, e2⟩, e1⟩, e0⟩, hnd, hrows⟩ := h
 obtain rfl := Q6p (hg0.symm.trans hg0')
 obtain rfl := Q6p (hg1.symm.trans hg1')
 obtain rfl := Q6p (hg2.symm.trans hg2')
 obtain rfl := Q6p (ht0.symm.trans ht0')
 obtain rfl := Q6p (ht1.symm.trans ht1')
 obtain rfl := Q6p (ht2.symm.trans ht2')
 subst e2
 subst e1
 subst e0
 obtain ⟨l0⟩ := cs0
 obtain ⟨l1⟩ := cs1
 obtain ⟨l2⟩ := cs2
 have ok0 : ∀ u v, l0 = [.iface u v] -> Value.okWide P W .any 0 u v := fun u v e => by
  subst e
  exact (hrows g0 0 (by simp [MemPlace.row])).2 u v (by simpa using World.var?_cell hg0' hv0 0)
 have ok1 : ∀ u v, l1 = [.iface u v] -> Value.okWide P W .any 0 u v := fun u v e => by
  subst e
  exact (hrows g1 0 (by simp [MemPlace.row])).2 u v (by simpa using World.var?_cell hg1' hv1 0)
 have ok2 : ∀ u v, l2 = [.iface u v] -> Value.okWide P W .any 0 u v := fun u v e => by
  subst e
  exact (hrows g2 0 (by simp [MemPlace.row])).2 u v (by simpa using World.var?_cell hg2' hv2 0)
 obtain ⟨a0, s0, rfl, hc0, hs0, hz0, rfl⟩ := errorString_of_trod hi hrow hp he hft hfo hs hc hcs hd0 ok0
 obtain ⟨a1, s1, rfl, hc1, hs1, hz1, rfl⟩ := errorString_of_trod hi hrow hp he hft hfo hs hc hcs hd1 ok1
 obtain ⟨a2, s2, rfl, hc2, hs2, hz2, rfl⟩ := errorString_of_trod hi hrow hp he hft hfo hs hc hcs hd2 ok2
 refine ⟨a0, a1, a2, by simpa using World.var?_cell hg0' hv0 0, by simpa using World.var?_cell hg1' hv1 0, by simpa using World.var?_cell hg2' hv2 0,
  (hrows a0.block a0.off (by simp [MemPlace.row])).1, (hrows a1.block a1.off (by simp [MemPlace.row])).1, (hrows a2.block a2.off (by simp [MemPlace.row])).1, ?_, ?_, ?_⟩
 ·rintro rfl; simp [MemPlace.row] at hnd
 ·rintro rfl; simp [MemPlace.row] at hnd
 ·rintro rfl; simp [MemPlace.row] at hnd
def qza8 (P : Program) (ns : List String) : Bool := ns.all fun n => match P.globalNamed n with
 | some g => match (P.globals[g]?).map (·.type) with
  | some t => match P.underlying t with
   | some (.interface _) => true
   | _ => false
  | none => false
 | none => false
theorem qz81 {H : Type} {enc : TypeId × Value -> H} {P : Program} {W : World} {sp : Nat -> Bool} : ∀ (ns : List String) (gs : List (DataW H)) (q : List MemPlace), DataW.TrodVars enc P W sp ns gs q -> gs.length = ns.length
 | [], [], _, _ => rfl
 | [], _ :: _, _, h => h.elim
 | _ :: _, [], _, h => h.elim
 | n :: ns, d :: gs, q, h => by
  obtain ⟨_, _, _, _, _, q', _, _, _, _, hr, _⟩ := h
  simp [qz81 ns gs q' hr]
theorem qzd8 {H : Type} {enc : TypeId × Value -> H} {P : Program} {W : World} {sp : Nat -> Bool} {n0 n1 n2 : String} {gs : List (DataW H)} {q : List MemPlace} (h : DataW.TrodVars enc P W sp [n0, n1, n2] gs q) : ∃ g0 g1 g2, gs = [g0, g1, g2] := by
 have hl := qz81 _ _ _ h
 match gs, hl with
 | [g0, g1, g2], _ => exact ⟨_, _, _, rfl⟩
theorem qzb6 {H : Type} {enc : TypeId × Value -> H} {P : Program} {W W' : World} {B : Nat} (hb : Below B W W') : ∀ (ns : List String) (gs : List (DataW H)) (q : List MemPlace), (∀ x ∈ q, x.block < B) ->
  qza8 P ns = true -> ∀ sp sp', DataW.TrodVars enc P W sp ns gs q -> DataW.TrodVars enc P W' sp' ns gs q
 | [], [], _, _, _, _, _, h => h
 | [], _ :: _, _, _, _, _, _, h => h
 | _ :: _, [], _, _, _, _, _, h => h
 | n :: ns, d :: gs, q, hq, hi, sp, sp', h => by
  obtain ⟨g, t, cs, fuel, p, q', hg, ht, hv, hd, hr, rfl⟩ := h
  simp only [qza8, List.all_cons, Bool.and_eq_true] at hi
  obtain ⟨hi1, hi2⟩ := hi
  rw [hg] at hi1
  simp only [ht] at hi1
  split at hi1
  ·rename_i ms hu
   obtain ⟨v, hcs, hif, hy⟩ := held_of_trod_list hu hd
   have hcs1 : cs = #[v] := by
    obtain ⟨l⟩ := cs
    simp only at hcs
    rw [hcs]
   subst hcs1
   refine ⟨g, t, #[v], 1, p, q', hg, ht, ?_, ?_, qzb6 hb ns gs q' (fun x hx => hq x (by simp [hx])) hi2 sp sp' hr, rfl⟩
   ·have hlt : g < B := hq (.cell g 0) (by simp [MemPlace.row])
    unfold World.var? at hv ⊢
    rw [hg] at hv ⊢
    simp only [Option.bind_some] at hv ⊢
    rw [hb.block g hlt]
    exact hv
   ·rw [hy]
    exact trod_held hu hif 0
  ·cases hi1
end
section
attribute [local go_sem ↓] Go.wp_at_zero Go.wp_at_succ
structure Ptrs {α : Type} (B : Nat) (w : World) (f : α -> List Value) (ps : List Addr) (l : List α) : Prop where
 len : ps.length = l.length
 at' : ∀ i (h : i < l.length), ∃ b o, ps[i]? = some ⟨b, o, none⟩ /\ b < B /\ w.rangeAt b o (f l[i])
def ptrC (p : Addr) : List Value := [.pointer (some p)]
def qzao {α : Type} (B : Nat) (w : World) (v : Value) (f : α -> List Value) (l : List α) : Prop :=
 ∃ ps, qzu B w v l.length (qz8 ptrC ps) /\ Ptrs B w f ps l
theorem Ptrs.below {α : Type} {B : Nat} {w w' : World} {f : α -> List Value} {ps : List Addr} {l : List α} (h : Ptrs B w f ps l) (hb : Below B w w') : Ptrs B w' f ps l :=
 ⟨h.len, fun i hi => by obtain ⟨b, o, h1, h2, h3⟩ := h.at' i hi; exact ⟨b, o, h1, h2, qz0 h3 hb h2⟩⟩
theorem qzao.below {α : Type} {B : Nat} {w w' : World} {v : Value} {f : α -> List Value} {l : List α} (h : qzao B w v f l) (hb : Below B w w') : qzao B w' v f l := by
 obtain ⟨ps, h1, h2⟩ := h
 exact ⟨ps, h1.below hb, h2.below hb⟩
structure qz9o (B : Nat) (w : World) (cb : Nat) (s g n r : Value) (A : Ar) : Prop where
 row : w.rangeAt cb 0 Q2t
 blk : cb < B
 s : qzu B w s Q74 (qz8 intC A.slots)
 g : qzu B w g Q75 (qz8 intC A.guides)
 n : qzao B w n ndC A.nodes
 r : qzao B w r vrC A.vers
theorem qz9o.below {B : Nat} {w w' : World} {cb : Nat} {s g n r : Value} {A : Ar} (h : qz9o B w cb s g n r A) (hb : Below B w w') : qz9o B w' cb s g n r A :=
 ⟨qz0 h.row hb h.blk, h.blk, h.s.below hb, h.g.below hb, h.n.below hb, h.r.below hb⟩
end
section
def Blk (w : World) (b : Nat) (t : TypeId) (n : Nat) : Prop := ∃ cur, w.heap[b]? = some (.cells cur t (0, 0)) /\ cur.size = n
theorem Blk.lt {w : World} {b : Nat} {t : TypeId} {n : Nat} (h : Blk w b t n) : b < Q6o := by
 obtain ⟨cur, h, -⟩ := h
 rcases Nat.lt_or_ge b Q6o with hl | hl
 ·exact hl
 ·rw [Array.getElem?_eq_none hl] at h; cases h
theorem Blk.ne {w : World} {a b : Nat} {t u : TypeId} {n m : Nat} (h1 : Blk w a t n) (h2 : Blk w b u m) (h : t ≠ u) : a ≠ b := by
 intro e
 subst e
 obtain ⟨c, h1, -⟩ := h1
 obtain ⟨d, h2, -⟩ := h2
 rw [h1] at h2
 injection h2 with h2
 injection h2 with _ h3 _
 exact h h3
theorem Blk.below {w w' : World} {B b : Nat} {t : TypeId} {n : Nat} (h : Blk w b t n) (hb : Below B w w') (hB : b < B) : Blk w' b t n := by
 obtain ⟨cur, h, hs⟩ := h
 exact ⟨cur, (hb.block b hB).trans h, hs⟩
theorem Blk.grown {w w' : World} {b : Nat} {t : TypeId} {n : Nat} (h : Blk w b t n) (hb : Below Q6o w w') : Blk w' b t n := h.below hb h.lt
theorem Blk.but {S : Nat -> Prop} {w w' : World} {b : Nat} {t : TypeId} {n : Nat} (h : Blk w b t n) (O : But S w w') (hS : ¬ S b) : Blk w' b t n := by
 have hl := h.lt
 obtain ⟨cur, h, hs⟩ := h
 exact ⟨cur, (O.block b hl hS).trans h, hs⟩
theorem Blk.new (w : World) (cs : Array Value) (t : TypeId) : Blk (w.alloc (.cells cs t)) Q6o t cs.size := ⟨cs, by show (w.heap.push _)[Q6o]? = some _; simp, rfl⟩
theorem Blk.setCell {w : World} {b : Nat} {t : TypeId} {n : Nat} (h : Blk w b t n) (a : Addr) (v : Value) : Blk (w.setCell a v) b t n := by
 obtain ⟨cur, h, hs⟩ := h
 by_cases e : a.block = b
 ·refine ⟨if a.spot.isSome then cur else cur.setIfInBounds a.off v, ?_, ?_⟩
  ·simp only [World.setCell, Array.getElem?_modify, e, if_true, h, Option.map_some]
  ·split
   ·exact hs
   ·simpa using hs
 ·exact ⟨cur, (Below.heap_setCell _ _ _ _ (fun h' => e h'.symm)).trans h, hs⟩
theorem Blk.setCells {t : TypeId} {b n c : Nat} : ∀ (vs : List Value) (o : Nat) (w : World), Blk w b t n -> Blk (w.setCells c o vs) b t n
 | [], _, _, h => h
 | v :: vs, o, w, h => Blk.setCells vs (o + 1) (w.setCell ⟨c, o, none⟩ v) (h.setCell _ v)
theorem Blk.there {w : World} {b : Nat} {t : TypeId} {n : Nat} (h : Blk w b t n) (o k : Nat) (hk : o + k <= n) : w.there b o k := by
 obtain ⟨cur, h, hs⟩ := h
 intro j hj
 refine ⟨?_, by simp [World.frozen?, h]⟩
 rw [show w.cell? ⟨b, o + j, none⟩ = cur[o + j]? by simp [World.cell?, h]]
 rw [Array.getElem?_eq_getElem (by omega)]
 rfl
theorem Blk.own {w : World} {base b : Nat} {t : TypeId} {n : Nat} {cs : List Value} (h : Blk w b t n) (R : w.rangeAt b 0 cs) (hl : cs.length = n) (hb : base <= b) (hm : n <= maxLen) : w.ownsRow base t 1 (.slice (some ⟨b, 0, none⟩) n n) n cs := by
 obtain ⟨cur, h, hs⟩ := h
 refine ⟨by omega, Or.inr ⟨b, n, cur, rfl, hb, h, Q6v _, hm, by omega, ?_⟩⟩
 apply List.ext_getElem?
 intro j
 rcases Nat.lt_or_ge j n with hj | hj
 ·have := R j cs[j] (by rw [List.getElem?_eq_getElem])
  rw [Nat.zero_add, show w.cell? ⟨b, j, none⟩ = cur[j]? by simp [World.cell?, h]] at this
  rw [List.getElem?_take, if_pos (by omega), Array.getElem?_toList, this, List.getElem?_eq_getElem]
 ·rw [List.getElem?_eq_none (by simp; omega), List.getElem?_eq_none (by omega)]
theorem qzbe {w : World} {base : Nat} {e : TypeId} {size n : Nat} {a : Option Addr} {cap : Nat} {xs : List Value} (h : w.ownsRow base e size (.slice a n cap) n xs) (hp : 0 < n) : ∃ g, a = some ⟨g, 0, none⟩ /\ base <= g /\ Blk w g e (cap * size) /\ n <= cap /\ w.rangeAt g 0 xs := by
 rcases h.2 with ⟨h1, h2⟩ | ⟨g, c, cur, h1, hg, hh, hnc, _, hs, ht⟩
 ·omega
 ·injection h1 with h1 h2 h3
  subst h1 h3
  refine ⟨g, rfl, hg, ⟨cur, hh, hs⟩, hnc, ?_⟩
  intro j v hj
  rw [Nat.zero_add, show w.cell? ⟨g, j, none⟩ = cur[j]? by simp [World.cell?, hh]]
  rw [<- ht, List.getElem?_take] at hj
  split at hj
  ·rwa [Array.getElem?_toList] at hj
  ·cases hj
structure qz31 {α : Type} (base : Nat) (t : TypeId) (sz : Nat) (w : World) (f : α -> List Value) (ps : List Addr) (l : List α) : Prop where
 len : ps.length = l.length
 at' : ∀ i (h : i < l.length), ∃ b o n, ps[i]? = some ⟨b, o, none⟩ /\ base <= b /\ Blk w b t n /\ o + sz <= n /\ w.rangeAt b o (f l[i])
 apart : ∀ (i j b o b' o' : Nat), i ≠ j -> ps[i]? = some ⟨b, o, none⟩ -> ps[j]? = some ⟨b', o', none⟩ -> b ≠ b' ∨ o + sz <= o' ∨ o' + sz <= o
theorem qz31.grown {α : Type} {base : Nat} {t : TypeId} {sz : Nat} {w w' : World} {f : α -> List Value} {ps : List Addr} {l : List α} (h : qz31 base t sz w f ps l) (hb : Below Q6o w w') : qz31 base t sz w' f ps l :=
 ⟨h.len, fun i hi => by obtain ⟨b, o, n, h1, h2, h3, h4, h5⟩ := h.at' i hi; exact ⟨b, o, n, h1, h2, h3.grown hb, h4, qz0 h5 hb h3.lt⟩, h.apart⟩
theorem qz31.but {α : Type} {base : Nat} {t : TypeId} {sz : Nat} {S : Nat -> Prop} {w w' : World} {f : α -> List Value} {ps : List Addr} {l : List α} (h : qz31 base t sz w f ps l) (O : But S w w') (hS : ∀ b n, base <= b -> Blk w b t n -> ¬ S b) : qz31 base t sz w' f ps l :=
 ⟨h.len, fun i hi => by obtain ⟨b, o, n, h1, h2, h3, h4, h5⟩ := h.at' i hi; exact ⟨b, o, n, h1, h2, h3.but O (hS b n h2 h3), h4, O.range h5 h3.lt (hS b n h2 h3)⟩, h.apart⟩
theorem qz31.lo {α : Type} {base lo : Nat} {t : TypeId} {sz : Nat} {w : World} {f : α -> List Value} {ps : List Addr} {l : List α} (h : qz31 base t sz w f ps l) (hl : lo <= base) : qz31 lo t sz w f ps l :=
 ⟨h.len, fun i hi => by obtain ⟨b, o, n, h1, h2, h3⟩ := h.at' i hi; exact ⟨b, o, n, h1, Q77 hl h2, h3⟩, h.apart⟩
theorem qz31.ptrs {α : Type} {base : Nat} {t : TypeId} {sz : Nat} {w : World} {f : α -> List Value} {ps : List Addr} {l : List α} (h : qz31 base t sz w f ps l) : Ptrs Q6o w f ps l :=
 ⟨h.len, fun i hi => by obtain ⟨b, o, n, h1, h2, h3, h4, h5⟩ := h.at' i hi; exact ⟨b, o, h1, h3.lt, h5⟩⟩
theorem qz31.set {α : Type} {base : Nat} {t : TypeId} {sz : Nat} {w : World} {f : α -> List Value} {ps : List Addr} {l : List α} (hf : ∀ x, (f x).length = sz) (h : qz31 base t sz w f ps l) (i : Nat) (hi : i < l.length) (b o : Nat) (hp : ps[i]? = some ⟨b, o, none⟩) (k : Nat) (hk : k < sz) (v : Value) (x : α) (hx : (f l[i]).set k v = f x) : qz31 base t sz (w.setCell ⟨b, o + k, none⟩ v) f ps (l.set i x) := by
 refine ⟨by rw [h.len, List.length_set], fun j hj => ?_, h.apart⟩
 rw [List.length_set] at hj
 obtain ⟨b', o', n, h1, h2, h3, h4, h5⟩ := h.at' j hj
 refine ⟨b', o', n, h1, h2, h3.setCell _ _, h4, ?_⟩
 by_cases e : i = j
 ·subst e
  rw [hp] at h1
  injection h1 with h1
  injection h1 with h1 h1'
  subst h1 h1'
  rw [List.getElem_set_self, <- hx]
  intro m u hm
  by_cases em : k = m
  ·subst em
   rw [List.getElem?_set_self (by rw [hf]; exact hk)] at hm
   cases hm
   have hkl : k < (f l[i]).length := by rw [hf]; exact hk
   have hc := h5 k (f l[i])[k] (List.getElem?_eq_getElem hkl)
   exact World.cell?_setCell_same _ _ _ hc
  ·rw [List.getElem?_set_ne em] at hm
   refine (World.cell?_setCell_other _ _ _ _ ?_).trans (h5 m u hm)
   intro e'
   have := congrArg Addr.off e'
   simp at this
   omega
 ·rw [List.getElem_set_ne e]
  intro m u hm
  have hml : m < sz := by
   rcases Nat.lt_or_ge m (f l[j]).length with hl | hl
   ·rwa [hf] at hl
   ·rw [List.getElem?_eq_none hl] at hm; cases hm
  refine (World.cell?_setCell_other _ _ _ _ ?_).trans (h5 m u hm)
  intro e'
  have e1 := congrArg Addr.block e'
  have e2 := congrArg Addr.off e'
  simp at e1 e2
  rcases h.apart i j b o b' o' e hp h1 with h6 | h6 | h6
  ·exact h6 e1
  ·omega
  ·omega
theorem qz31.snoc {α : Type} {base : Nat} {t : TypeId} {sz : Nat} {w : World} {f : α -> List Value} {ps : List Addr} {l : List α} (hf : ∀ x, (f x).length = sz) (h : qz31 base t sz w f ps l) (x : α) (b : Nat) (hb : base <= b) (hB : Blk w b t sz) (R : w.rangeAt b 0 (f x)) (hn : ∀ (i c o : Nat), ps[i]? = some ⟨c, o, none⟩ -> c ≠ b) : qz31 base t sz w f (ps ++ [⟨b, 0, none⟩]) (l ++ [x]) := by
 refine ⟨by simp [h.len], fun i hi => ?_, ?_⟩
 ·by_cases e : i < l.length
  ·obtain ⟨b', o', n, h1, h2, h3, h4, h5⟩ := h.at' i e
   refine ⟨b', o', n, ?_, h2, h3, h4, ?_⟩
   ·rw [List.getElem?_append_left (by rw [h.len]; exact e)]
    exact h1
   ·rw [List.getElem_append_left e]
    exact h5
  ·have : i = l.length := by simp at hi; omega
   subst this
   refine ⟨b, 0, sz, ?_, hb, hB, by omega, ?_⟩
   ·rw [List.getElem?_append_right (by rw [h.len]; omega), h.len]
    simp
   ·simpa using R
 ·have key : ∀ (i c o : Nat), (ps ++ [⟨b, 0, none⟩])[i]? = some ⟨c, o, none⟩ -> (i < ps.length /\ ps[i]? = some ⟨c, o, none⟩ /\ c ≠ b) ∨ (i = ps.length /\ c = b /\ o = 0) := by
   intro i c o hi
   rcases Nat.lt_or_ge i ps.length with hl | hl
   ·rw [List.getElem?_append_left hl] at hi
    exact Or.inl ⟨hl, hi, hn i c o hi⟩
   ·rw [List.getElem?_append_right hl] at hi
    have h0 : i - ps.length = 0 := by
     rcases Nat.eq_zero_or_pos (i - ps.length) with h0 | h0
     ·exact h0
     ·rw [List.getElem?_eq_none (by simp; omega)] at hi; cases hi
    rw [h0] at hi
    simp at hi
    exact Or.inr ⟨by omega, hi.1.symm, hi.2.symm⟩
  intro i j b1 o1 b2 o2 hij h1 h2
  rcases key i b1 o1 h1 with ⟨k1, k2, k3⟩ | ⟨k1, k2, k3⟩
  ·rcases key j b2 o2 h2 with ⟨m1, m2, m3⟩ | ⟨m1, m2, m3⟩
   ·exact h.apart i j b1 o1 b2 o2 hij k2 m2
   ·exact Or.inl (by rw [m2]; exact k3)
  ·rcases key j b2 o2 h2 with ⟨m1, m2, m3⟩ | ⟨m1, m2, m3⟩
   ·exact Or.inl (by rw [k2]; exact Ne.symm m3)
   ·omega
def qz3i (b sz n : Nat) : List Addr := (List.range n).map fun i => ⟨b, i * sz, none⟩
theorem qz3d (b sz n : Nat) : (qz3i b sz n).length = n := by simp [qz3i]
theorem qz74 (b sz n i : Nat) (hi : i < n) : (qz3i b sz n)[i]? = some ⟨b, i * sz, none⟩ := by simp [qz3i, hi]
theorem qz6i (b sz n : Nat) : qz3i b sz (n + 1) = qz3i b sz n ++ [⟨b, n * sz, none⟩] := by simp [qz3i, List.range_succ]
theorem qz7y {α : Type} {base : Nat} {t : TypeId} {sz : Nat} {w : World} {f : α -> List Value} {b : Nat} {l : List α} (hf : ∀ x, (f x).length = sz) (hb : base <= b) (hB : Blk w b t (l.length * sz)) (R : w.rangeAt b 0 (qz8 f l)) : qz31 base t sz w f (qz3i b sz l.length) l := by
 refine ⟨qz3d _ _ _, fun i hi => ⟨b, i * sz, l.length * sz, qz74 b sz l.length i hi, hb, hB, ?_, ?_⟩, ?_⟩
 ·rw [<- Nat.succ_mul]; exact Nat.mul_le_mul_right _ hi
 ·simpa using qzi hf R i hi
 ·intro i j b1 o1 b2 o2 hij h1 h2
  have k1 : i < l.length := by
   rcases Nat.lt_or_ge i l.length with hl | hl
   ·exact hl
   ·rw [List.getElem?_eq_none (by rw [qz3d]; exact hl)] at h1; cases h1
  have k2 : j < l.length := by
   rcases Nat.lt_or_ge j l.length with hl | hl
   ·exact hl
   ·rw [List.getElem?_eq_none (by rw [qz3d]; exact hl)] at h2; cases h2
  rw [qz74 b sz l.length i k1] at h1
  rw [qz74 b sz l.length j k2] at h2
  injection h1 with h1
  injection h1 with h3 h4
  injection h2 with h2
  injection h2 with h5 h6
  subst h4 h6
  refine Or.inr ?_
  rcases Nat.lt_or_ge i j with h | h
  ·exact Or.inl (by rw [<- Nat.succ_mul]; exact Nat.mul_le_mul_right _ h)
  ·exact Or.inr (by rw [<- Nat.succ_mul]; exact Nat.mul_le_mul_right _ (by omega))
theorem qz8r {P : Program} (w : World) (dT sT ty elem : TypeId) (b n dCap sCap sz : Nat) (a : Option Addr) (cs : List Value)
  (hu : P.underlying dT = some (.slice elem)) (hs : (P.info? elem).map (·.size) = some sz) (hn : cs.length = n * sz)
  (hsrc : 0 < n -> ∃ ad, a = some ad /\ ∀ j v, cs[j]? = some v -> w.cell? (ad.add j) = some v) (hc : w.there b 0 (n * sz)) (h1 : ∀ v ∈ cs, v.oneCell' = true) :
  (Builtin.copy_ #[dT, sT] ty #[.slice (some ⟨b, 0, none⟩) n dCap, .slice a n sCap]).run P w = .ok (goInt n) (w.setCells b 0 cs) := by
 cases hq : P.info? elem with
 | none => simp [hq] at hs
 | some i =>
  have hi : i.size = sz := by simpa [hq] using hs
  rcases Nat.eq_zero_or_pos n with h0 | h0
  ·subst h0
   have e0 : cs = [] := List.eq_nil_of_length_eq_zero (by simpa using hn)
   subst e0
   have hl : ∀ (x : Addr), (loadCells x 0).run P w = .ok #[] w := fun x => by simpa using run_loadCells_list (P := P) w x [] (by simp)
   cases a <;> simp [Builtin.copy_, run_underlying hu, Builtin.lenOf, Builtin.firstCells, sizeOf, typeInfo, hq, storeCells, hl, World.setCells]
  ·obtain ⟨ad, rfl, hsr⟩ := hsrc h0
   have hl := run_loadCells_list (P := P) w ad cs hsr
   have hst := run_storeCells_cells (P := P) b 0 cs 0 w (fun j hj => by have := (hc j (by omega)).1; simpa using this) (fun j hj => by have := (hc j (by omega)).2; simpa using this) h1
   rw [hn] at hl
   simp [Builtin.copy_, run_underlying hu, Builtin.lenOf, Builtin.firstCells, sizeOf, typeInfo, hq, hi, hl, hst]
theorem qz3x {P : Program} {w : World} {ops : Array Oper} {rest : List Oper} {o : Oper} {a : Act} {Q : Exit -> Act -> World -> Prop} (hgd : o.guard = none) (d s : Operand) (dT sT : TypeId)
  (ho : o.op = .call { callee := .builtin .copy, args := #[d, s], argTypes := #[dT, sT] }) (elem : TypeId) (hu : P.underlying dT = some (.slice elem)) (sz : Nat) (hsz : (P.info? elem).map (·.size) = some sz)
  (sp : Option Addr) (b n dCap sCap : Nat) (hd : a.eval d = .slice (some ⟨b, 0, none⟩) n dCap) (hs : a.eval s = .slice sp n sCap)
  (cs : List Value) (hn : cs.length = n * sz) (hsrc : 0 < n -> ∃ ad, sp = some ad /\ ∀ j v, cs[j]? = some v -> w.cell? (ad.add j) = some v) (hc : w.there b 0 (n * sz)) (h1 : ∀ v ∈ cs, v.oneCell' = true)
  (h : wpList P ops Q rest (a.put o.dst (goInt n)) (w.setCells b 0 cs)) : wpList P ops Q (o :: rest) a w := by
 refine wpList_plain hgd fun K hK => ?_
 have hrun := qz8r (P := P) w dT sT o.type elem b n dCap sCap sz sp cs hu hsz hn hsrc hc h1
 unfold Oper.wp
 simp [execOp, ho, resolve, invoke, builtin, hd, hs, hrun, Result.andThen]
 exact hK _ _ h
end
end Go.Proofs.YthjkdnlmopafkaaGreatDoor
