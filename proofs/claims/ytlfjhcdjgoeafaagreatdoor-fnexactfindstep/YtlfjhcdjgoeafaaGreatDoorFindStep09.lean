/-
  What the law's proof goes by, part 10.
-/
import Derived.WalkKit
import Derived.LaidEql
import Derived.Stop.Asserts
import Derived.RowKitTokens
import Derived.LaidLaws
import Derived.LaidHandle
import Derived.Deep.OwnRows
import Derived.Deep.AppendSrc
import Derived.Maps.AppendAt
import Derived.Test.YtlfjhcdjgoeafaaGreatDoorFindStep00
import Derived.Test.YtlfjhcdjgoeafaaGreatDoorFindStep01
import Derived.Test.YtlfjhcdjgoeafaaGreatDoorFindStep05
import Derived.Test.YtlfjhcdjgoeafaaGreatDoorFindStep06
import Derived.Test.YtlfjhcdjgoeafaaGreatDoorFindStep07
import Derived.Test.YtlfjhcdjgoeafaaGreatDoorFindStep08
namespace Go.Proofs.YtlfjhcdjgoeafaaGreatDoor
open Go.ChangeShapes Go.WideShapes Go.ChangeAt Go.RowKit
set_option linter.unusedVariables false
set_option linter.unusedSimpArgs false
set_option linter.unnecessarySimpa false
set_option linter.unusedSectionVars false
section
open Go.ChangeShapes Go.WideShapes Go.ChangeAt Go.RowKit Go.Extern.Stop Go.Stop Go.Extern
theorem isTypeOf (v : Value) (w : World) : (Extern.ReflectliteType.typeOf #[.iface 147 v]).run Tryz.prog w = .ok (.iface 137 (.agg #[.pointer (some ⟨3, 147, none⟩)])) w := by kernel_rfl
theorem isComparable (w : World) : ((Extern.ReflectliteType.method fun t => do Extern.Rtype.noPackHeld "Comparable" t; (fun a => Value.bool a.comparable) <$> typeInfo t) #[.agg #[.pointer (some ⟨3, 147, none⟩)]]).run Tryz.prog w = .ok (.bool true) w := by kernel_rfl
theorem isMethodComparable (v : Value) (w : World) : (Go.method 285 137 v "Comparable").run Tryz.prog w = .ok (131, v) w := by kernel_rfl
theorem isComp : (Tryz.prog.info? 147).map (·.comparable) = some true := by kernel_rfl
theorem isSize : (Tryz.prog.info? 173).map (·.size) = some 1 := by kernel_rfl
theorem noIsE (v : Value) (xT : TypeId) (w : World) : (Instr.typeAssert (.iface 147 v) xT 139 true).run Tryz.prog w = .ok (.tuple #[.nilIface, .bool false]) w := run_typeAssert_lacksB Tryz.underlying139 (by kernel_rfl) (by kernel_rfl) v xT w
theorem noUnwrapE (v : Value) (xT : TypeId) (w : World) : (Instr.typeAssert (.iface 147 v) xT 142 true).run Tryz.prog w = .ok (.tuple #[.nilIface, .bool false]) w := run_typeAssert_lacksB Tryz.underlying142 (by kernel_rfl) (by kernel_rfl) v xT w
theorem noUnwrapsE (v : Value) (xT : TypeId) (w : World) : (Instr.typeAssert (.iface 147 v) xT 144 true).run Tryz.prog w = .ok (.tuple #[.nilIface, .bool false]) w := run_typeAssert_lacksB Tryz.underlying144 (by kernel_rfl) (by kernel_rfl) v xT w
theorem noIsU (v : Value) (xT : TypeId) (w : World) : (Instr.typeAssert (.iface 130 v) xT 139 true).run Tryz.prog w = .ok (.tuple #[.nilIface, .bool false]) w := run_typeAssert_lacksB Tryz.underlying139 (by kernel_rfl) (by kernel_rfl) v xT w
theorem hasUnwrapU (v : Value) (xT : TypeId) (w : World) : (Instr.typeAssert (.iface 130 v) xT 142 true).run Tryz.prog w = .ok (.tuple #[.iface 130 v, .bool true]) w := run_typeAssert_hasB Tryz.underlying142 (by kernel_rfl) v xT w
theorem methodUnwrapU (v : Value) (w : World) : (Go.method 285 130 v "Unwrap").run Tryz.prog w = .ok (127, v) w := by kernel_rfl
def ErrAt (w : World) (a : Addr) : Prop := ∃ ca ta, w.heap[a.block]? = some (.cells ca ta (0, 0))
theorem ErrAt.lt {w : World} {a : Addr} (h : ErrAt w a) : a.block < w.heap.size := by
 obtain ⟨ca, ta, h⟩ := h
 rcases Nat.lt_or_ge a.block w.heap.size with h1 | h1
 ·exact h1
 ·rw [Array.getElem?_eq_none h1] at h; cases h
theorem ErrAt.below {w w' : World} {a : Addr} {B : Nat} (h : ErrAt w a) (hb : Below B w w') (hl : a.block < B) : ErrAt w' a := by
 obtain ⟨ca, ta, h⟩ := h
 exact ⟨ca, ta, (hb.block a.block hl).trans h⟩
theorem isErr_nil (b : Addr) (w : World) :
  Calls Tryz.prog 103 #[.nilIface, .iface 147 (.pointer (some b))] w fun e w' => e = .returned (.bool false) ∧ w' = w := by
 have hn := run_eql_iface_nil_left (P := Tryz.prog) w 147 (.pointer (some b)) Tryz.underlying121
 go_enter Tryz.func103, Tryz.ntmps103
 go_wp2
 go_ret
 exact ⟨rfl, rfl⟩
set_option maxRecDepth 100000 in
set_option maxHeartbeats 2000000 in
theorem isErr_same (a : Addr) (w : World) :
  Calls Tryz.prog 103 #[.iface 130 (.agg #[.iface 147 (.pointer (some a))]), .iface 147 (.pointer (some a))] w fun e w' => e = .returned (.bool true) ∧ Below w.heap.size w w' := by
 obtain ⟨i, hi, hcmp⟩ := Option.map_eq_some_iff.1 isComp
 obtain ⟨j, hj, hjs⟩ := Option.map_eq_some_iff.1 isSize
 have h8 := @run_callFunc_extern Tryz.prog 106 _ Extern.ReflectliteType.typeOf Tryz.func106 (by kernel_rfl) (by kernel_rfl) (by kernel_rfl) (by kernel_rfl)
 have h32 := @run_callFunc_extern Tryz.prog 131 _ (Extern.ReflectliteType.method fun t => do Extern.Rtype.noPackHeld "Comparable" t; pure (.bool (← typeInfo t).comparable)) Tryz.func131 (by kernel_rfl) (by kernel_rfl) (by kernel_rfl) (by kernel_rfl)
 have tT := isTypeOf
 have cT := isComparable
 have mR := isMethodComparable
 have nU := noIsU
 have uU := hasUnwrapU
 have mU := methodUnwrapU
 have heq := fun w : World => run_eql_iface_ptr_same (P := Tryz.prog) w a Tryz.underlying121 Tryz.underlying147 hi hcmp hj
 have hty := run_eql_iface_types (P := Tryz.prog) 130 147 (.agg #[.iface 147 (.pointer (some a))]) (.pointer (some a)) Tryz.underlying121 (by decide) w
 go_enter Tryz.func103, Tryz.ntmps103
 go_wp2
 refine wp_loop_rounds 2 ?_
 rw [rounds_succ]
 go_wp2
 rw [rounds_succ]
 go_wp2
 go_ret
 exact ⟨rfl, (Below.refl w.heap.size w).alloc (Nat.le_refl _) _⟩
set_option maxRecDepth 100000 in
set_option maxHeartbeats 2000000 in
theorem isErr_other (a b : Addr) (w : World) (hne : a ≠ b) (ha0 : ErrAt w a) (hb0 : ErrAt w b) :
  Calls Tryz.prog 103 #[.iface 130 (.agg #[.iface 147 (.pointer (some a))]), .iface 147 (.pointer (some b))] w fun e w' => e = .returned (.bool false) ∧ Below w.heap.size w w' := by
 obtain ⟨i, hi, hcmp⟩ := Option.map_eq_some_iff.1 isComp
 obtain ⟨j, hj, hjs⟩ := Option.map_eq_some_iff.1 isSize
 have h8 := @run_callFunc_extern Tryz.prog 106 _ Extern.ReflectliteType.typeOf Tryz.func106 (by kernel_rfl) (by kernel_rfl) (by kernel_rfl) (by kernel_rfl)
 have h32 := @run_callFunc_extern Tryz.prog 131 _ (Extern.ReflectliteType.method fun t => do Extern.Rtype.noPackHeld "Comparable" t; pure (.bool (← typeInfo t).comparable)) Tryz.func131 (by kernel_rfl) (by kernel_rfl) (by kernel_rfl) (by kernel_rfl)
 have tT := isTypeOf
 have cT := isComparable
 have mR := isMethodComparable
 have nE := noIsE
 have uE := noUnwrapE
 have vE := noUnwrapsE
 have nU := noIsU
 have uU := hasUnwrapU
 have mU := methodUnwrapU
 have K := (Below.refl w.heap.size w).alloc (Nat.le_refl _) (.cells #[.iface 147 (.pointer (some a))] 130)
 obtain ⟨ca, ta, ha⟩ := ha0.below K ha0.lt
 obtain ⟨cb, tb, hb⟩ := hb0.below K hb0.lt
 have heq := run_eql_iface_ptr_other (P := Tryz.prog) _ Tryz.underlying121 Tryz.underlying147 hi hcmp hj (by rw [hjs]; decide) hne ha hb
 have hty := run_eql_iface_types (P := Tryz.prog) 130 147 (.agg #[.iface 147 (.pointer (some a))]) (.pointer (some b)) Tryz.underlying121 (by decide) w
 clear ha hb
 go_enter Tryz.func103, Tryz.ntmps103
 go_wp2
 refine wp_loop_rounds 2 ?_
 rw [rounds_succ]
 go_wp2
 rw [rounds_succ]
 go_wp2
 go_ret
 exact ⟨rfl, K⟩
end
section
structure Errs (base : Nat) (w : World) (eN eF eU : Addr) : Prop where
 gN : w.cell? ⟨0, 0, none⟩ = some (.iface 147 (.pointer (some eN)))
 gF : w.cell? ⟨1, 0, none⟩ = some (.iface 147 (.pointer (some eF)))
 gU : w.cell? ⟨2, 0, none⟩ = some (.iface 147 (.pointer (some eU)))
 lN : 0 < base
 lF : 1 < base
 lU : 2 < base
 bN : eN.block < base
 bF : eF.block < base
 bU : eU.block < base
 aN : ErrAt w eN
 aF : ErrAt w eF
 aU : ErrAt w eU
 nNF : eN ≠ eF
 nUF : eU ≠ eF
theorem Errs.below {base : Nat} {w w' : World} {eN eF eU : Addr} (E : Errs base w eN eF eU) (hb : Below base w w') : Errs base w' eN eF eU := by
 have c : ∀ g, g < base → w'.cell? ⟨g, 0, none⟩ = w.cell? ⟨g, 0, none⟩ := fun g hg => World.cell?_of_block (w := w) (hb.block g hg)
 exact ⟨(c _ E.lN).trans E.gN, (c _ E.lF).trans E.gF, (c _ E.lU).trans E.gU, E.lN, E.lF, E.lU, E.bN, E.bF, E.bU, E.aN.below hb E.bN, E.aF.below hb E.bF, E.aU.below hb E.bU, E.nNF, E.nUF⟩
theorem Errs.raise {base base' : Nat} {w : World} {eN eF eU : Addr} (E : Errs base w eN eF eU) (hb : base ≤ base') : Errs base' w eN eF eU :=
 ⟨E.gN, E.gF, E.gU, Nat.lt_of_lt_of_le E.lN hb, Nat.lt_of_lt_of_le E.lF hb, Nat.lt_of_lt_of_le E.lU hb, Nat.lt_of_lt_of_le E.bN hb, Nat.lt_of_lt_of_le E.bF hb, Nat.lt_of_lt_of_le E.bU hb, E.aN, E.aF, E.aU, E.nNF, E.nUF⟩
def errV (eN eF eU : Addr) : Nat → Value
 | 0 => .iface 130 (.agg #[.iface 147 (.pointer (some eN))])
 | 1 => .iface 130 (.agg #[.iface 147 (.pointer (some eF))])
 | 2 => .iface 130 (.agg #[.iface 147 (.pointer (some eU))])
 | _ => .nilIface
theorem isFaster_any {base : Nat} {eN eF eU : Addr} (c : Nat) (hc : c < 4) (w : World) (E : Errs base w eN eF eU) :
  Calls Tryz.prog 103 #[errV eN eF eU c, .iface 147 (.pointer (some eF))] w fun e w' => e = .returned (.bool (c == 1)) ∧ Below w.heap.size w w' := by
 match c, hc with
 | 0, _ => exact isErr_other eN eF w E.nNF E.aN E.aF
 | 1, _ => exact isErr_same eF w
 | 2, _ => exact isErr_other eU eF w E.nUF E.aU E.aF
 | 3, _ => exact (isErr_nil eF w).mono (fun e w' h => by obtain ⟨rfl, rfl⟩ := h; exact ⟨rfl, Below.refl _ _⟩)
 | n + 4, h => omega
theorem laid_sentinels3 {P : Program} {n0 n1 n2 nm : String} {text0 text1 text2 : List UInt8} {r : List (String × DataW Unit)} {W : World} {g0 g1 g2 : Nat} {ti tp te ts : TypeId} {ms : Array (String × TypeId)} {f : Field}
  (h : laidMet P ((n0, .iface nm (.ptr (.agg [.lit (.string text0)]))) :: (n1, .iface nm (.ptr (.agg [.lit (.string text1)]))) :: (n2, .iface nm (.ptr (.agg [.lit (.string text2)]))) :: r) W)
  (hg0 : P.globalNamed n0 = some g0) (ht0 : (P.globals[g0]?).map (·.type) = some ti) (hg1 : P.globalNamed n1 = some g1) (ht1 : (P.globals[g1]?).map (·.type) = some ti) (hg2 : P.globalNamed n2 = some g2) (ht2 : (P.globals[g2]?).map (·.type) = some ti)
  (hi : P.underlying ti = some (.interface ms)) (hrow : ∀ u, P.typeName? 3 u = some nm → u = tp)
  (hp : P.underlying tp = some (.pointer te)) (he : P.underlying te = some (.struct #[f])) (hft : f.type = ts) (hfo : f.offset = 0) (hs : P.underlying ts = some .string) (hc : P.cellsOf te = 1) (hcs : P.cellsOf ts = 1) :
  ∃ (a0 a1 a2 : Addr), W.cell? ⟨g0, 0, none⟩ = some (.iface tp (.pointer (some a0))) ∧ W.cell? ⟨g1, 0, none⟩ = some (.iface tp (.pointer (some a1))) ∧ W.cell? ⟨g2, 0, none⟩ = some (.iface tp (.pointer (some a2))) ∧
   ErrAt W a0 ∧ ErrAt W a1 ∧ ErrAt W a2 ∧ a0 ≠ a1 ∧ a0 ≠ a2 ∧ a1 ≠ a2 := by
 obtain ⟨ps, ⟨g0', t0', cs0, f0, p0, q0, hg0', ht0', hv0, hd0, ⟨g1', t1', cs1, f1, p1, q1, hg1', ht1', hv1, hd1, ⟨g2', t2', cs2, f2, p2, q2, hg2', ht2', hv2, hd2, _, e2⟩, e1⟩, e0⟩, hnd, hrows⟩ := h
 obtain rfl := Option.some.inj (hg0.symm.trans hg0')
 obtain rfl := Option.some.inj (hg1.symm.trans hg1')
 obtain rfl := Option.some.inj (hg2.symm.trans hg2')
 obtain rfl := Option.some.inj (ht0.symm.trans ht0')
 obtain rfl := Option.some.inj (ht1.symm.trans ht1')
 obtain rfl := Option.some.inj (ht2.symm.trans ht2')
 subst e2
 subst e1
 subst e0
 obtain ⟨l0⟩ := cs0
 obtain ⟨l1⟩ := cs1
 obtain ⟨l2⟩ := cs2
 have ok0 : ∀ u v, l0 = [.iface u v] → Value.okWide P W .any 0 u v := fun u v e => by
  subst e
  exact (hrows g0 0 (by simp [MemPlace.row])).2 u v (by simpa using World.var?_cell hg0' hv0 0)
 have ok1 : ∀ u v, l1 = [.iface u v] → Value.okWide P W .any 0 u v := fun u v e => by
  subst e
  exact (hrows g1 0 (by simp [MemPlace.row])).2 u v (by simpa using World.var?_cell hg1' hv1 0)
 have ok2 : ∀ u v, l2 = [.iface u v] → Value.okWide P W .any 0 u v := fun u v e => by
  subst e
  exact (hrows g2 0 (by simp [MemPlace.row])).2 u v (by simpa using World.var?_cell hg2' hv2 0)
 obtain ⟨a0, s0, rfl, hc0, hs0, hz0, rfl⟩ := errorString_of_trod hi hrow hp he hft hfo hs hc hcs hd0 ok0
 obtain ⟨a1, s1, rfl, hc1, hs1, hz1, rfl⟩ := errorString_of_trod hi hrow hp he hft hfo hs hc hcs hd1 ok1
 obtain ⟨a2, s2, rfl, hc2, hs2, hz2, rfl⟩ := errorString_of_trod hi hrow hp he hft hfo hs hc hcs hd2 ok2
 refine ⟨a0, a1, a2, by simpa using World.var?_cell hg0' hv0 0, by simpa using World.var?_cell hg1' hv1 0, by simpa using World.var?_cell hg2' hv2 0,
  (hrows a0.block a0.off (by simp [MemPlace.row])).1, (hrows a1.block a1.off (by simp [MemPlace.row])).1, (hrows a2.block a2.off (by simp [MemPlace.row])).1, ?_, ?_, ?_⟩
 ·rintro rfl; simp [MemPlace.row] at hnd
 ·rintro rfl; simp [MemPlace.row] at hnd
 ·rintro rfl; simp [MemPlace.row] at hnd
def ifaceVarsB (P : Program) (ns : List String) : Bool := ns.all fun n => match P.globalNamed n with
 | some g => match (P.globals[g]?).map (·.type) with
  | some t => match P.underlying t with
   | some (.interface _) => true
   | _ => false
  | none => false
 | none => false
theorem vars_length {H : Type} {enc : TypeId × Value → H} {P : Program} {W : World} {sp : Nat → Bool} : ∀ (ns : List String) (gs : List (DataW H)) (q : List MemPlace), DataW.TrodVars enc P W sp ns gs q → gs.length = ns.length
 | [], [], _, _ => rfl
 | [], _ :: _, _, h => h.elim
 | _ :: _, [], _, h => h.elim
 | n :: ns, d :: gs, q, h => by
  obtain ⟨_, _, _, _, _, q', _, _, _, _, hr, _⟩ := h
  simp [vars_length ns gs q' hr]
theorem vars_three {H : Type} {enc : TypeId × Value → H} {P : Program} {W : World} {sp : Nat → Bool} {n0 n1 n2 : String} {gs : List (DataW H)} {q : List MemPlace} (h : DataW.TrodVars enc P W sp [n0, n1, n2] gs q) : ∃ g0 g1 g2, gs = [g0, g1, g2] := by
 have hl := vars_length _ _ _ h
 match gs, hl with
 | [g0, g1, g2], _ => exact ⟨_, _, _, rfl⟩
theorem vars_kept {H : Type} {enc : TypeId × Value → H} {P : Program} {W W' : World} {B : Nat} (hb : Below B W W') : ∀ (ns : List String) (gs : List (DataW H)) (q : List MemPlace), (∀ x ∈ q, x.block < B) →
  ifaceVarsB P ns = true → ∀ sp sp', DataW.TrodVars enc P W sp ns gs q → DataW.TrodVars enc P W' sp' ns gs q
 | [], [], _, _, _, _, _, h => h
 | [], _ :: _, _, _, _, _, _, h => h
 | _ :: _, [], _, _, _, _, _, h => h
 | n :: ns, d :: gs, q, hq, hi, sp, sp', h => by
  obtain ⟨g, t, cs, fuel, p, q', hg, ht, hv, hd, hr, rfl⟩ := h
  simp only [ifaceVarsB, List.all_cons, Bool.and_eq_true] at hi
  obtain ⟨hi1, hi2⟩ := hi
  rw [hg] at hi1
  simp only [ht] at hi1
  split at hi1
  ·rename_i ms hu
   obtain ⟨v, hcs, hif, hy⟩ := held_of_trod_list hu hd
   have hcs1 : cs = #[v] := by
    obtain ⟨l⟩ := cs
    simp only at hcs
    rw [hcs]
   subst hcs1
   refine ⟨g, t, #[v], 1, p, q', hg, ht, ?_, ?_, vars_kept hb ns gs q' (fun x hx => hq x (by simp [hx])) hi2 sp sp' hr, rfl⟩
   ·have hlt : g < B := hq (.cell g 0) (by simp [MemPlace.row])
    unfold World.var? at hv ⊢
    rw [hg] at hv ⊢
    simp only [Option.bind_some] at hv ⊢
    rw [hb.block g hlt]
    exact hv
   ·rw [hy]
    exact trod_held hu hif 0
  ·cases hi1
end
section
theorem infoInt : (Tryz.prog.info? 2).map (fun i => (i.zero, i.size, i.bytes)) = some (some (.int .i64 0), 1, 8) := by kernel_rfl
theorem infoArena : (Tryz.prog.info? 35).map (fun i => i.size) = some 5 := by kernel_rfl
theorem own_ge {w : World} {base : Nat} {e : TypeId} {size : Nat} {v : Value} {n : Nat} {xs : List Value} (h : w.ownsRow base e size v n xs) {j : Nat} (hj : v.ownBlock = some j) : base ≤ j := by
 rcases h.2 with ⟨rfl, _⟩ | ⟨g, cap, cur, rfl, hg, _⟩
 ·simp [Value.ownBlock] at hj
 ·simp [Value.ownBlock] at hj
  omega
theorem own_slice {w : World} {base : Nat} {e : TypeId} {size : Nat} {v : Value} {n : Nat} {xs : List Value} (h : w.ownsRow base e size v n xs) (hn : 0 < n) : ∃ g cap, v = .slice (some ⟨g, 0, none⟩) n cap := by
 rcases h.2 with ⟨rfl, h0⟩ | ⟨g, cap, cur, rfl, _⟩
 ·omega
 ·exact ⟨g, cap, rfl⟩
end
section
theorem own_new {w : World} {base : Nat} {e : TypeId} {sz : Nat} {v : Value} {n : Nat} {xs : List Value} (h : w.ownsRow base e sz v n xs) : ∃ b, NewList base w v n sz xs b := by
 rcases h.2 with ⟨rfl, rfl⟩ | ⟨g, cap, cur, rfl, hg, hh, hnc, _, hs, ht⟩
 ·exact ⟨0, _, _, 0, rfl, Or.inl rfl⟩
 ·have hlt : g < w.heap.size := by
   rcases Nat.lt_or_ge g w.heap.size with hl | hl
   ·exact hl
   ·rw [Array.getElem?_eq_none hl] at hh; cases hh
  have hm : n * sz ≤ cur.size := by rw [hs]; exact Nat.mul_le_mul_right _ hnc
  refine ⟨g, _, _, 0, rfl, Or.inr ⟨rfl, hg, hlt, ?_, ?_⟩⟩
  ·have R := World.rangeAt_of_block hh 0 (n * sz)
   have e1 : (cur.extract 0 (0 + n * sz)).toList = xs := by rw [← ht]; simp
   rw [e1] at R
   exact R
  ·intro j hj
   refine ⟨?_, ?_⟩
   ·simp only [World.cell?, hh]
    simp
    omega
   ·simp [World.frozen?, hh]
theorem own_below {w w' : World} {base B : Nat} {e : TypeId} {sz : Nat} {v : Value} {n : Nat} {xs : List Value} (h : w.ownsRow base e sz v n xs) (hb : Below B w w') (hv : ∀ j, v.ownBlock = some j → j < B) : w'.ownsRow base e sz v n xs := by
 refine ⟨h.1, ?_⟩
 rcases h.2 with h0 | ⟨g, cap, cur, rfl, hg, hh, rest⟩
 ·exact Or.inl h0
 ·exact Or.inr ⟨g, cap, cur, rfl, hg, (hb.block g (hv g rfl)).trans hh, rest⟩
theorem own_lt {w : World} {base : Nat} {e : TypeId} {sz : Nat} {v : Value} {n : Nat} {xs : List Value} (h : w.ownsRow base e sz v n xs) {j : Nat} (hj : v.ownBlock = some j) : j < w.heap.size := by
 rcases h.2 with ⟨rfl, _⟩ | ⟨g, cap, cur, rfl, hg, hh, _⟩
 ·simp [Value.ownBlock] at hj
 ·simp [Value.ownBlock] at hj
  subst hj
  rcases Nat.lt_or_ge g w.heap.size with hl | hl
  ·exact hl
  ·rw [Array.getElem?_eq_none hl] at hh; cases hh
theorem own_is {w : World} {base : Nat} {e : TypeId} {sz : Nat} {v : Value} {n : Nat} {xs : List Value} (h : w.ownsRow base e sz v n xs) : ∃ a cap, v = .slice a n cap := by
 rcases h.2 with ⟨rfl, rfl⟩ | ⟨g, cap, cur, rfl, _⟩
 ·exact ⟨_, _, rfl⟩
 ·exact ⟨_, _, rfl⟩
end
section
attribute [local go_sem ↓] Go.wp_at_zero Go.wp_at_succ
theorem run_append_copy {P : Program} (w : World) (base : Nat) (t ty e : TypeId) (i : TypeInfo) (z : Value) (size bytes : Nat) (ht : P.underlying t = some (.slice e)) (hi : P.info? e = some i) (hz : i.zero = some z)
  (hsize : i.size = size) (hby : i.bytes = bytes) (hzs : z.cells.size = size) (hsz : 0 < size) (g : Nat) (hown : w.ownsRow base e size (.slice (some ⟨g, 0, none⟩) 0 0) 0 [])
  (B : Nat) (x : Value) (len : Nat) (cs : List Value) (S : SliceAt B w x len cs) (hl : cs.length = len * size) (h1 : ∀ u ∈ cs, u.oneCell' = true) (h63 : len ≤ maxLen) (hbytes : len * bytes ≤ 140737488355328) (hbase : base ≤ w.heap.size) :
  ∃ v' w', (Builtin.append_ #[t, t] ty #[.slice (some ⟨g, 0, none⟩) 0 0, x]).run P w = .ok v' w' ∧ w'.ownsRow base e size v' len cs ∧ w.grownBy w' (some g) ∧ (v'.ownBlock = some g ∨ v'.ownBlock = some w.heap.size) := by
 obtain ⟨a, cap, rfl, hS⟩ := S
 cases a with
 | none =>
  have h0 : len = 0 := by
   rcases hS with h | ⟨bb, off, h, _⟩
   ·exact h
   ·cases h
  subst h0
  have hc : cs = [] := List.eq_nil_of_length_eq_zero (by simpa using hl)
  subst hc
  have hr := run_append_room_src (P := P) w t t ty e i ht hi g 0 0 0 (.slice none 0 cap) 0 [] (Src.ofNil w ht cap) (by omega) (by simp) (by simp)
  refine ⟨_, _, hr, hown, ⟨rfl, rfl, rfl, Nat.le_refl _, fun _ _ _ => rfl⟩, Or.inl rfl⟩
 | some ad =>
  have hnews : ∀ j u, cs[j]? = some u → w.cell? (ad.add j) = some u := by
   intro j u hj
   rcases hS with h | ⟨bb, off, h, _, R⟩
   ·subst h
    have hc : cs = [] := List.eq_nil_of_length_eq_zero (by simpa using hl)
    subst hc
    cases hj
   ·cases h
    have := R j u hj
    simpa [Addr.add_lit] using this
  obtain ⟨v', w', hr, h2, h3, _, h5⟩ := run_append_own_at (P := P) w base t ty e i z size bytes ht hi hz hsize hby hzs hsz _ 0 [] hown ad len cap cs hl hnews h1 (by simpa using h63) (by simpa using hbytes) hbase
  exact ⟨v', w', hr, by simpa using h2, h3, h5⟩
theorem run_copy_new {P : Program} (w : World) (base : Nat) (t ty e : TypeId) (i : TypeInfo) (z : Value) (size bytes : Nat) (ht : P.underlying t = some (.slice e)) (hi : P.info? e = some i) (hz : i.zero = some z)
  (hsize : i.size = size) (hby : i.bytes = bytes) (hzs : z.cells.size = size) (hsz : 0 < size) (g : Nat)
  (B : Nat) (x : Value) (len : Nat) (cs : List Value) (S : SliceAt B w x len cs) (hp : 0 < len) (hl : cs.length = len * size) (h1 : ∀ u ∈ cs, u.oneCell' = true) (h63 : len ≤ maxLen) (hbytes : len * bytes ≤ 140737488355328) (hbase : base ≤ w.heap.size) :
  ∃ cap w', (Builtin.append_ #[t, t] ty #[.slice (some ⟨g, 0, none⟩) 0 0, x]).run P w = .ok (.slice (some ⟨w.heap.size, 0, none⟩) len cap) w' ∧ w'.ownsRow base e size (.slice (some ⟨w.heap.size, 0, none⟩) len cap) len cs ∧ Below w.heap.size w w' ∧ w.heap.size < w'.heap.size := by
 subst hsize
 subst hby
 obtain ⟨a, c, rfl, hS⟩ := S
 obtain ⟨bb, off, rfl, _, R⟩ : ∃ bb off, a = some ⟨bb, off, none⟩ ∧ bb < B ∧ w.rangeAt bb off cs := by
  rcases hS with h | h
  ·omega
  ·exact h
 have hnews : ∀ j u, cs[j]? = some u → w.cell? ((⟨bb, off, none⟩ : Addr).add j) = some u := fun j u hj => by
  have := R j u hj
  simpa [Addr.add_lit] using this
 have hsmall : len ≤ 9223372036854775807 := by simp only [maxLen] at h63; omega
 have hr := run_append_grow (P := P) w t ty e i z ht hi hz ⟨g, 0, none⟩ 0 0 [] (by simp) (fun j u h => by cases h) ⟨bb, off, none⟩ len c cs hl hnews (by omega) (by omega) (growslice_fits (by omega) (by simpa using hbytes))
 simp only [Nat.zero_add] at hr
 have hge := grownCap_ge w len 0 e
 have hcm : grownCap w len 0 e ≤ maxLen := grownCap_le_maxLen w len 0 e h63
 refine ⟨_, _, hr, ⟨hl, .inr ⟨w.heap.size, _, _, rfl, hbase, heap_alloc_new w.drew _, hge, hcm, ?_, ?_⟩⟩, ⟨rfl, rfl, rfl, by simp, fun k hk => Below.heap_alloc w.drew _ k hk⟩, by simp⟩
 ·simp only [Array.size_append, List.size_toArray, size_zeroCells, hzs, hl, ← Nat.add_mul, List.length_nil, Nat.zero_add]
  congr 1
  omega
 ·simp only [Array.toList_append, List.append_assoc]
  rw [← hl]
  simp
theorem wpList_append_copy {P : Program} {ops : Array Oper} {rest : List Oper} {o : Oper} {a : Act} {w : World} {Q : Exit → Act → World → Prop} (hgd : o.guard = none) (s x : Operand) (t : TypeId)
  (ho : o.op = .call { callee := .builtin .append, args := #[s, x], argTypes := #[t, t] }) (base : Nat) (e : TypeId) (i : TypeInfo) (z : Value) (size bytes : Nat) (ht : P.underlying t = some (.slice e)) (hi : P.info? e = some i) (hz : i.zero = some z)
  (hsize : i.size = size) (hby : i.bytes = bytes) (hzs : z.cells.size = size) (hsz : 0 < size) (g : Nat) (hs : a.eval s = .slice (some ⟨g, 0, none⟩) 0 0) (hown : w.ownsRow base e size (.slice (some ⟨g, 0, none⟩) 0 0) 0 [])
  (B : Nat) (X : Value) (hx : a.eval x = X) (len : Nat) (cs : List Value) (S : SliceAt B w X len cs) (hl : cs.length = len * size) (h1 : ∀ u ∈ cs, u.oneCell' = true) (h63 : len ≤ maxLen) (hbytes : len * bytes ≤ 140737488355328) (hbase : base ≤ w.heap.size)
  (h : ∀ v' w', w'.ownsRow base e size v' len cs → w.grownBy w' (some g) → (v'.ownBlock = some g ∨ v'.ownBlock = some w.heap.size) → wpList P ops Q rest (a.put o.dst v') w') : wpList P ops Q (o :: rest) a w := by
 refine wpList_plain hgd fun K hK => ?_
 obtain ⟨v', w', hr, h2, h3, h5⟩ := run_append_copy (P := P) w base t o.type e i z size bytes ht hi hz hsize hby hzs hsz g hown B X len cs S hl h1 h63 hbytes hbase
 unfold Oper.wp
 simp [execOp, ho, resolve, invoke, builtin, hs, hx, hr, Result.andThen, Oper.upon]
 exact hK _ _ (h v' w' h2 h3 h5)
theorem cellsOf_one {α : Type} {f : α → List Value} (hf : ∀ x, ∀ u ∈ f x, u.oneCell' = true) (l : List α) : ∀ u ∈ cellsOf f l, u.oneCell' = true := by
 intro u hu
 unfold cellsOf at hu
 obtain ⟨x, _, hx⟩ := List.mem_flatMap.1 hu
 exact hf x u hx
theorem intC_one : ∀ (x : Int), ∀ u ∈ intC x, u.oneCell' = true := by
 intro x u hu
 simp [intC] at hu
 subst hu
 rfl
theorem ndC_one : ∀ (x : Nd), ∀ u ∈ ndC x, u.oneCell' = true := by
 intro x u hu
 simp [ndC] at hu
 rcases hu with rfl | rfl | rfl <;> rfl
theorem vrC_one : ∀ (x : Vr), ∀ u ∈ vrC x, u.oneCell' = true := by
 intro x u hu
 simp [vrC] at hu
 rcases hu with rfl | rfl | rfl | rfl | rfl <;> rfl
set_option maxRecDepth 100000 in
set_option maxHeartbeats 1000000 in
theorem l1Copy_any (B : Nat) (v : Value) (l : List Int) (w : World) (hB : B ≤ w.heap.size) (hl : l.length ≤ 1048576) (S : SliceAt B w v l.length (cellsOf intC l)) :
  Calls Tryz.prog 47 #[v] w fun e w' => ∃ v', e = .returned v' ∧ w'.ownsRow w.heap.size 2 1 v' l.length (cellsOf intC l) ∧ Below w.heap.size w w' := by
 obtain ⟨i0, hi, hzr, hsz, hby⟩ := info_parts infoInt
 have O0 := World.ownsRow_lit (base := w.heap.size) (e := 2) (size := 1) w #[] 0 (by simp) (by decide) (by simp)
 have al := (Below.refl w.heap.size w).alloc (Nat.le_refl _) (.cells #[] 2)
 have S1 := S.below (al.mono hB)
 obtain ⟨a, cap, rfl, hS⟩ := id S
 go_enter Tryz.func47, Tryz.ntmps47
 go_wp2_with (at_builtin; refine wpList_append_copy rfl _ _ 24 rfl w.heap.size 2 i0 (.int .i64 0) 1 8 Tryz.underlying24 hi hzr hsz hby rfl (by decide) w.heap.size rfl O0 B (.slice a l.length cap) rfl l.length (cellsOf intC l) S1 (by rw [cellsOf_length (sz := 1) (fun _ => rfl)]) (cellsOf_one intC_one l) (by unfold maxLen; omega) (by omega) (by simp) ?_)
 intro v' w1 hown hgrow _
 have K1 := al.grown hgrow (by simp) (fun j e => by cases e; exact Nat.le_refl _)
 obtain ⟨va, vc, rfl⟩ := own_is hown
 go_wp2
 go_ret
 exact ⟨_, rfl, hown, K1⟩
end
end Go.Proofs.YtlfjhcdjgoeafaaGreatDoor
