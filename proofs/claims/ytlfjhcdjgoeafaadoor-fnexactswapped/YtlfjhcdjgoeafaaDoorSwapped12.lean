/-
  What the law's proof goes by, part 13.
-/
import Derived.Deep.MidRow
import Derived.RangeFuncNested
import Derived.RangeFuncBound
import Derived.RangeFuncCalls
import Derived.RangeFuncLeaves
import Derived.RangeFuncFrom
import Derived.Shelf.Abstract
import Derived.Shelf.RegionOpen
import Derived.WalkKit
import Derived.OwnWalkIn
import Derived.TacticsInMore
import Derived.LoopNIn
import Derived.LoopIn
import Derived.Test.YtlfjhcdjgoeafaaDoorSwapped00
import Derived.Test.YtlfjhcdjgoeafaaDoorSwapped05
import Derived.Test.YtlfjhcdjgoeafaaDoorSwapped07
import Derived.Test.YtlfjhcdjgoeafaaDoorSwapped08
import Derived.Test.YtlfjhcdjgoeafaaDoorSwapped10
namespace Go.Proofs.YtlfjhcdjgoeafaaDoor
open Go.ChangeShapes Go.WideShapes Go.ChangeAt Go.RowKit
set_option maxRecDepth 100000
set_option maxHeartbeats 16000000
set_option linter.unusedVariables false
set_option linter.unusedSimpArgs false
set_option linter.unnecessarySimpa false
set_option linter.unusedSectionVars false
section
open Go.ChangeShapes Go.WideShapes Go.ChangeAt Go.RowKit Go.Extern.Stop Go.Stop Go.Extern
theorem qz8c (t : Value) (w : World) :
  Calls Tryd.prog 60 #[.nilIface, t] w fun e w' => e = .returned (.bool false) /\ w' = w := by
 go_enter Tryd.func60, Tryd.ntmps60
 go_wp2
 go_ret
 exact ⟨rfl, rfl⟩
theorem qz93 (t : Addr) (w : World) : (ReflectliteValue.unpack (.iface 95 (.pointer (some t)))).run Tryd.prog w
  = .ok (.agg #[.pointer (some ⟨4, 95, none⟩), .pointer (some ⟨w.heap.size, 0, none⟩), .int .u64 150]) (w.alloc (.cells #[.pointer (some t)] 95)) := by kernel_rfl
theorem qz9l (a : Addr) (w : World) : (ReflectliteValue.methodAny (ReflectliteValue.valueError "reflectlite.Value.Type" 0) (fun t _ _ _ => ReflectliteType.toType t) #[.agg #[.pointer (some ⟨4, 95, none⟩), .pointer (some a), .int .u64 150]]).run Tryd.prog w
  = .ok (.iface 128 (.agg #[.pointer (some ⟨4, 95, none⟩)])) w := by kernel_rfl
theorem qz5p (h : Value) (w : World) : (Go.method 278 128 (.agg #[h]) "Kind").run Tryd.prog w = .ok (109, h) w := by kernel_rfl
theorem qz9m (w : World) : ((ReflectliteType.abiMethod fun t => (fun a : Nat => Value.int IntKind.u8 (a : Int)) <$> Rtype.kind t) #[.pointer (some ⟨4, 95, none⟩)]).run Tryd.prog w = .ok (.int .u8 22) w := by kernel_rfl
theorem qz9o (w : World) : ((ReflectliteType.abiMethod fun t => (fun a : Nat => Value.int IntKind.u8 (a : Int)) <$> Rtype.kind t) #[.pointer (some ⟨4, 90, none⟩)]).run Tryd.prog w = .ok (.int .u8 25) w := by kernel_rfl
theorem qz9d (z : Sem Value) (f : TypeId -> Addr -> Nat -> Nat -> Sem Value) (v : Value) :
  ReflectliteValue.method z f #[v] = (do match <- ReflectliteValue.parts v with | none => z | some (t, a, fl) => f t a fl (fl % 32)) := rfl
theorem qz7b (a : Addr) (w : World) : (ReflectliteValue.parts (.agg #[.pointer (some ⟨4, 95, none⟩), .pointer (some a), .int .u64 150])).run Tryd.prog w = .ok (some (95, a, 150)) w := by kernel_rfl
theorem qz90 (a p : Addr) (W : World) (ha : W.cell? a = some (.pointer (some p))) :
  (ReflectliteValue.method (ReflectliteValue.valueError "reflectlite.Value.IsNil" 0) ReflectliteValue.isNil #[.agg #[.pointer (some ⟨4, 95, none⟩), .pointer (some a), .int .u64 150]]).run Tryd.prog W = .ok (.bool false) W := by
 rw [qz9d]
 simp only [Sem.run_bind, qz7b, Result.andThen]
 simp [ReflectliteValue.isNil, loadVar, isAgg, underlying, Tryd.underlying95, ha, Result.andThen]
theorem qz68 (h : Value) (w : World) : (Go.method 278 128 (.agg #[h]) "Elem").run Tryd.prog w = .ok (123, .agg #[h]) w := by kernel_rfl
theorem qz2v (h : Value) (w : World) : (Go.method 278 128 (.agg #[h]) "Implements").run Tryd.prog w = .ok (124, .agg #[h]) w := by kernel_rfl
theorem qz2j (h : Value) (w : World) : (Go.method 278 128 (.agg #[h]) "AssignableTo").run Tryd.prog w = .ok (121, .agg #[h]) w := by kernel_rfl
theorem qz9i (w : World) : (ReflectliteType.method ReflectliteType.elem #[.agg #[.pointer (some ⟨4, 95, none⟩)]]).run Tryd.prog w = .ok (.iface 128 (.agg #[.pointer (some ⟨4, 90, none⟩)])) w := by kernel_rfl
theorem qz5j (w : World) : (ReflectliteType.relation "Implements" ReflectliteType.implements_ #[.agg #[.pointer (some ⟨4, 90, none⟩)], .iface 128 (.agg #[.pointer (some ⟨4, 56, none⟩)])]).run Tryd.prog w = .ok (.bool true) w := by kernel_rfl
theorem qz89 (v : Value) (w : World) : (ReflectliteType.typeOf #[.iface 90 v]).run Tryd.prog w = .ok (.iface 128 (.agg #[.pointer (some ⟨4, 90, none⟩)])) w := by kernel_rfl
theorem qz51 (w : World) : (ReflectliteType.relation "AssignableTo" ReflectliteType.assignableTo #[.agg #[.pointer (some ⟨4, 90, none⟩)], .iface 128 (.agg #[.pointer (some ⟨4, 90, none⟩)])]).run Tryd.prog w = .ok (.bool true) w := by kernel_rfl
theorem qz97 (a : Addr) (w : World) : (ReflectliteValue.unpack (.iface 90 (.agg #[.iface 144 (.pointer (some a))]))).run Tryd.prog w
  = .ok (.agg #[.pointer (some ⟨4, 90, none⟩), .pointer (some ⟨w.heap.size, 0, none⟩), .int .u64 153]) (w.alloc (.cells #[.iface 144 (.pointer (some a))] 90)) := by kernel_rfl
theorem qz85 (w : World) : (Rtype.elem? 95).run Tryd.prog w = .ok (some 90) w := by kernel_rfl
theorem qzai (p : Addr) (w : World) : (ReflectliteValue.mk 90 p ReflectliteValue.flagAddr).run Tryd.prog w = .ok (.agg #[.pointer (some ⟨4, 90, none⟩), .pointer (some p), .int .u64 409]) w := by kernel_rfl
theorem qz9e (a p : Addr) (W : World) (ha : W.cell? a = some (.pointer (some p))) :
  (ReflectliteValue.method (ReflectliteValue.valueError "reflectlite.Value.Elem" 0) ReflectliteValue.elem #[.agg #[.pointer (some ⟨4, 95, none⟩), .pointer (some a), .int .u64 150]]).run Tryd.prog W
   = .ok (.agg #[.pointer (some ⟨4, 90, none⟩), .pointer (some p), .int .u64 409]) W := by
 rw [qz9d]
 simp only [Sem.run_bind, qz7b, Result.andThen]
 simp [ReflectliteValue.elem, loadVar, isAgg, underlying, Tryd.underlying95, ha, Result.andThen, qz85, qzai]
theorem qza2 (v x : Value) : ReflectliteValue.set #[v, x] = (do
  let (some (dst, a, fl), some (src, b, _)) := (<- ReflectliteValue.parts v, <- ReflectliteValue.parts x)
   | unsupported (.noEntry "extern/(internal/reflectlite.Value).Set.zeroValue")
  if fl / ReflectliteValue.flagAddr % 2 == 0 then unsupported (.noEntry "extern/(internal/reflectlite.Value).Set.unaddressable")
  let val <- loadVar src b
  if <- Rtype.directlyAssignable dst src then storeVar dst a val
  else if <- Rtype.implements dst src then
   if (<- Rtype.kind src) == 20 then
    match val with
    | .nilIface => unsupported (.noEntry "extern/reflectlite: a nil value of one interface type handed on as a value of another")
    | _ => storeVar dst a val
   else storeVar dst a (.iface src val)
  else panicString ("reflectlite.Set: value of type " ++ (<- Rtype.spelt src) ++ " is not assignable to type " ++ (<- Rtype.spelt dst))
  pure (.tuple #[])) := rfl
theorem qz8h (a : Addr) (w : World) : (ReflectliteValue.parts (.agg #[.pointer (some ⟨4, 90, none⟩), .pointer (some a), .int .u64 409])).run Tryd.prog w = .ok (some (90, a, 409)) w := by kernel_rfl
theorem qz95 (a : Addr) (w : World) : (ReflectliteValue.parts (.agg #[.pointer (some ⟨4, 90, none⟩), .pointer (some a), .int .u64 153])).run Tryd.prog w = .ok (some (90, a, 153)) w := by kernel_rfl
theorem qz81 (w : World) : (Rtype.directlyAssignable 90 90).run Tryd.prog w = .ok true w := by kernel_rfl
theorem qz8m : (Tryd.prog.info? 90).map (·.size) = some 1 := by kernel_rfl
theorem qza9 (tb b : Nat) (e : Value) (he : e.oneCell' = true) (W : World) (hb : W.rangeAt b 0 [e]) (ht : W.there tb 0 1) :
  (ReflectliteValue.set #[.agg #[.pointer (some ⟨4, 90, none⟩), .pointer (some ⟨tb, 0, none⟩), .int .u64 409], .agg #[.pointer (some ⟨4, 90, none⟩), .pointer (some ⟨b, 0, none⟩), .int .u64 153]]).run Tryd.prog W
   = .ok (.tuple #[]) (W.setCells tb 0 [e]) := by
 have hl := run_loadVar_mid (P := Tryd.prog) W b 0 90 [e] _ hb Tryd.underlying90 rfl qz8m
 have hs := run_storeVar_mid (P := Tryd.prog) W tb 0 90 #[e] ht qz8m (by simp [he])
 rw [qza2]
 simp only [Sem.run_bind, qz8h, qz95, Result.andThen]
 simp [ReflectliteValue.flagAddr, hl, hs, Result.andThen, qz81]
theorem qz4s (a : Addr) (tb : Nat) (old : Value) (w : World) (hg : w.cell? ⟨3, 0, none⟩ = some (.iface 128 (.agg #[.pointer (some ⟨4, 56, none⟩)]))) (ht : w.there tb 0 1) (hlt : 3 < w.heap.size) (htl : tb < w.heap.size) :
  Calls Tryd.prog 60 #[.iface 90 (.agg #[.iface 144 (.pointer (some a))]), .iface 95 (.pointer (some ⟨tb, 0, none⟩))] w fun ev w' => ev = .returned (.bool true) /\ Only tb w w' := by
 have h6 := @run_callFunc_extern Tryd.prog 78 _ (fun args => ReflectliteValue.unpack (args.getD 0 (.tuple #[]))) Tryd.func78 (by kernel_rfl) (by kernel_rfl) (by kernel_rfl) (by kernel_rfl)
 have h7 := @run_callFunc_extern Tryd.prog 79 _ (ReflectliteValue.methodAny (ReflectliteValue.valueError "reflectlite.Value.Type" 0) (fun t _ _ _ => ReflectliteType.toType t)) Tryd.func79 (by kernel_rfl) (by kernel_rfl) (by kernel_rfl) (by kernel_rfl)
 have h8 := @run_callFunc_extern Tryd.prog 80 _ (ReflectliteValue.method (ReflectliteValue.valueError "reflectlite.Value.IsNil" 0) ReflectliteValue.isNil) Tryd.func80 (by kernel_rfl) (by kernel_rfl) (by kernel_rfl) (by kernel_rfl)
 have h27 := @run_callFunc_extern Tryd.prog 109 _ (ReflectliteType.abiMethod fun t => do pure (.int .u8 (<- Rtype.kind t))) Tryd.func109 (by kernel_rfl) (by kernel_rfl) (by kernel_rfl) (by kernel_rfl)
 have h37 := @run_callFunc_extern Tryd.prog 123 _ (ReflectliteType.method ReflectliteType.elem) Tryd.func123 (by kernel_rfl) (by kernel_rfl) (by kernel_rfl) (by kernel_rfl)
 have h38 := @run_callFunc_extern Tryd.prog 124 _ (ReflectliteType.relation "Implements" ReflectliteType.implements_) Tryd.func124 (by kernel_rfl) (by kernel_rfl) (by kernel_rfl) (by kernel_rfl)
 have h10 := @run_callFunc_extern Tryd.prog 82 _ (ReflectliteType.typeOf) Tryd.func82 (by kernel_rfl) (by kernel_rfl) (by kernel_rfl) (by kernel_rfl)
 have h35 := @run_callFunc_extern Tryd.prog 121 _ (ReflectliteType.relation "AssignableTo" ReflectliteType.assignableTo) Tryd.func121 (by kernel_rfl) (by kernel_rfl) (by kernel_rfl) (by kernel_rfl)
 have h11 := @run_callFunc_extern Tryd.prog 90 _ (ReflectliteValue.method (ReflectliteValue.valueError "reflectlite.Value.Elem" 0) ReflectliteValue.elem) Tryd.func90 (by kernel_rfl) (by kernel_rfl) (by kernel_rfl) (by kernel_rfl)
 have h12 := @run_callFunc_extern Tryd.prog 91 _ (ReflectliteValue.set) Tryd.func91 (by kernel_rfl) (by kernel_rfl) (by kernel_rfl) (by kernel_rfl)
 have tO := qz89
 have mA := qz2j
 have aU := qz51
 have vU := qz97
 have f6 := qz93
 have f7 := qz9l
 have mK := qz5p
 have mE := qz68
 have mI := qz2v
 have kP := qz9m
 have kU := qz9o
 have eP := qz9i
 have iU := qz5j
 have n8 := qz90 ⟨w.heap.size, 0, none⟩ ⟨tb, 0, none⟩ ((w.alloc (.cells #[.pointer (some ⟨tb, 0, none⟩)] 95)).alloc (.cells #[.pointer (some ⟨4, 95, none⟩), .pointer (some ⟨w.heap.size, 0, none⟩), .int .u64 150] 111)) (by simp)
 have hg2 : ((w.alloc (.cells #[.pointer (some ⟨tb, 0, none⟩)] 95)).alloc (.cells #[.pointer (some ⟨4, 95, none⟩), .pointer (some ⟨w.heap.size, 0, none⟩), .int .u64 150] 111)).cell? ⟨3, 0, none⟩ = some (.iface 128 (.agg #[.pointer (some ⟨4, 56, none⟩)])) := by
  rw [World.cell?_alloc_lt _ _ ⟨3, 0, none⟩ (by simp; omega), World.cell?_alloc_lt _ _ ⟨3, 0, none⟩ hlt]; exact hg
 have el := qz9e ⟨w.heap.size, 0, none⟩ ⟨tb, 0, none⟩ (((w.alloc (.cells #[.pointer (some ⟨tb, 0, none⟩)] 95)).alloc (.cells #[.pointer (some ⟨4, 95, none⟩), .pointer (some ⟨w.heap.size, 0, none⟩), .int .u64 150] 111)).alloc (.cells #[.pointer (some ⟨4, 95, none⟩), .pointer (some ⟨w.heap.size, 0, none⟩), .int .u64 150] 111)) (by rw [World.cell?_alloc_lt _ _ ⟨w.heap.size, 0, none⟩ (by simp; omega)]; simp)
 have hn4 : ((((w.alloc (.cells #[.pointer (some ⟨tb, 0, none⟩)] 95)).alloc (.cells #[.pointer (some ⟨4, 95, none⟩), .pointer (some ⟨w.heap.size, 0, none⟩), .int .u64 150] 111)).alloc (.cells #[.pointer (some ⟨4, 95, none⟩), .pointer (some ⟨w.heap.size, 0, none⟩), .int .u64 150] 111)).alloc (.cells #[.iface 144 (.pointer (some a))] 90)).rangeAt (w.heap.size + 1 + 1 + 1) 0 [.iface 144 (.pointer (some a))] := by
  have h := qz6 (((w.alloc (.cells #[.pointer (some ⟨tb, 0, none⟩)] 95)).alloc (.cells #[.pointer (some ⟨4, 95, none⟩), .pointer (some ⟨w.heap.size, 0, none⟩), .int .u64 150] 111)).alloc (.cells #[.pointer (some ⟨4, 95, none⟩), .pointer (some ⟨w.heap.size, 0, none⟩), .int .u64 150] 111)) [.iface 144 (.pointer (some a))] 90
  simp only [World.size_alloc] at h
  exact h
 have ht4 : ((((w.alloc (.cells #[.pointer (some ⟨tb, 0, none⟩)] 95)).alloc (.cells #[.pointer (some ⟨4, 95, none⟩), .pointer (some ⟨w.heap.size, 0, none⟩), .int .u64 150] 111)).alloc (.cells #[.pointer (some ⟨4, 95, none⟩), .pointer (some ⟨w.heap.size, 0, none⟩), .int .u64 150] 111)).alloc (.cells #[.iface 144 (.pointer (some a))] 90)).there tb 0 1 := World.there_alloc (World.there_alloc (World.there_alloc (World.there_alloc ht _) _) _) _
 have st := qza9 tb (w.heap.size + 1 + 1 + 1) (.iface 144 (.pointer (some a))) rfl ((((w.alloc (.cells #[.pointer (some ⟨tb, 0, none⟩)] 95)).alloc (.cells #[.pointer (some ⟨4, 95, none⟩), .pointer (some ⟨w.heap.size, 0, none⟩), .int .u64 150] 111)).alloc (.cells #[.pointer (some ⟨4, 95, none⟩), .pointer (some ⟨w.heap.size, 0, none⟩), .int .u64 150] 111)).alloc (.cells #[.iface 144 (.pointer (some a))] 90)) hn4 ht4
 have fin : Only tb w (((((w.alloc (.cells #[.pointer (some ⟨tb, 0, none⟩)] 95)).alloc (.cells #[.pointer (some ⟨4, 95, none⟩), .pointer (some ⟨w.heap.size, 0, none⟩), .int .u64 150] 111)).alloc (.cells #[.pointer (some ⟨4, 95, none⟩), .pointer (some ⟨w.heap.size, 0, none⟩), .int .u64 150] 111)).alloc (.cells #[.iface 144 (.pointer (some a))] 90)).setCells tb 0 [.iface 144 (.pointer (some a))]) := ((((Only.refl tb w).alloc _).alloc _).alloc _).alloc _ |>.trans (qz4 tb _ 0 _)
 go_enter Tryd.func60, Tryd.ntmps60
 go_wp2
 refine wp_loop_rounds 1 ?_
 rw [rounds_succ]
 go_wp2
 go_ret
 exact ⟨rfl, fin⟩
end
section
open Go.ChangeShapes Go.WideShapes Go.ChangeAt Go.RowKit Go.Shelf
attribute [local go_sem] Oper.semAt_some
theorem qz4j (B : Nat) (A : Ar) (x y z u : Int) (i0 : Int) (a0 a1 a2 a3 : Option Addr) (c0 c1 c2 c3 : Nat) (w : World) (hB : B <= w.heap.size) (hA : A.size <= 1048576) (I : qzd B w (.slice a0 A.slots.length c0) (.slice a1 A.guides.length c1) (.slice a2 A.nodes.length c2) (.slice a3 A.vers.length c3) A) :
  Calls Tryd.prog 25 #[.agg #[.int .i64 x, .int .i64 y, .int .i64 z, .int .i64 u], .agg #[.int .i64 A.camera, .slice a0 A.slots.length c0, .slice a1 A.guides.length c1, .slice a2 A.nodes.length c2, .slice a3 A.vers.length c3], .int .i64 i0] w fun e w' => e = .returned (.int .i64 (qz6t x y z u A i0)) /\ Below w.heap.size w w' := by
 have hA' := hA
 unfold Ar.size at hA
 have P0 := (qz1h w x y z u 36).below ((Below.refl _ _).alloc (Nat.le_refl _) (.cells #[.int .i64 A.camera, .slice a0 A.slots.length c0, .slice a1 A.guides.length c1, .slice a2 A.nodes.length c2, .slice a3 A.vers.length c3] 33)) (by simp)
 have X0 : World.rangeAt ((w.alloc (.cells #[.int .i64 x, .int .i64 y, .int .i64 z, .int .i64 u] 36)).alloc (.cells #[.int .i64 A.camera, .slice a0 A.slots.length c0, .slice a1 A.guides.length c1, .slice a2 A.nodes.length c2, .slice a3 A.vers.length c3] 33)) (w.heap.size + 1) 0 [.int .i64 A.camera, .slice a0 A.slots.length c0, .slice a1 A.guides.length c1, .slice a2 A.nodes.length c2, .slice a3 A.vers.length c3] := by
  have h := qz6 (w.alloc (.cells #[.int .i64 x, .int .i64 y, .int .i64 z, .int .i64 u] 36)) [.int .i64 A.camera, .slice a0 A.slots.length c0, .slice a1 A.guides.length c1, .slice a2 A.nodes.length c2, .slice a3 A.vers.length c3] 33
  simp only [World.size_alloc] at h
  exact h
 have K0 := ((Below.refl w.heap.size w).alloc (Nat.le_refl _) (.cells #[.int .i64 x, .int .i64 y, .int .i64 z, .int .i64 u] 36)).alloc (by simp) (.cells #[.int .i64 A.camera, .slice a0 A.slots.length c0, .slice a1 A.guides.length c1, .slice a2 A.nodes.length c2, .slice a3 A.vers.length c3] 33)
 have hz0 : w.heap.size + 1 < ((w.alloc (.cells #[.int .i64 x, .int .i64 y, .int .i64 z, .int .i64 u] 36)).alloc (.cells #[.int .i64 A.camera, .slice a0 A.slots.length c0, .slice a1 A.guides.length c1, .slice a2 A.nodes.length c2, .slice a3 A.vers.length c3] 33)).heap.size := by simp
 have I0 := I.below (K0.mono hB)
 obtain ⟨p0, p1, p2, p3⟩ := P0
 obtain ⟨x0, x1, x2, x3, x4⟩ := row5 X0
 go_enter Tryd.func25, Tryd.ntmps25
 go_wp2_with fail
 refine (qz74 B A x y z u _ _ _ _ _ _ _ _ _ (by omega) hA' I0).mono ?_
 rintro e w1 ⟨rfl, b1⟩
 have X1 := qz0 X0 b1 hz0
 have K1 := K0.trans (b1.mono (by omega))
 have I1 := I.below (K1.mono hB)
 have hz1 := Nat.lt_of_lt_of_le hz0 b1.size
 clear p0 p1 p2 p3 x0 x1 x2 x3 x4 X0 K0 I I0 b1 hz0
 obtain ⟨x0, x1, x2, x3, x4⟩ := row5 X1
 cases hq : qzi x y z u A
 ·have hv : qz6t x y z u A i0 = -1 := by simp [qz6t, hasB, hq]
  go_wp2
  go_ret
  exact ⟨by rw [hv]; rfl, K1⟩
 cases hq2 : inB i0 0 ((A.nodes.length : Int) - 1)
 ·have hv : qz6t x y z u A i0 = -1 := by simp [qz6t, hasB, hq, hq2]
  go_wp2_with (go_at_call 53; refine (qz7 _ _ _ _).mono ?_; rintro e w' ⟨rfl, hw⟩; obtain rfl := hw.symm)
  go_ret
  exact ⟨by rw [hv]; rfl, K1⟩
 have hq' := (qz1m _ _ _).1 hq2
 obtain ⟨n, rfl⟩ : ∃ k : Nat, i0 = k := ⟨i0.toNat, by omega⟩
 have hn : n < A.nodes.length := by omega
 have hn' : (n : Int) < (A.nodes.length : Int) := by omega
 have hn0 : (0 : Int) <= (n : Int) := by omega
 obtain ⟨bb, off, rfl, hbb, R⟩ := qz8.at I1.n (by omega)
 have hc : w1.cell? ⟨bb, off + n * 3 + 2, none⟩ = some (.int .i64 A.nodes[n].head) := (qz9 (sz := 3) (fun _ => rfl) R n hn) 2 _ rfl
 have hv : qz6t x y z u A n = A.nodes[n].head := by simp [qz6t, hasB, hq, hq2, qz2f A n hn]
 clear R hq'
 go_wp2_with (go_at_call 53; refine (qz7 _ _ _ _).mono ?_; rintro e w' ⟨rfl, hw⟩; obtain rfl := hw.symm)
 go_ret
 exact ⟨by rw [hv]; rfl, K1⟩
end
section
attribute [local go_sem ↓] Go.wp_at_zero Go.wp_at_succ
structure TypA (w : World) (A : Ar) (b0 b1 b2 b3 : Nat) : Prop where
 t0 : 0 < A.slots.length -> ∃ m, Blk w b0 2 m
 t1 : 0 < A.guides.length -> ∃ m, Blk w b1 2 m
 t2 : 0 < A.nodes.length -> ∃ m, Blk w b2 74 m
 t3 : 0 < A.vers.length -> ∃ m, Blk w b3 60 m
theorem TypA.kept {w w' : World} {A : Ar} {b0 b1 b2 b3 : Nat} (h : TypA w A b0 b1 b2 b3) (hb : Below w.heap.size w w') : TypA w' A b0 b1 b2 b3 :=
 ⟨fun p => by obtain ⟨m, h⟩ := h.t0 p; exact ⟨m, h.grown hb⟩, fun p => by obtain ⟨m, h⟩ := h.t1 p; exact ⟨m, h.grown hb⟩, fun p => by obtain ⟨m, h⟩ := h.t2 p; exact ⟨m, h.grown hb⟩, fun p => by obtain ⟨m, h⟩ := h.t3 p; exact ⟨m, h.grown hb⟩⟩
theorem TypA.setCells {w : World} {A : Ar} {b0 b1 b2 b3 : Nat} (h : TypA w A b0 b1 b2 b3) (c o : Nat) (vs : List Value) : TypA (w.setCells c o vs) A b0 b1 b2 b3 :=
 ⟨fun p => by obtain ⟨m, h⟩ := h.t0 p; exact ⟨m, h.setCells _ _ _⟩, fun p => by obtain ⟨m, h⟩ := h.t1 p; exact ⟨m, h.setCells _ _ _⟩, fun p => by obtain ⟨m, h⟩ := h.t2 p; exact ⟨m, h.setCells _ _ _⟩, fun p => by obtain ⟨m, h⟩ := h.t3 p; exact ⟨m, h.setCells _ _ _⟩⟩
theorem TypA.apart {w : World} {A : Ar} {b0 b1 b2 b3 c m : Nat} {t : TypeId} (h : TypA w A b0 b1 b2 b3) (hc : Blk w c t m) (h1 : 2 ≠ t) (h2 : 74 ≠ t) (h3 : 60 ≠ t) : ¬ qz5o A.slots.length A.guides.length A.nodes.length A.vers.length b0 b1 b2 b3 c := by
 rintro (⟨p, rfl⟩ | ⟨p, rfl⟩ | ⟨p, rfl⟩ | ⟨p, rfl⟩)
 ·obtain ⟨n, k⟩ := h.t0 p; exact k.ne hc h1 rfl
 ·obtain ⟨n, k⟩ := h.t1 p; exact k.ne hc h1 rfl
 ·obtain ⟨n, k⟩ := h.t2 p; exact k.ne hc h2 rfl
 ·obtain ⟨n, k⟩ := h.t3 p; exact k.ne hc h3 rfl
theorem qz3k (B : Nat) (v : Value) (l : List Nd) (w : World) (hB : B <= w.heap.size) (hl : l.length <= 1048576) (S : qz5r B w v ndC l) :
  Calls Tryd.prog 58 #[v] w fun e w' => e = .returned (.slice (some ⟨w.heap.size, 0, none⟩) l.length l.length) /\ w'.rangeAt w.heap.size 0 (qz1 ndC l) /\ Blk w' w.heap.size 74 (l.length * 3) /\ w.heap.size < w'.heap.size /\ Below w.heap.size w w' := by
 obtain ⟨ps, ⟨a, cap, rfl, hS⟩, Q⟩ := S
 obtain ⟨i0, hi, hz0, hz1, hz2⟩ := info_parts qz4o
 have hmk : ∀ w : World, (Instr.makeSlice 30 (.int .i64 (l.length : Int)) (.int .i64 (l.length : Int))).run Tryd.prog w = .ok (.slice (some ⟨w.heap.size, 0, none⟩) l.length l.length) (w.alloc (.cells (madeCells (.agg #[.int .i64 0, .int .i64 0, .int .i64 0] : Value).cells (l.length * 3)) 74)) := by
  intro w
  have h := run_make (P := Tryd.prog) w 30 74 i0 _ Tryd.underlying30 hi hz0 .i64 .i64 l.length l.length (by omega) (by omega) (by rw [hz2]; omega) (by omega)
  simpa [hz1] using h
 clear hi hz0 hz1 hz2
 have BN : Blk (w.alloc (.cells (madeCells (.agg #[.int .i64 0, .int .i64 0, .int .i64 0] : Value).cells (l.length * 3)) 74)) w.heap.size 74 (l.length * 3) := by
  have h := Blk.new w (madeCells (.agg #[.int .i64 0, .int .i64 0, .int .i64 0] : Value).cells (l.length * 3)) 74
  rwa [size_madeCells] at h
 go_enter Tryd.func58, Tryd.ntmps58
 go_wp2
 clear hmk
 go_loopw [11] (fun i wr => ∃ k : Nat, k <= l.length /\ i = .int .i64 k /\ wr.rangeAt w.heap.size 0 (qz1 ndC (l.take k)) /\ Blk wr w.heap.size 74 (l.length * 3) /\ w.heap.size < wr.heap.size /\ Below w.heap.size w wr) (fun i _ => l.length - (intOf i).toNat)
 case atStart => exact ⟨0, Nat.zero_le _, rfl, by simp [qz1, World.rangeAt], BN, by simp, (Below.refl _ _).alloc (Nat.le_refl _) _⟩
 case round =>
  obtain ⟨k, hk, rfl, R, TB, hz, bel⟩ := hrel
  have T := TB.there 0 (l.length * 3) (by omega)
  by_cases hlt : k < l.length
  ·rcases hS with h0 | ⟨bb, off, rfl, hbb, R0⟩
   ·omega
   ·obtain ⟨pb, po, hp1, hp2, hp3⟩ := (Q.below (bel.mono hB)).at' k hlt
    have hkp : k < ps.length := by rw [Q.len]; exact hlt
    have hc : wr.cell? ⟨bb, off + k, none⟩ = some (.pointer (some ⟨pb, po, none⟩)) := by
     have h1 := (qz9 (sz := 1) (f := ptrC) (fun _ => rfl) (qz0 R0 (bel.mono hB) hbb) k hkp) 0 (.pointer (some ps[k])) rfl
     rw [List.getElem?_eq_getElem hkp] at hp1
     rw [Option.some.inj hp1, Nat.mul_one, Nat.add_zero] at h1
     exact h1
    clear R0 hp1 hkp
    have hk3 : k * 3 + 3 <= l.length * 3 := by omega
    have hlen : (qz1 ndC (l.take k)).length = k * 3 := by rw [qz5 (sz := 3) (fun _ => rfl), List.length_take]; omega
    have T2 := qz1e T (k * 3) 3 hk3
    have G := qzy R (vs := ndC l[k]) (by rw [hlen]; exact T2)
    rw [hlen, <- qze, <- List.take_succ_eq_append_getElem hlt] at G
    simp only [Nat.zero_add] at G T2
    clear R hlen
    go_wp2_with (first | (refine wpList_load_mid rfl 74 (.tmp 19) rfl pb po rfl (ndC l[k]) _ ?hc Tryd.underlying74 rfl (qz6a _) ?_) | (refine wpList_store_mid rfl 74 (.tmp 21) (.tmp 20) rfl w.heap.size (k * 3) _ rfl rfl ?ht ?hi ?h1 ?_))
    case hc => exact hp3
    case ht => exact T2
    case hi => exact qz7c _
    case h1 => simp [ndC, Value.oneCell']
    go_roundw
    case rel => exact ⟨k + 1, by omega, by go_num, G, TB.setCells _ _ _, by rw [qzg]; omega, Below.setCells (Nat.le_refl _) _ _ _ bel⟩
    case measure => simp [intOf]; omega
  ·obtain rfl : k = l.length := by omega
   go_wp2
   go_ret
   exact ⟨rfl, by simpa using R, TB, hz, bel⟩
theorem qz42 (B : Nat) (v : Value) (l : List Vr) (w : World) (hB : B <= w.heap.size) (hl : l.length <= 1048576) (S : qz5r B w v vrC l) :
  Calls Tryd.prog 59 #[v] w fun e w' => e = .returned (.slice (some ⟨w.heap.size, 0, none⟩) l.length l.length) /\ w'.rangeAt w.heap.size 0 (qz1 vrC l) /\ Blk w' w.heap.size 60 (l.length * 5) /\ w.heap.size < w'.heap.size /\ Below w.heap.size w w' := by
 obtain ⟨ps, ⟨a, cap, rfl, hS⟩, Q⟩ := S
 obtain ⟨i0, hi, hz0, hz1, hz2⟩ := info_parts qz5e
 have hmk : ∀ w : World, (Instr.makeSlice 31 (.int .i64 (l.length : Int)) (.int .i64 (l.length : Int))).run Tryd.prog w = .ok (.slice (some ⟨w.heap.size, 0, none⟩) l.length l.length) (w.alloc (.cells (madeCells (.agg #[.int .i64 0, .bool false, .int .i64 0, .int .i64 0, .int .i64 0] : Value).cells (l.length * 5)) 60)) := by
  intro w
  have h := run_make (P := Tryd.prog) w 31 60 i0 _ Tryd.underlying31 hi hz0 .i64 .i64 l.length l.length (by omega) (by omega) (by rw [hz2]; omega) (by omega)
  simpa [hz1] using h
 clear hi hz0 hz1 hz2
 have BN : Blk (w.alloc (.cells (madeCells (.agg #[.int .i64 0, .bool false, .int .i64 0, .int .i64 0, .int .i64 0] : Value).cells (l.length * 5)) 60)) w.heap.size 60 (l.length * 5) := by
  have h := Blk.new w (madeCells (.agg #[.int .i64 0, .bool false, .int .i64 0, .int .i64 0, .int .i64 0] : Value).cells (l.length * 5)) 60
  rwa [size_madeCells] at h
 go_enter Tryd.func59, Tryd.ntmps59
 go_wp2
 clear hmk
 go_loopw [11] (fun i wr => ∃ k : Nat, k <= l.length /\ i = .int .i64 k /\ wr.rangeAt w.heap.size 0 (qz1 vrC (l.take k)) /\ Blk wr w.heap.size 60 (l.length * 5) /\ w.heap.size < wr.heap.size /\ Below w.heap.size w wr) (fun i _ => l.length - (intOf i).toNat)
 case atStart => exact ⟨0, Nat.zero_le _, rfl, by simp [qz1, World.rangeAt], BN, by simp, (Below.refl _ _).alloc (Nat.le_refl _) _⟩
 case round =>
  obtain ⟨k, hk, rfl, R, TB, hz, bel⟩ := hrel
  have T := TB.there 0 (l.length * 5) (by omega)
  by_cases hlt : k < l.length
  ·rcases hS with h0 | ⟨bb, off, rfl, hbb, R0⟩
   ·omega
   ·obtain ⟨pb, po, hp1, hp2, hp3⟩ := (Q.below (bel.mono hB)).at' k hlt
    have hkp : k < ps.length := by rw [Q.len]; exact hlt
    have hc : wr.cell? ⟨bb, off + k, none⟩ = some (.pointer (some ⟨pb, po, none⟩)) := by
     have h1 := (qz9 (sz := 1) (f := ptrC) (fun _ => rfl) (qz0 R0 (bel.mono hB) hbb) k hkp) 0 (.pointer (some ps[k])) rfl
     rw [List.getElem?_eq_getElem hkp] at hp1
     rw [Option.some.inj hp1, Nat.mul_one, Nat.add_zero] at h1
     exact h1
    clear R0 hp1 hkp
    have hk5 : k * 5 + 5 <= l.length * 5 := by omega
    have hlen : (qz1 vrC (l.take k)).length = k * 5 := by rw [qz5 (sz := 5) (fun _ => rfl), List.length_take]; omega
    have T2 := qz1e T (k * 5) 5 hk5
    have G := qzy R (vs := vrC l[k]) (by rw [hlen]; exact T2)
    rw [hlen, <- qze, <- List.take_succ_eq_append_getElem hlt] at G
    simp only [Nat.zero_add] at G T2
    clear R hlen
    go_wp2_with (first | (refine wpList_load_mid rfl 60 (.tmp 19) rfl pb po rfl (vrC l[k]) _ ?hc Tryd.underlying60 rfl (qz7f _) ?_) | (refine wpList_store_mid rfl 60 (.tmp 21) (.tmp 20) rfl w.heap.size (k * 5) _ rfl rfl ?ht ?hi ?h1 ?_))
    case hc => exact hp3
    case ht => exact T2
    case hi => exact qz8r _
    case h1 => simp [vrC, Value.oneCell']
    go_roundw
    case rel => exact ⟨k + 1, by omega, by go_num, G, TB.setCells _ _ _, by rw [qzg]; omega, Below.setCells (Nat.le_refl _) _ _ _ bel⟩
    case measure => simp [intOf]; omega
  ·obtain rfl : k = l.length := by omega
   go_wp2
   go_ret
   exact ⟨rfl, by simpa using R, TB, hz, bel⟩
theorem qz2a (B : Nat) (v : Value) (l : List Int) (w : World) (hB : B <= w.heap.size) (hl : l.length <= 1048576) (S : qz8 B w v l.length (qz1 intC l)) :
  Calls Tryd.prog 54 #[v] w fun e w' => e = .returned (.slice (some ⟨w.heap.size, 0, none⟩) l.length l.length) /\ w'.rangeAt w.heap.size 0 (qz1 intC l) /\ Blk w' w.heap.size 2 l.length /\ w.heap.size < w'.heap.size /\ Below w.heap.size w w' :=
 (qz20 B v l w hB hl S).mono (fun e w' h => ⟨h.1, h.2.2.1, h.2.1, h.2.1.lt, h.2.2.2⟩)
theorem qz91 (B : Nat) (cb : Nat) (s g n r : Value) (A : Ar) (w : World) (hB : B <= w.heap.size) (hA : A.size <= 1048576) (C : qz50 B w cb s g n r A) :
  Calls Tryd.prog 28 #[.pointer (some ⟨cb, 0, none⟩)] w fun e w' => ∃ s' g' n' r' b0 b1 b2 b3, e = .returned (.agg #[.int .i64 A.camera, s', g', n', r']) /\ qza w.heap.size w' s' g' n' r' A b0 b1 b2 b3 /\ TypA w' A b0 b1 b2 b3 /\ Below w.heap.size w w' := by
 unfold Ar.size at hA
 have hne : cb ≠ w.heap.size := by have := C.blk; omega
 have hne' : w.heap.size ≠ cb := hne.symm
 have K0 : Below w.heap.size w (w.alloc (Obj.cells #[.int .i64 0, .slice none 0 0, .slice none 0 0, .slice none 0 0, .slice none 0 0] 33)) := (Below.refl _ _).alloc (Nat.le_refl _) _
 have Z0 : (w.alloc (Obj.cells #[.int .i64 0, .slice none 0 0, .slice none 0 0, .slice none 0 0, .slice none 0 0] 33)).rangeAt w.heap.size 0 [.int .i64 0, .slice none 0 0, .slice none 0 0, .slice none 0 0, .slice none 0 0] := qz6 w [.int .i64 0, .slice none 0 0, .slice none 0 0, .slice none 0 0, .slice none 0 0] 33
 have F0 : (w.alloc (Obj.cells #[.int .i64 0, .slice none 0 0, .slice none 0 0, .slice none 0 0, .slice none 0 0] 33)).there w.heap.size 0 5 := qzv w #[.int .i64 0, .slice none 0 0, .slice none 0 0, .slice none 0 0, .slice none 0 0] 33 5 (by decide)
 have hz0 : w.heap.size < (w.alloc (Obj.cells #[.int .i64 0, .slice none 0 0, .slice none 0 0, .slice none 0 0, .slice none 0 0] 33)).heap.size := by simp
 have tk0 : True := trivial
 go_enter Tryd.func28, Tryd.ntmps28
 go_wp2
 generalize w.alloc (Obj.cells #[.int .i64 0, .slice none 0 0, .slice none 0 0, .slice none 0 0, .slice none 0 0] 33) = w0 at K0 Z0 F0 hz0 ⊢
 obtain ⟨x0, x1, x2, x3, x4⟩ := row5 (C.below (K0.mono hB)).row
 go_region_held3 (fun w' => w'.cell? ⟨cb, 0, none⟩ = some (.int .i64 A.camera) /\ w'.cell? ⟨cb, 1, none⟩ = some s /\ w'.cell? ⟨cb, 2, none⟩ = some g /\ w'.cell? ⟨cb, 3, none⟩ = some n /\ w'.cell? ⟨cb, 4, none⟩ = some r) (go_keep) (first
  | (clear tk0; go_at_call 54; refine (qz2a B s A.slots _ (by exact (Nat.le_trans hB K0.size)) (by omega) (by exact (C.below ((K0.drew).mono hB)).s)).mono ?_; rintro e w1 ⟨rfl, R1, U1, z1, b1⟩; have tk1 : True := trivial; have L1 : Below w0.heap.size w0 w1 := (by exact ⟨b1.os, b1.tape, b1.output, b1.size, b1.block⟩); have K1 : Below w.heap.size w w1 := (by exact K0.trans (L1.mono (by exact K0.size))); have Z1 := qz0 Z0 L1 hz0; have F1 := qz3 F0 L1 hz0; have hz1 := Nat.lt_of_lt_of_le hz0 L1.size; obtain ⟨y0, y1, y2, y3, y4⟩ := row5 (C.below (K1.mono hB)).row)
  | (clear tk1; go_at_call 54; refine (qz2a B g A.guides _ (by exact (Nat.le_trans hB K1.size)) (by omega) (by exact (C.below (K1.mono hB)).g)).mono ?_; rintro e w2 ⟨rfl, R2, U2, z2, b2⟩; have tk2 : True := trivial; have K2 : Below w.heap.size w w2 := (by exact K1.trans (b2.mono (by exact K1.size))); have Z2 := qz0 Z1 b2 hz1; have F2 := qz3 F1 b2 hz1; have hz2 := Nat.lt_of_lt_of_le hz1 b2.size; obtain ⟨y0, y1, y2, y3, y4⟩ := row5 (C.below (K2.mono hB)).row)
  | (clear tk2; go_at_call 58; refine (qz3k B n A.nodes _ (by exact (Nat.le_trans hB K2.size)) (by omega) (by exact (C.below (K2.mono hB)).n)).mono ?_; rintro e w3 ⟨rfl, R3, U3, z3, b3⟩; have tk3 : True := trivial; have K3 : Below w.heap.size w w3 := (by exact K2.trans (b3.mono (by exact K2.size))); have Z3 := qz0 Z2 b3 hz2; have F3 := qz3 F2 b3 hz2; have hz3 := Nat.lt_of_lt_of_le hz2 b3.size; obtain ⟨y0, y1, y2, y3, y4⟩ := row5 (C.below (K3.mono hB)).row)
  | (clear tk3; go_at_call 59; refine (qz42 B r A.vers _ (by exact (Nat.le_trans hB K3.size)) (by omega) (by exact (C.below (K3.mono hB)).r)).mono ?_; rintro e w4 ⟨rfl, R4, U4, z4, b4⟩; have tk4 : True := trivial; have K4 : Below w.heap.size w w4 := (by exact K3.trans (b4.mono (by exact K3.size))); have Z4 := qz0 Z3 b4 hz3; have F4 := qz3 F3 b4 hz3; have hz4 := Nat.lt_of_lt_of_le hz3 b4.size; obtain ⟨y0, y1, y2, y3, y4⟩ := row5 (C.below (K4.mono hB)).row; obtain ⟨u0, u1, u2, u3, u4⟩ := row5 Z4; have v0 : w4.frozen? ⟨w.heap.size, 0, none⟩ = false := (by have := (F4 0 (by omega)).2; simpa using this); have v1 : w4.frozen? ⟨w.heap.size, 1, none⟩ = false := (by have := (F4 1 (by omega)).2; simpa using this); have v2 : w4.frozen? ⟨w.heap.size, 2, none⟩ = false := (by have := (F4 2 (by omega)).2; simpa using this); have v3 : w4.frozen? ⟨w.heap.size, 3, none⟩ = false := (by have := (F4 3 (by omega)).2; simpa using this); have v4 : w4.frozen? ⟨w.heap.size, 4, none⟩ = false := (by have := (F4 4 (by omega)).2; simpa using this)))
 obtain ⟨vs, hvs⟩ : ∃ vs : List Value, vs = [.int .i64 A.camera, .slice (some ⟨w0.heap.size, 0, none⟩) A.slots.length A.slots.length, .slice (some ⟨w1.heap.size, 0, none⟩) A.guides.length A.guides.length, .slice (some ⟨w2.heap.size, 0, none⟩) A.nodes.length A.nodes.length, .slice (some ⟨w3.heap.size, 0, none⟩) A.vers.length A.vers.length] := ⟨_, rfl⟩
 have hW : ((((w4.setCell ⟨w.heap.size, 0, none⟩ (.int .i64 A.camera)).setCell ⟨w.heap.size, 1, none⟩ (.slice (some ⟨w0.heap.size, 0, none⟩) A.slots.length A.slots.length)).setCell ⟨w.heap.size, 2, none⟩ (.slice (some ⟨w1.heap.size, 0, none⟩) A.guides.length A.guides.length)).setCell ⟨w.heap.size, 3, none⟩ (.slice (some ⟨w2.heap.size, 0, none⟩) A.nodes.length A.nodes.length)).setCell ⟨w.heap.size, 4, none⟩ (.slice (some ⟨w3.heap.size, 0, none⟩) A.vers.length A.vers.length) = w4.setCells w.heap.size 0 vs := by rw [hvs]; rfl
 rw [hW]
 have e0 : w0.drew.heap.size = w0.heap.size := rfl
 rw [e0] at R1 U1 z1
 have T1 := U1.there 0 A.slots.length (by omega)
 have T2 := U2.there 0 A.guides.length (by omega)
 have T3 := U3.there 0 (A.nodes.length * 3) (by omega)
 have T4 := U4.there 0 (A.vers.length * 5) (by omega)
 have V0 : TypA (w4.setCells w.heap.size 0 vs) A w0.heap.size w1.heap.size w2.heap.size w3.heap.size := ⟨fun _ => ⟨_, ((U1.below b2 U1.lt).grown b3 |>.grown b4).setCells _ _ _⟩, fun _ => ⟨_, ((U2.grown b3).grown b4).setCells _ _ _⟩, fun _ => ⟨_, (U3.grown b4).setCells _ _ _⟩, fun _ => ⟨_, U4.setCells _ _ _⟩⟩
 have k1 := K1.size
 have k2 := b2.size
 have k3 := b3.size
 have k4 := b4.size
 have l1 := L1.size
 have RR : (w4.setCells w.heap.size 0 vs).rangeAt w.heap.size 0 vs := World.rangeAt_setCells_same _ _ _ _ (by rw [hvs]; exact F4)
 have N0 : qzc w.heap.size (w4.setCells w.heap.size 0 vs) (.slice (some ⟨w0.heap.size, 0, none⟩) A.slots.length A.slots.length) A.slots.length 1 (qz1 intC A.slots) w0.heap.size :=
  ⟨_, _, 0, rfl, Or.inr ⟨rfl, by omega, by rw [qzg]; omega, World.rangeAt_setCells_apart (qz0 (qz0 (qz0 R1 b2 (by omega)) b3 (by omega)) b4 (by omega)) _ _ _ (Or.inl (by omega)), by rw [Nat.mul_one]; exact World.there_setCells (qz3 (qz3 (qz3 T1 b2 (by omega)) b3 (by omega)) b4 (by omega)) _ _ _⟩⟩
 have N1 : qzc w.heap.size (w4.setCells w.heap.size 0 vs) (.slice (some ⟨w1.heap.size, 0, none⟩) A.guides.length A.guides.length) A.guides.length 1 (qz1 intC A.guides) w1.heap.size :=
  ⟨_, _, 0, rfl, Or.inr ⟨rfl, by omega, by rw [qzg]; omega, World.rangeAt_setCells_apart (qz0 (qz0 R2 b3 (by omega)) b4 (by omega)) _ _ _ (Or.inl (by omega)), by rw [Nat.mul_one]; exact World.there_setCells (qz3 (qz3 T2 b3 (by omega)) b4 (by omega)) _ _ _⟩⟩
 have N2 : qzc w.heap.size (w4.setCells w.heap.size 0 vs) (.slice (some ⟨w2.heap.size, 0, none⟩) A.nodes.length A.nodes.length) A.nodes.length 3 (qz1 ndC A.nodes) w2.heap.size :=
  ⟨_, _, 0, rfl, Or.inr ⟨rfl, by omega, by rw [qzg]; omega, World.rangeAt_setCells_apart (qz0 R3 b4 (by omega)) _ _ _ (Or.inl (by omega)), World.there_setCells (qz3 T3 b4 (by omega)) _ _ _⟩⟩
 have N3 : qzc w.heap.size (w4.setCells w.heap.size 0 vs) (.slice (some ⟨w3.heap.size, 0, none⟩) A.vers.length A.vers.length) A.vers.length 5 (qz1 vrC A.vers) w3.heap.size :=
  ⟨_, _, 0, rfl, Or.inr ⟨rfl, by omega, by rw [qzg]; omega, World.rangeAt_setCells_apart R4 _ _ _ (Or.inl (by omega)), World.there_setCells T4 _ _ _⟩⟩
 have KF := Below.setCells (Nat.le_refl w.heap.size) vs 0 _ K4
 clear hW R1 R2 R3 R4 T1 T2 T3 T4 u0 u1 u2 u3 u4 v0 v1 v2 v3 v4 F0 F1 F2 F3 F4 Z0 Z1 Z2 Z3 Z4
 go_wp2
 refine bodyPost_ret (v := .agg #[.int .i64 A.camera, .slice (some ⟨w0.heap.size, 0, none⟩) A.slots.length A.slots.length, .slice (some ⟨w1.heap.size, 0, none⟩) A.guides.length A.guides.length, .slice (some ⟨w2.heap.size, 0, none⟩) A.nodes.length A.nodes.length, .slice (some ⟨w3.heap.size, 0, none⟩) A.vers.length A.vers.length]) ?_ rfl ⟨_, _, _, _, _, _, _, _, rfl, ⟨N0, N1, N2, N3, by omega, by omega, by omega, by omega, by omega, by omega⟩, V0, KF⟩
 subst hvs
 exact qz2r Tryd.results28 _ _ w.heap.size 0 rfl [.int .i64 A.camera, .slice (some ⟨w0.heap.size, 0, none⟩) A.slots.length A.slots.length, .slice (some ⟨w1.heap.size, 0, none⟩) A.guides.length A.guides.length, .slice (some ⟨w2.heap.size, 0, none⟩) A.nodes.length A.nodes.length, .slice (some ⟨w3.heap.size, 0, none⟩) A.vers.length A.vers.length] _ RR Tryd.underlying33 rfl qzf
end
end Go.Proofs.YtlfjhcdjgoeafaaDoor
