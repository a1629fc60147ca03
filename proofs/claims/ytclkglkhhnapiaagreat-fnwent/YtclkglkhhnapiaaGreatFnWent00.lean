/-
  What the law's proof goes by, part 1.
-/
import Derived.Test.YtclkglkhhnapiaaGreatRows
import Derived.WalkKit
import Derived.ProofKit
import Derived.OpenShut
import Derived.ShutString
import Derived.ChangeOld
import Derived.Below
import Derived.Lib.SmallJoins
import Derived.Laws.Bits128
import Derived.Deep.MidRow
import Derived.Deep.QuietTactic
import Derived.BigQuiet
import Derived.RegionTactic
import Derived.ChangeAlike
namespace Go.Proofs.YtclkglkhhnapiaaGreat
open Go.ChangeShapes Go.WideShapes Go.ChangeAt Go.RowKit
set_option maxRecDepth 100000
set_option maxHeartbeats 16000000
set_option linter.unusedVariables false
set_option linter.unusedSimpArgs false
set_option linter.unnecessarySimpa false
set_option linter.unusedSectionVars false
set_option hygiene false
scoped notation "Q00" => #[.int .i64 0, .int .i64 0, .int .i64 0, .int .i64 0, .int .i64 0, .int .i64 0, .int .i64 0, .int .i64 0, .int .i64 0, .int .i64 0, .int .i64 0, .int .i64 0, .int .i64 0, .int .i64 0, .int .i64 0, .int .i64 0, .int .i64 0, .int .i64 0, .int .i64 0, .int .i64 0, .int .i64 0, .int .i64 0]
scoped notation "Q01" => #[.int .i64 A.camera, .slice a0 A.slots.length c0, .slice a1 A.guides.length c1, .slice a2 A.nodes.length c2, .slice a3 A.vers.length c3]
scoped notation "Q02" => #[.int .i64 0, .slice none 0 0, .slice none 0 0, .slice none 0 0, .slice none 0 0, .int .i64 0, .int .i64 0, .int .i64 0, .int .i64 0, .int .i64 0, .int .i64 0, .int .i64 0, .int .i64 0, .int .i64 0, .int .i64 0, .int .i64 0, .int .i64 0, .int .i64 0, .int .i64 0, .int .i64 0, .int .i64 0, .int .i64 0, .int .i64 0, .int .i64 0, .int .i64 0, .int .i64 0, .int .i64 0, .int .i64 0, .int .i64 0, .int .i64 0, .int .i64 0, .int .i64 0, .bool false]
scoped notation "Q03" => #[.int .i64 0, .int .i64 0, .int .i64 0, .int .i64 0, .int .i64 0, .slice none 0 0, .slice none 0 0, .slice none 0 0, .slice none 0 0, .slice none 0 0, .slice none 0 0, .slice none 0 0, .slice none 0 0, .int .i64 0]
scoped notation "Q04" => #[.int .i64 x, .int .i64 y, .int .i64 z, .int .i64 u, .int .i64 W.A.camera, .slice a0 W.A.slots.length c0, .slice a1 W.A.guides.length c1, .slice a2 W.A.nodes.length c2, .slice a3 W.A.vers.length c3, .slice (some ⟨hb, ho, none⟩) W.hands.length c4, .slice a5 W.calls.length c5, .slice a6 W.deeds.length c6, .slice a7 W.ticks.length c7, .int .i64 W.now]
scoped notation "Q05" => #[.int .i64 x, .int .i64 y, .int .i64 z, .int .i64 u]
scoped notation "Q06" => (.slice (some ⟨rb, 0, none⟩) A.vers.length rc)
scoped notation "Q07" => #[.int .i64 h.at_, .int .i64 h.then_, .int .i64 h.code, .int .i64 h.key, .int .i64 h.value, .int .i64 h.begin, .int .i64 h.reply, .int .i64 h.out, .int .i64 h.sum, .int .i64 h.held, .int .i64 h.x_, .int .i64 h.ver, .int .i64 h.cam, .int .i64 h.camAt, .int .i64 h.pred, .int .i64 h.predVer, .int .i64 h.curr, .int .i64 h.currVer, .int .i64 h.new_, .int .i64 h.least, .int .i64 h.index, .int .i64 h.round]
scoped notation "Q08" => #[.int .i64 x, .int .i64 y, .int .i64 z, .int .i64 u, .int .i64 W.A.camera, .slice a0 W.A.slots.length c0, .slice a1 W.A.guides.length c1, .slice a2 W.A.nodes.length c2, .slice a3 W.A.vers.length c3, .slice a4 W.hands.length c4, .slice a5 W.calls.length c5, .slice a6 W.deeds.length c6, .slice a7 W.ticks.length c7, .int .i64 W.now]
scoped notation "Q09" => (.slice ga A.guides.length gc)
scoped notation "Q0a" => (.cells #[.int .i64 m.next, .bool m.gone, .int .i64 m.stamp, .int .i64 m.prev, .int .i64 m.kind] 51)
scoped notation "Q0b" => (.slice sa A.slots.length sc)
scoped notation "Q0c" => #[.int .i64 0, .slice none 0 0, .slice none 0 0, .slice none 0 0, .slice none 0 0]
scoped notation "Q0d" => (.slice na A.nodes.length nc)
scoped notation "Q0e" => (.slice (some ⟨nb, 0, none⟩) A.nodes.length nc)
scoped notation "Q0f" => (.cells (hdC h).toArray 32)
scoped notation "Q0g" => (wdC x y z u W2.A.camera (.slice sa W2.A.slots.length sc') (.slice ga W2.A.guides.length gc') (.slice na W2.A.nodes.length nc') (.slice ra W2.A.vers.length rc') (.slice ha W2.hands.length hc') (.slice ca W2.calls.length cc') (.slice da W2.deeds.length dc') (.slice ta W2.ticks.length tc') W2.now)
scoped notation "Q0h" => (.slice (some ⟨sb, 0, none⟩) A.slots.length sc)
scoped notation "Q0i" => #[.int .i64 x, .int .i64 y, .int .i64 z, .int .i64 u, .int .i64 W.A.camera, .slice sa6 W.A.slots.length sc6, .slice ga6 W.A.guides.length gc6, .slice na6 W.A.nodes.length nc6, .slice ra6 W.A.vers.length rc6, .slice (some ⟨hg, 0, none⟩) W.hands.length hcap, .slice ca W.calls.length cc, .slice da W.deeds.length dc, .slice ta W.ticks.length tc, .int .i64 (W.now)]
scoped notation "Q0j" => [.int .i64 A.camera, .slice a0 A.slots.length c0, .slice a1 A.guides.length c1, .slice a2 A.nodes.length c2, .slice a3 A.vers.length c3]
scoped notation "Q0k" => [.int .i64 0, .slice none 0 0, .slice none 0 0, .slice none 0 0, .slice none 0 0, .int .i64 0, .int .i64 0, .int .i64 0, .int .i64 0, .int .i64 0, .int .i64 0, .int .i64 0, .int .i64 0, .int .i64 0, .int .i64 0, .int .i64 0, .int .i64 0, .int .i64 0, .int .i64 0, .int .i64 0, .int .i64 0, .int .i64 0, .int .i64 0, .int .i64 0, .int .i64 0, .int .i64 0, .int .i64 0, .int .i64 0, .int .i64 0, .int .i64 0, .int .i64 0, .int .i64 0, .bool false]
scoped notation "Q0l" => [.int .i64 0, .int .i64 0, .int .i64 0, .int .i64 0, .int .i64 0, .int .i64 0, .int .i64 0, .int .i64 0, .int .i64 0, .int .i64 0, .int .i64 0, .int .i64 0, .int .i64 0, .int .i64 0, .int .i64 0, .int .i64 0, .int .i64 0, .int .i64 0, .int .i64 0, .int .i64 0, .int .i64 0, .int .i64 0]
scoped notation "Q0m" => (.slice ra A.vers.length rc)
scoped notation "Q0n" => [.int .i64 x, .int .i64 y, .int .i64 z, .int .i64 u]
scoped notation "Q0o" => (wdC x y z u W.A.camera (.slice a0 W.A.slots.length c0) (.slice a1 W.A.guides.length c1) (.slice a2 W.A.nodes.length c2) (.slice a3 W.A.vers.length c3) (.slice a4 W.hands.length c4) (.slice a5 W.calls.length c5) (.slice a6 W.deeds.length c6) (.slice a7 W.ticks.length c7) W.now)
scoped notation "Q0p" => [.int .i64 x, .int .i64 y, .int .i64 z, .int .i64 u, .int .i64 W.A.camera, .slice sa6 W.A.slots.length sc6, .slice ga6 W.A.guides.length gc6, .slice na6 W.A.nodes.length nc6, .slice ra6 W.A.vers.length rc6, .slice (some ⟨hg, 0, none⟩) W.hands.length hcap, .slice ca W.calls.length cc, .slice da W.deeds.length dc, .slice ta W.ticks.length tc, .int .i64 (W.now)]
scoped notation "Q0q" => (.cells #[.int .i64 0, .int .i64 0, .int .i64 0, .int .i64 0] 25)
scoped notation "Q0r" => (.slice (some ⟨gb, 0, none⟩) A.guides.length gc)
scoped notation "Q0s" => (.slice a1 A.guides.length c1)
scoped notation "Q0t" => #[.func (.func 157) #[] #[.pointer (some ⟨b, 0, none⟩)], .func (.func 131) #[] #[], .func (.func 132) #[] #[], .func (.func 133) #[] #[], .func (.func 157) #[] #[.pointer (some ⟨b + 1, 0, none⟩)], .func (.func 157) #[] #[.pointer (some ⟨b + 2, 0, none⟩)], .func (.func 134) #[] #[], .func (.func 135) #[] #[]]
scoped notation "Q0u" => (.slice a0 A.slots.length c0)
scoped notation "Q0v" => [.int .i64 x, .int .i64 y, .int .i64 z, .int .i64 u, .int .i64 W.A.camera, .slice a0 W.A.slots.length c0, .slice a1 W.A.guides.length c1, .slice a2 W.A.nodes.length c2, .slice a3 W.A.vers.length c3, .slice (some ⟨hb, ho, none⟩) W.hands.length c4, .slice a5 W.calls.length c5, .slice a6 W.deeds.length c6, .slice a7 W.ticks.length c7, .int .i64 W.now]
scoped notation "Q0w" => (.slice a2 A.nodes.length c2)
scoped notation "Q0x" => [.int .i64 xN, .int .i64 y, .int .i64 z, .int .i64 uN, .int .i64 0, .slice (some ⟨sg, 0, none⟩) xN sc, .slice (some ⟨gb, 0, none⟩) uN uN, .slice (some ⟨nb, 0, none⟩) 1 1, .slice (some ⟨vb, 0, none⟩) 1 1, .slice (some ⟨hg, 0, none⟩) xN hc, .slice none 0 0, .slice none 0 0, .slice none 0 0, .int .i64 0]
scoped notation "Q0y" => [.int .i64 x, .int .i64 y, .int .i64 z, .int .i64 u, .int .i64 W.A.camera, .slice sa6 W.A.slots.length sc6, .slice ga6 W.A.guides.length gc6, .slice na6 W.A.nodes.length nc6, .slice ra6 W.A.vers.length rc6, .slice (some ⟨hg, 0, none⟩) W.hands.length hcap, .slice ca W.calls.length cc, .slice da W.deeds.length dc, .slice ta W.ticks.length tc, .int .i64 (W.now + 1)]
scoped notation "Q0z" => (wdC x y z u W.A.camera (.slice sa6 W.A.slots.length sc6) (.slice ga6 W.A.guides.length gc6) (.slice na6 W.A.nodes.length nc6) (.slice ra6 W.A.vers.length rc6) (.slice (some ⟨hg, 0, none⟩) W.hands.length hcap) (.slice ca W.calls.length cc) (.slice da W.deeds.length dc) (.slice ta W.ticks.length tc) W.now)
scoped notation "Q10" => #[.int .i64 xN, .int .i64 y, .int .i64 z, .int .i64 uN, .int .i64 0, .slice (some ⟨sg, 0, none⟩) xN sc, .slice (some ⟨gb, 0, none⟩) uN uN, .slice (some ⟨nb, 0, none⟩) 1 1, .slice (some ⟨vb, 0, none⟩) 1 1, .slice none 0 0, .slice none 0 0, .slice none 0 0, .slice none 0 0, .int .i64 0]
scoped notation "Q11" => (qzz _ _ _ _ _ _ _ _ _ _ _ _ _ _ _ _)
scoped notation "Q12" => #[.int .i64 h.x_, .int .i64 h.ver, .int .i64 h.cam, .int .i64 h.camAt, .int .i64 h.pred, .int .i64 h.predVer, .int .i64 h.curr, .int .i64 h.currVer, .int .i64 h.new_, .int .i64 h.least, .int .i64 h.index, .int .i64 h.round, .int .i64 h.at_, .int .i64 h.then_, .int .i64 h.code, .int .i64 h.key, .int .i64 h.value, .int .i64 h.begin, .int .i64 h.reply, .int .i64 h.out, .int .i64 h.sum, .int .i64 h.held]
scoped notation "Q13" => [.int .i64 x, .int .i64 y, .int .i64 z, .int .i64 u, .int .i64 W.A.camera, .slice a0 W.A.slots.length c0, .slice a1 W.A.guides.length c1, .slice a2 W.A.nodes.length c2, .slice a3 W.A.vers.length c3, .slice a4 W.hands.length c4, .slice a5 W.calls.length c5, .slice a6 W.deeds.length c6, .slice a7 W.ticks.length c7, .int .i64 W.now]
scoped notation "Q14" => (.slice a3 A.vers.length c3)
scoped notation "Q15" => (w.heap.size + 1 + 1 + 1)
scoped notation "Q16" => ((w1.setCell ⟨w.heap.size + 1, 17, none⟩ (.int .i64 h.ver)).drewN nq)
scoped notation "Q17" => #[.int .i64 A.vers[v].next, .bool A.vers[v].gone, .int .i64 A.vers[v].stamp, .int .i64 A.vers[v].prev, .int .i64 A.vers[v].kind]
scoped notation "Q18" => (.slice ga2 A2.guides.length gc2)
scoped notation "Q19" => (.slice sa2 A2.slots.length sc2)
scoped notation "Q1a" => [.int .i64 A'.camera, .slice d0 A'.slots.length e0, .slice d1 A'.guides.length e1, .slice d2 A'.nodes.length e2, .slice d3 A'.vers.length e3]
scoped notation "Q1b" => (.slice ra2 A2.vers.length rc2)
scoped notation "Q1c" => (w2.setCells w1.heap.size 0 [.int .i64 xN, .int .i64 y, .int .i64 z, .int .i64 uN, .int .i64 0, .slice (some ⟨sg, 0, none⟩) xN sc, .slice (some ⟨gb, 0, none⟩) uN uN, .slice (some ⟨nb, 0, none⟩) 1 1, .slice (some ⟨vb, 0, none⟩) 1 1, .slice none 0 0, .slice none 0 0, .slice none 0 0, .slice none 0 0, .int .i64 0])
scoped notation "Q1d" => #[.int .i64 W.A.camera, .slice a0 W.A.slots.length c0, .slice a1 W.A.guides.length c1, .slice a2 W.A.nodes.length c2, .slice a3 W.A.vers.length c3]
scoped notation "Q1e" => (qzd A.camera Q0b Q09 Q0d Q0m h d tk)
scoped notation "Q1f" => [.int .i64 W.A.camera, .slice a0 W.A.slots.length c0, .slice a1 W.A.guides.length c1, .slice a2 W.A.nodes.length c2, .slice a3 W.A.vers.length c3]
scoped notation "Q1g" => (qz13 x y z u A h d tk me clock)
scoped notation "Q1h" => [.int .i64 x, .int .i64 y, .int .i64 z, .int .i64 u, .int .i64 As.camera, .slice sa sl0 sc, .slice ga gl0 gc, .slice na nl0 nc, .slice ra rl0 rc, .slice (some ⟨hg, 0, none⟩) W.hands.length hcap, .slice ca W.calls.length cc, .slice da W.deeds.length dc, .slice ta W.ticks.length tc, .int .i64 (W.now + 1)]
scoped notation "Q1i" => (qzd A.camera (.slice sa2 (qz23 x y z u A h).1.slots.length sc2) (.slice ga2 (qz23 x y z u A h).1.guides.length gc2) (.slice na2 (qz23 x y z u A h).1.nodes.length nc2) (.slice ra2 (qz23 x y z u A h).1.vers.length rc2) (qz23 x y z u A h).2 d tk)
scoped notation "Q1j" => ((((w.alloc (.cells Q01 30)).alloc Q0f).alloc Q0a).alloc (.cells Q00 32))
scoped notation "Q1k" => (qz3s k 0 (Array.replicate l.toArray.size false))
scoped notation "Q1l" => (.slice na2 A2.nodes.length nc2)
scoped notation "Q1m" => (.slice (some ⟨bb, off, none⟩) A.vers.length c3)
scoped notation "Q1n" => (qz6 ((w.alloc (.cells Q01 30)).alloc Q0f) [.int .i64 m.next, .bool m.gone, .int .i64 m.stamp, .int .i64 m.prev, .int .i64 m.kind] 51)
scoped notation "Q1o" => (.cells #[.int .i64 A.nodes[n].key, .int .i64 A.nodes[n].value, .int .i64 A.nodes[n].head] 84)
scoped notation "Q1p" => [.int .i64 x, .int .i64 y, .int .i64 z, .int .i64 u, .int .i64 As.camera, .slice sa sl0 sc, .slice ga gl0 gc, .slice na nl0 nc, .slice ra rl0 rc, .slice (some ⟨hg, 0, none⟩) W.hands.length hcap, .slice ca2 (W.calls.length + 1) cc2, .slice da2 (W.deeds.length + 1) dc2, .slice ta W.ticks.length tc, .int .i64 (W.now + 1)]
scoped notation "Q1q" => [.int .i64 x, .int .i64 y, .int .i64 z, .int .i64 u, .int .i64 As.camera, .slice sa sl0 sc, .slice ga gl0 gc, .slice na nl0 nc, .slice ra rl0 rc, .slice (some ⟨hg, 0, none⟩) W.hands.length hcap, .slice ca2 (W.calls.length + 1) cc2, .slice da W.deeds.length dc, .slice ta2 (W.ticks.length + 1) tc2, .int .i64 (W.now + 1)]
scoped notation "Q1r" => #[.int .i64 x, .int .i64 y, .int .i64 z, .int .i64 u, .int .i64 0, .slice (some ⟨sg, 0, none⟩) xN sc, .slice (some ⟨gb, 0, none⟩) uN uN, .slice (some ⟨nb, 0, none⟩) 1 1, .slice (some ⟨vb, 0, none⟩) 1 1, .slice (some ⟨hg, 0, none⟩) xN hc, .slice none 0 0, .slice none 0 0, .slice none 0 0, .int .i64 0]
scoped notation "Q1s" => #[.int .i64 A.camera, .slice a0 A.slots.length c0, .slice a1 A.guides.length c1, .slice a2 A.nodes.length c2, .slice (some ⟨bb, off, none⟩) A.vers.length c3]
scoped notation "Q1t" => [.int .i64 x, .int .i64 y, .int .i64 z, .int .i64 u, .int .i64 As.camera, .slice sa sl0 sc, .slice ga gl0 gc, .slice na nl0 nc, .slice ra rl0 rc, .slice (some ⟨hg, 0, none⟩) W.hands.length hcap, .slice ca2 (W.calls.length + 1) cc2, .slice da W.deeds.length dc, .slice ta W.ticks.length tc, .int .i64 (W.now + 1)]
scoped notation "Q1u" => [.int .i64 x, .int .i64 y, .int .i64 z, .int .i64 u, .int .i64 As.camera, .slice sa sl0 sc, .slice ga gl0 gc, .slice na nl0 nc, .slice ra rl0 rc, .slice (some ⟨hg, 0, none⟩) W.hands.length hcap, .slice ca W.calls.length cc, .slice da2 (W.deeds.length + 1) dc2, .slice ta W.ticks.length tc, .int .i64 (W.now + 1)]
scoped notation "Q1v" => #[.agg Q01, .agg (hdC h).toArray, .agg #[.int .i64 m.next, .bool m.gone, .int .i64 m.stamp, .int .i64 m.prev, .int .i64 m.kind]]
scoped notation "Q1w" => (qzd As.camera (.slice sa sl0 sc) (.slice ga gl0 gc) (.slice na nl0 nc) (.slice ra rl0 rc) Hn En Tn)
scoped notation "Q1x" => (wdC x y z u W.A.camera (.slice sa W.A.slots.length sc') (.slice ga W.A.guides.length gc') (.slice na W.A.nodes.length nc') (.slice ra W.A.vers.length rc') (.slice ha W.hands.length hc') (.slice ca W.calls.length cc') (.slice da W.deeds.length dc') (.slice ta W.ticks.length tc') W.now)
scoped notation "Q1y" => [.int .i64 A.camera, .slice sa A.slots.length sc, .slice ga A.guides.length gc, .slice (some ⟨nb, 0, none⟩) A.nodes.length nc, .slice ra2 (A.vers.length + 1) rc2]
scoped notation "Q1z" => [.int .i64 0, .slice (some ⟨g, 0, none⟩) k cap, .slice (some ⟨w1.heap.size, 0, none⟩) uN uN, .slice (some ⟨w1.heap.size + 1, 0, none⟩) 1 1, .slice (some ⟨w1.heap.size + 1 + 1, 0, none⟩) 1 1]
scoped notation "Q20" => (qzd A.camera (.slice sa2 (qz1d z A h.pred h.predVer (newI h) false 1).1.slots.length sc2) (.slice ga2 (qz1d z A h.pred h.predVer (newI h) false 1).1.guides.length gc2) (.slice na2 (qz1d z A h.pred h.predVer (newI h) false 1).1.nodes.length nc2) (.slice ra2 (qz1d z A h.pred h.predVer (newI h) false 1).1.vers.length rc2) (qz74 (qz1d z A h.pred h.predVer (newI h) false 1).2 h h.pred 4) d tk)
scoped notation "Q21" => #[.int .i64 A.camera, .slice sa A.slots.length sc, .slice ga A.guides.length gc, .slice (some ⟨nb, 0, none⟩) A.nodes.length nc, .slice ra A.vers.length rc]
scoped notation "Q22" => (qzd A.camera Q0b Q0r Q0e Q06 h d tk)
scoped notation "Q23" => (((w.alloc (.cells Q01 30)).alloc Q0f).alloc (.cells Q00 32))
scoped notation "Q24" => #[.agg Q05, .agg (qzd A.camera s g n r h d tk).toArray, .int .i64 me, .int .i64 clock]
scoped notation "Q25" => [.int .i64 x, .int .i64 y, .int .i64 z, .int .i64 u, .int .i64 W.A.camera, .slice sa W.A.slots.length sc, .slice ga W.A.guides.length gc, .slice na W.A.nodes.length nc, .slice ra W.A.vers.length rc, .slice ha W.hands.length hc, .slice ca W.calls.length cc, .slice da W.deeds.length dc, .slice ta W.ticks.length tc, .int .i64 W.now]
scoped notation "Q26" => (w.alloc (.cells Q01 30))
scoped notation "Q27" => [.int .i64 A.camera, .slice sa A.slots.length sc, .slice ga A.guides.length gc, .slice (some ⟨nb, 0, none⟩) A.nodes.length nc, .slice ra A.vers.length rc]
scoped notation "Q29" => [.int .i64 xN, .int .i64 y, .int .i64 z, .int .i64 uN, .int .i64 0, .slice (some ⟨sg, 0, none⟩) xN sc, .slice (some ⟨gb, 0, none⟩) uN uN, .slice (some ⟨nb, 0, none⟩) 1 1, .slice (some ⟨vb, 0, none⟩) 1 1]
scoped notation "Q2a" => (.slice (some ⟨hg, 0, none⟩) W.hands.length hcap)
scoped notation "Q2b" => [.int .i64 0, .int .i64 0, .int .i64 0, .int .i64 0, .int .i64 0, .slice none 0 0, .slice none 0 0, .slice none 0 0, .slice none 0 0, .slice none 0 0, .slice none 0 0, .slice none 0 0, .slice none 0 0, .int .i64 0]
scoped notation "Q2c" => #[.int .i64 A.camera, .slice sa A.slots.length sc, .slice ga A.guides.length gc, .slice na A.nodes.length nc, .slice (some ⟨rb, 0, none⟩) A.vers.length rc]
scoped notation "Q2d" => (wdC x y z u W.A.camera (.slice a0 W.A.slots.length c0) (.slice a1 W.A.guides.length c1) (.slice a2 W.A.nodes.length c2) (.slice a3 W.A.vers.length c3) (.slice (some ⟨hb, ho, none⟩) W.hands.length c4) (.slice a5 W.calls.length c5) (.slice a6 W.deeds.length c6) (.slice a7 W.ticks.length c7) W.now)
scoped notation "Q2e" => ((w.alloc (.cells Q05 25)).alloc (.cells Q01 30))
scoped notation "Q2f" => (((((w2.setCell ⟨w.heap.size + 1, 0, none⟩ (.int .i64 A.camera)).setCell ⟨w.heap.size + 1, 1, none⟩ Q19).setCell ⟨w.heap.size + 1, 2, none⟩ Q18).setCell ⟨w.heap.size + 1, 3, none⟩ (.slice (some ⟨nb2, 0, none⟩) A2.nodes.length nc2)).setCell ⟨w.heap.size + 1, 4, none⟩ Q1b)
scoped notation "Q2g" => [.int .i64 x', .int .i64 y', .int .i64 z', .int .i64 u']
scoped notation "Q2h" => (qz9 h 2 A.nodes[m].value 0)
scoped notation "Q2i" => (.slice ra2 (A.vers.length + 1) rc2)
scoped notation "Q2j" => ((w.alloc (.cells Q04 59)).alloc (.cells Q03 59))
scoped notation "Q2k" => (qzd A.camera (.slice sa2 (qz26 A h d clock).1.slots.length sc2) (.slice ga2 (qz26 A h d clock).1.guides.length gc2) (.slice na2 (qz26 A h d clock).1.nodes.length nc2) (.slice ra2 (qz26 A h d clock).1.vers.length rc2) (qz26 A h d clock).2.1 (qz26 A h d clock).2.2 tk)
scoped notation "Q2l" => (qzd (qzm A h me tk).1.camera (.slice sa2 (qzm A h me tk).1.slots.length sc2) (.slice ga2 (qzm A h me tk).1.guides.length gc2) (.slice na2 (qzm A h me tk).1.nodes.length nc2) (.slice ra2 (qzm A h me tk).1.vers.length rc2) (qzm A h me tk).2.1 d (qzm A h me tk).2.2)
scoped notation "Q2m" => #[.int .i64 0, .int .i64 0, .int .i64 0, .int .i64 0, .int .i64 0]
scoped notation "Q2n" => (qzd A.camera Q0b Q0r Q0e Q06 (qz9 h 1 0 0) d tk)
scoped notation "Q2o" => (qzd A.camera (.slice sa2 (qzv x y z u A h).1.slots.length sc2) (.slice ga2 (qzv x y z u A h).1.guides.length gc2) (.slice na2 (qzv x y z u A h).1.nodes.length nc2) (.slice ra2 (qzv x y z u A h).1.vers.length rc2) (qzv x y z u A h).2 d tk)
scoped notation "Q2p" => [.int .i64 A.camera, .slice a0 A.slots.length c0, .slice a1 A.guides.length c1, .slice (some ⟨bb, off, none⟩) A.nodes.length c2, .slice a3 A.vers.length c3]
scoped notation "Q2q" => (qzd (qz28 A h tk me) s' g' n' r' Q1g.2.1 Q1g.2.2.1 Q1g.2.2.2)
scoped notation "Q2r" => #[.int .i64 0, .int .i64 0, .int .i64 0, .int .i64 0]
scoped notation "Q2s" => (qzd A.camera (.slice sa2 (qz3h y z A h).1.slots.length sc2) (.slice ga2 (qz3h y z A h).1.guides.length gc2) (.slice na2 (qz3h y z A h).1.nodes.length nc2) (.slice ra2 (qz3h y z A h).1.vers.length rc2) (qz3h y z A h).2 d tk)
scoped notation "Q2t" => (hdC (qz9 H' 4 h.out h.sum))
scoped notation "Q2u" => #[.agg Q05, .agg (qzd A.camera s g n r h d tk).toArray]
scoped notation "Q2v" => (qzd A.camera (.slice sa2 (qz4l A h).1.slots.length sc2) (.slice ga2 (qz4l A h).1.guides.length gc2) (.slice na2 (qz4l A h).1.nodes.length nc2) (.slice ra2 (qz4l A h).1.vers.length rc2) (qz4l A h).2 d tk)
scoped notation "Q2w" => (hdC (qz9 H' 4 (min (h.out + 1) 1000000) (min (h.sum + A.nodes[n].value) 1000000)))
scoped notation "Q2y" => #[.int .i64 x, .int .i64 y, .int .i64 z, .int .i64 u, .int .i64 W.A.camera, .slice sa6 W.A.slots.length sc6, .slice ga6 W.A.guides.length gc6, .slice na6 W.A.nodes.length nc6, .slice ra6 W.A.vers.length rc6, .slice (some ⟨hg, 0, none⟩) W.hands.length hcap, .slice ca W.calls.length cc, .slice da W.deeds.length dc, .slice ta W.ticks.length tc, .int .i64 (W.now + 1)]
scoped notation "Q2z" => (.slice ca2 (W.calls.length + 1) cc2)
scoped notation "Q30" => (((w.alloc (.cells Q05 25)).alloc (.cells (Q1e).toArray 45)).alloc (.cells Q02 45))
scoped notation "Q31" => (((w.alloc (.cells Q05 25)).alloc (.cells (Q22).toArray 45)).alloc (.cells Q02 45))
scoped notation "Q32" => [.func (.func 157) #[] #[.pointer (some ⟨w.heap.size + 1, 0, none⟩)], .func (.func 131) #[] #[], .func (.func 132) #[] #[], .func (.func 133) #[] #[], .func (.func 157) #[] #[.pointer (some ⟨w.heap.size + 1 + 1, 0, none⟩)], .func (.func 157) #[] #[.pointer (some ⟨w.heap.size + 1 + 2, 0, none⟩)], .func (.func 134) #[] #[], .func (.func 135) #[] #[]]
scoped notation "Q33" => #[.int .i64 c.proc, .int .i64 c.code, .int .i64 c.key, .int .i64 c.value, .int .i64 c.begin, .int .i64 c.end_, .int .i64 c.reply, .int .i64 c.out, .int .i64 c.sum, .int .i64 c.held]
scoped notation "Q34" => #[.int .i64 A.camera, .slice sa A.slots.length sc, .slice ga A.guides.length gc, .slice (some ⟨nb, 0, none⟩) A.nodes.length nc, .slice (some ⟨rb, 0, none⟩) A.vers.length rc]
scoped notation "Q35" => (qzd A.camera Q0h Q09 Q0d Q0m (qz9 H' 4 h.cam 0) d tk)
scoped notation "Q36" => (.slice ca W.calls.length cc)
scoped notation "Q37" => (.slice (some ⟨nb2, 0, none⟩) A2.nodes.length nc2)
scoped notation "Q38" => (.slice (some ⟨bb, off, none⟩) A.nodes.length c2)
scoped notation "Q39" => ((w.alloc (.cells Q05 25)).alloc (.cells (Q1e).toArray 45))
scoped notation "Q3a" => (w.alloc (.cells Q05 25))
set_option hygiene true
section
theorem own : ownKnob Tryz.prog.godebug = none := by kernel_rfl
theorem qzes : laidOutB Tryz.prog = true := by kernel_rfl
def inB (n lo hi : Int) : Bool := decide (lo <= n) && decide (n <= hi)
theorem qz1a (n lo hi : Int) : inB n lo hi = true ↔ lo <= n /\ n <= hi := by simp [inB]
theorem qz52 {n lo hi : Int} (h1 : lo <= n) (h2 : n <= hi) : inB n lo hi = true := (qz1a n lo hi).2 ⟨h1, h2⟩
theorem qz9f {n lo hi : Int} (h : ¬ (lo <= n /\ n <= hi)) : inB n lo hi = false := by
 cases e : inB n lo hi
 ·rfl
 ·exact absurd ((qz1a n lo hi).1 e) h
theorem qzk (n lo hi : Int) (w : World) :
  Calls Tryz.prog 41 #[.int .i64 n, .int .i64 lo, .int .i64 hi] w fun e w' => e = .returned (.bool (inB n lo hi)) /\ w' = w := by
 by_cases h1 : lo <= n
 ·by_cases h2 : n <= hi
  ·go_enter Tryz.func41, Tryz.ntmps41
   go_wp2
   go_ret
   exact ⟨by rw [qz52 h1 h2]; rfl, rfl⟩
  ·go_enter Tryz.func41, Tryz.ntmps41
   go_wp2
   go_ret
   exact ⟨by rw [qz9f (by omega)]; rfl, rfl⟩
 ·go_enter Tryz.func41, Tryz.ntmps41
  go_wp2
  go_ret
  exact ⟨by rw [qz9f (by omega)]; rfl, rfl⟩
theorem qze (n lo hi : Int) (w : World) :
  Calls Tryz.prog 61 #[.int .i64 n, .int .i64 lo, .int .i64 hi] w fun e w' => e = .returned (.bool (inB n lo hi)) /\ w' = w := by
 by_cases h1 : lo <= n
 ·by_cases h2 : n <= hi
  ·go_enter Tryz.func61, Tryz.ntmps61
   go_wp2
   go_ret
   exact ⟨by rw [qz52 h1 h2]; rfl, rfl⟩
  ·go_enter Tryz.func61, Tryz.ntmps61
   go_wp2
   go_ret
   exact ⟨by rw [qz9f (by omega)]; rfl, rfl⟩
 ·go_enter Tryz.func61, Tryz.ntmps61
  go_wp2
  go_ret
  exact ⟨by rw [qz9f (by omega)]; rfl, rfl⟩
theorem qz3j (n : Int) (w : World) :
  Calls Tryz.prog 143 #[.int .i64 n] w fun e w' => e = .returned (.bool (inB n 0 63)) /\ w' = w := by
 go_enter Tryz.func143, Tryz.ntmps143
 go_wp2_with (go_at_call 41; refine (qzk _ _ _ _).mono ?_; rintro e w' ⟨rfl, rfl⟩)
 go_ret
 exact ⟨rfl, rfl⟩
theorem qzp (n : Int) (w : World) :
  Calls Tryz.prog 145 #[.int .i64 n] w fun e w' => e = .returned (.bool (inB n 0 63)) /\ w' = w := by
 go_enter Tryz.func145, Tryz.ntmps145
 go_wp2_with (go_at_call 61; refine (qze _ _ _ _).mono ?_; rintro e w' ⟨rfl, rfl⟩)
 go_ret
 exact ⟨rfl, rfl⟩
def qz3t (a b c d : Int) : Bool := inB a 1 8 && inB b 1 60 && inB c 1 400 && inB d 1 8
theorem qz29 (a b c d : Int) : qz3t a b c d = true ↔ (1 <= a /\ a <= 8) /\ (1 <= b /\ b <= 60) /\ (1 <= c /\ c <= 400) /\ (1 <= d /\ d <= 8) := by
 unfold qz3t
 simp only [Bool.and_eq_true, qz1a]
 constructor
 ·rintro ⟨⟨⟨h1, h2⟩, h3⟩, h4⟩
  exact ⟨h1, h2, h3, h4⟩
 ·rintro ⟨h1, h2, h3, h4⟩
  exact ⟨⟨⟨h1, h2⟩, h3⟩, h4⟩
theorem qz69 (a b c d : Int) (w : World) :
  Calls Tryz.prog 98 #[.agg #[.int .i64 a, .int .i64 b, .int .i64 c, .int .i64 d]] w fun e w' => e = .returned (.bool (qz3t a b c d)) /\ Below w.heap.size w w' := by
 cases h1 : inB a 1 8
 ·have hp : qz3t a b c d = false := by simp [qz3t, h1]
  go_enter Tryz.func98, Tryz.ntmps98
  go_wp2_with (go_at_call 41; refine (qzk _ _ _ _).mono ?_; rintro e w' ⟨rfl, rfl⟩)
  go_ret
  exact ⟨by rw [hp]; rfl, (Below.refl _ _).alloc (Nat.le_refl _) _⟩
 ·cases h2 : inB b 1 60
  ·have hp : qz3t a b c d = false := by simp [qz3t, h1, h2]
   go_enter Tryz.func98, Tryz.ntmps98
   go_wp2_with (go_at_call 41; refine (qzk _ _ _ _).mono ?_; rintro e w' ⟨rfl, rfl⟩)
   go_ret
   exact ⟨by rw [hp]; rfl, (Below.refl _ _).alloc (Nat.le_refl _) _⟩
  ·cases h3 : inB c 1 400
   ·have hp : qz3t a b c d = false := by simp [qz3t, h1, h2, h3]
    go_enter Tryz.func98, Tryz.ntmps98
    go_wp2_with (go_at_call 41; refine (qzk _ _ _ _).mono ?_; rintro e w' ⟨rfl, rfl⟩)
    go_ret
    exact ⟨by rw [hp]; rfl, (Below.refl _ _).alloc (Nat.le_refl _) _⟩
   ·cases h4 : inB d 1 8
    ·have hp : qz3t a b c d = false := by simp [qz3t, h1, h2, h3, h4]
     go_enter Tryz.func98, Tryz.ntmps98
     go_wp2_with (go_at_call 41; refine (qzk _ _ _ _).mono ?_; rintro e w' ⟨rfl, rfl⟩)
     go_ret
     exact ⟨by rw [hp]; rfl, (Below.refl _ _).alloc (Nat.le_refl _) _⟩
    ·have hp : qz3t a b c d = true := by simp [qz3t, h1, h2, h3, h4]
     go_enter Tryz.func98, Tryz.ntmps98
     go_wp2_with (go_at_call 41; refine (qzk _ _ _ _).mono ?_; rintro e w' ⟨rfl, rfl⟩)
     go_ret
     exact ⟨by rw [hp]; rfl, (Below.refl _ _).alloc (Nat.le_refl _) _⟩
theorem qz1v (a b c d : Int) (w : World) :
  Calls Tryz.prog 107 #[.agg #[.int .i64 a, .int .i64 b, .int .i64 c, .int .i64 d]] w fun e w' => e = .returned (.bool (qz3t a b c d)) /\ Below w.heap.size w w' := by
 cases h1 : inB a 1 8
 ·have hp : qz3t a b c d = false := by simp [qz3t, h1]
  go_enter Tryz.func107, Tryz.ntmps107
  go_wp2_with (go_at_call 61; refine (qze _ _ _ _).mono ?_; rintro e w' ⟨rfl, rfl⟩)
  go_ret
  exact ⟨by rw [hp]; rfl, (Below.refl _ _).alloc (Nat.le_refl _) _⟩
 ·cases h2 : inB b 1 60
  ·have hp : qz3t a b c d = false := by simp [qz3t, h1, h2]
   go_enter Tryz.func107, Tryz.ntmps107
   go_wp2_with (go_at_call 61; refine (qze _ _ _ _).mono ?_; rintro e w' ⟨rfl, rfl⟩)
   go_ret
   exact ⟨by rw [hp]; rfl, (Below.refl _ _).alloc (Nat.le_refl _) _⟩
  ·cases h3 : inB c 1 400
   ·have hp : qz3t a b c d = false := by simp [qz3t, h1, h2, h3]
    go_enter Tryz.func107, Tryz.ntmps107
    go_wp2_with (go_at_call 61; refine (qze _ _ _ _).mono ?_; rintro e w' ⟨rfl, rfl⟩)
    go_ret
    exact ⟨by rw [hp]; rfl, (Below.refl _ _).alloc (Nat.le_refl _) _⟩
   ·cases h4 : inB d 1 8
    ·have hp : qz3t a b c d = false := by simp [qz3t, h1, h2, h3, h4]
     go_enter Tryz.func107, Tryz.ntmps107
     go_wp2_with (go_at_call 61; refine (qze _ _ _ _).mono ?_; rintro e w' ⟨rfl, rfl⟩)
     go_ret
     exact ⟨by rw [hp]; rfl, (Below.refl _ _).alloc (Nat.le_refl _) _⟩
    ·have hp : qz3t a b c d = true := by simp [qz3t, h1, h2, h3, h4]
     go_enter Tryz.func107, Tryz.ntmps107
     go_wp2_with (go_at_call 61; refine (qze _ _ _ _).mono ?_; rintro e w' ⟨rfl, rfl⟩)
     go_ret
     exact ⟨by rw [hp]; rfl, (Below.refl _ _).alloc (Nat.le_refl _) _⟩
theorem qzft {W w1 : World} (hb : Below W.heap.size W w1) : (∀ b o, b < W.heap.size -> w1.cell? ⟨b, o, none⟩ = W.cell? ⟨b, o, none⟩) /\ (∀ b o, b < W.heap.size -> w1.frozen? ⟨b, o, none⟩ = W.frozen? ⟨b, o, none⟩) :=
 ⟨fun b o h => hb.cell (p := ⟨b, o, none⟩) h, fun b o h => hb.frozen (p := ⟨b, o, none⟩) h⟩
def qz43 (W : World) (b : Nat) (x y z u : Int) : Prop :=
 W.cell? ⟨b, 0, none⟩ = some (.int .i64 x) /\ W.cell? ⟨b, 1, none⟩ = some (.int .i64 y) /\ W.cell? ⟨b, 2, none⟩ = some (.int .i64 z) /\ W.cell? ⟨b, 3, none⟩ = some (.int .i64 u)
theorem qz1t (w : World) (x y z u : Int) (T : TypeId) : qz43 (w.alloc (.cells Q05 T)) w.heap.size x y z u := by
 refine ⟨?_, ?_, ?_, ?_⟩ <;> simp
theorem qz43.below {W w1 : World} {b : Nat} {x y z u : Int} (h : qz43 W b x y z u) (hb : Below W.heap.size W w1) (hlt : b < W.heap.size) : qz43 w1 b x y z u := by
 obtain ⟨hc, _⟩ := qzft hb
 obtain ⟨h0, h1, h2, h3⟩ := h
 exact ⟨(hc b 0 hlt).trans h0, (hc b 1 hlt).trans h1, (hc b 2 hlt).trans h2, (hc b 3 hlt).trans h3⟩
def qzdw (a b c d n : Int) : Bool := qz3t a b c d && inB n 0 (a - 1)
theorem qzc2 (x y z u n : Int) (w : World) :
  Calls Tryz.prog 55 #[.agg Q05, .int .i64 n] w fun e w' => e = .returned (.bool (qzdw x y z u n)) /\ Below w.heap.size w w' := by
 have P0 := qz1t w x y z u 25
 cases h : qz3t x y z u
 ·have hp : qzdw x y z u n = false := by simp [qzdw, h]
  go_enter Tryz.func55, Tryz.ntmps55
  go_wp2_with fail
  refine (qz69 _ _ _ _ _).mono ?_
  rintro e w1 ⟨rfl, hb1⟩
  go_wp2
  go_ret
  exact ⟨by rw [hp]; rfl, ((Below.refl _ _).alloc (Nat.le_refl _) _).trans (hb1.mono (by simp))⟩
 ·have hp : qzdw x y z u n = inB n 0 (x - 1) := by simp [qzdw, h]
  have hr := (qz29 x y z u).1 h
  have hx1 : 1 <= x := hr.1.1
  have hx2 : x <= 8 := hr.1.2
  clear hr
  go_enter Tryz.func55, Tryz.ntmps55
  go_wp2_with fail
  refine (qz69 _ _ _ _ _).mono ?_
  rintro e w1 ⟨rfl, hb1⟩
  obtain ⟨c0, c1, c2, c3⟩ := P0.below hb1 (by simp)
  go_wp2_with fail
  refine (qzk _ _ _ _).mono ?_
  rintro e w2 ⟨rfl, rfl⟩
  go_wp2
  go_ret
  exact ⟨by rw [hp]; rfl, ((Below.refl _ _).alloc (Nat.le_refl _) _).trans (hb1.mono (by simp))⟩
theorem qzf0 {k u : Int} (h0 : 0 <= k) (h1 : k <= 63) (h2 : 1 <= u) (h3 : u <= 8) : 0 <= k * u /\ k * u <= 504 := by
 constructor
 ·exact Int.mul_nonneg h0 (by omega)
 ·have a : k * u <= 63 * u := Int.mul_le_mul_of_nonneg_right h1 (by omega)
  omega
def qz4k (x y z u k : Int) : Int := if qz3t x y z u && inB k 0 63 then k * u / 64 else -1
def qz4a (x y z u k : Int) : Int := if qz3t x y z u && inB k 0 63 then k * u / 64 - 1 else -1
theorem qza6 {x y z u k : Int} (h1 : qz3t x y z u = true) (h2 : inB k 0 63 = true) : qz4k x y z u k = k * u / 64 := by simp [qz4k, h1, h2]
theorem qzd0 {x y z u k : Int} (h1 : qz3t x y z u = true) (h2 : inB k 0 63 = true) : qz4a x y z u k = k * u / 64 - 1 := by simp [qz4a, h1, h2]
theorem qzcq {x y z u k : Int} (h : (qz3t x y z u && inB k 0 63) = false) : qz4k x y z u k = -1 := by simp only [qz4k, h]; rfl
theorem qzbi {x y z u k : Int} (h : (qz3t x y z u && inB k 0 63) = false) : qz4a x y z u k = -1 := by simp only [qz4a, h]; rfl
theorem qzag {x y z u k : Int} (h1 : qz3t x y z u = true) (h2 : inB k 0 63 = true) : 0 <= k /\ k <= 63 /\ 1 <= u /\ u <= 8 := by
 have a := (qz29 x y z u).1 h1
 have b := (qz1a k 0 63).1 h2
 exact ⟨b.1, b.2, a.2.2.2.1, a.2.2.2.2⟩
theorem qz58 (x y z u k : Int) (w : World) :
  Calls Tryz.prog 180 #[.agg Q05, .int .i64 k] w fun e w' => e = .returned (.int .i64 (qz4k x y z u k)) /\ Below w.heap.size w w' := by
 have P0 := qz1t w x y z u 25
 cases h1 : qz3t x y z u
 ·have hv : qz4k x y z u k = -1 := qzcq (by simp [h1])
  go_enter Tryz.func180, Tryz.ntmps180
  go_wp2_with fail
  refine (qz1v _ _ _ _ _).mono ?_
  rintro e w1 ⟨rfl, hb1⟩
  go_wp2
  go_ret
  exact ⟨by rw [hv]; rfl, ((Below.refl _ _).alloc (Nat.le_refl _) _).trans (hb1.mono (by simp))⟩
 ·cases h2 : inB k 0 63
  ·have hv : qz4k x y z u k = -1 := qzcq (by simp [h2])
   go_enter Tryz.func180, Tryz.ntmps180
   go_wp2_with fail
   refine (qz1v _ _ _ _ _).mono ?_
   rintro e w1 ⟨rfl, hb1⟩
   go_wp2_with (go_at_call 145; refine (qzp _ _).mono ?_; rintro e w' ⟨rfl, rfl⟩)
   go_ret
   exact ⟨by rw [hv]; rfl, ((Below.refl _ _).alloc (Nat.le_refl _) _).trans (hb1.mono (by simp))⟩
  ·obtain ⟨b0, b1, b2, b3⟩ := qzag h1 h2
   obtain ⟨m0, m1⟩ := qzf0 b0 b1 b2 b3
   have Hv : Hid (qz4k x y z u k = k * u / 64) := qza6 h1 h2
   go_enter Tryz.func180, Tryz.ntmps180
   go_wp2_with fail
   refine (qz1v _ _ _ _ _).mono ?_
   rintro e w1 ⟨rfl, hb1⟩
   have hz1 := hb1.size
   simp at hz1
   obtain ⟨c0, c1, c2, c3⟩ := P0.below hb1 (by simp)
   go_wp2_with (go_at_call 145; refine (qzp _ _).mono ?_; rintro e w' ⟨rfl, rfl⟩)
   go_ret
   exact ⟨by rw [Hv.out]; rfl, ((Below.refl _ _).alloc (Nat.le_refl _) _).trans (hb1.mono (by simp))⟩
theorem qz6z (x y z u k : Int) (w : World) :
  Calls Tryz.prog 182 #[.agg Q05, .int .i64 k] w fun e w' => e = .returned (.int .i64 (qz4a x y z u k)) /\ Below w.heap.size w w' := by
 have P0 := qz1t w x y z u 25
 cases h1 : qz3t x y z u
 ·have hv : qz4a x y z u k = -1 := qzbi (by simp [h1])
  go_enter Tryz.func182, Tryz.ntmps182
  go_wp2_with fail
  refine (qz1v _ _ _ _ _).mono ?_
  rintro e w1 ⟨rfl, hb1⟩
  go_wp2
  go_ret
  exact ⟨by rw [hv]; rfl, ((Below.refl _ _).alloc (Nat.le_refl _) _).trans (hb1.mono (by simp))⟩
 ·cases h2 : inB k 0 63
  ·have hv : qz4a x y z u k = -1 := qzbi (by simp [h2])
   go_enter Tryz.func182, Tryz.ntmps182
   go_wp2_with fail
   refine (qz1v _ _ _ _ _).mono ?_
   rintro e w1 ⟨rfl, hb1⟩
   go_wp2_with (go_at_call 145; refine (qzp _ _).mono ?_; rintro e w' ⟨rfl, rfl⟩)
   go_ret
   exact ⟨by rw [hv]; rfl, ((Below.refl _ _).alloc (Nat.le_refl _) _).trans (hb1.mono (by simp))⟩
  ·obtain ⟨b0, b1, b2, b3⟩ := qzag h1 h2
   obtain ⟨m0, m1⟩ := qzf0 b0 b1 b2 b3
   have Hv : Hid (qz4a x y z u k = k * u / 64 - 1) := qzd0 h1 h2
   go_enter Tryz.func182, Tryz.ntmps182
   go_wp2_with fail
   refine (qz1v _ _ _ _ _).mono ?_
   rintro e w1 ⟨rfl, hb1⟩
   have hz1 := hb1.size
   simp at hz1
   obtain ⟨c0, c1, c2, c3⟩ := P0.below hb1 (by simp)
   go_wp2_with (go_at_call 145; refine (qzp _ _).mono ?_; rintro e w' ⟨rfl, rfl⟩)
   refine (qz58 _ _ _ _ _ _).mono ?_
   rintro e w2 ⟨rfl, hb2⟩
   rw [qza6 h1 h2]
   go_wp2
   go_ret
   exact ⟨by rw [Hv.out]; rfl, (((Below.refl _ _).alloc (Nat.le_refl _) _).trans (hb1.mono (by simp))).trans (hb2.mono (by omega))⟩
end
section
theorem qz8i (n : Int) : 0 <= bits .and .u64 n 16777215 /\ bits .and .u64 n 16777215 <= 16777215 := by
 have h127 : (BitVec.ofInt 64 16777215).toNat = 2 ^ 24 - 1 := by decide
 have key : (BitVec.ofInt 64 n &&& BitVec.ofInt 64 16777215).toNat = (n % ((2 ^ 64 : Nat) : Int)).toNat % 2 ^ 24 := by
  rw [BitVec.toNat_and, BitVec.toNat_ofInt, h127, Nat.and_two_pow_sub_one_eq_mod]
 have e : bits .and .u64 n 16777215 = IntKind.u64.wrap ((BitVec.ofInt 64 n &&& BitVec.ofInt 64 16777215).toNat : Nat) := rfl
 rw [e, key]
 have w : ∀ m : Int, IntKind.u64.wrap m = m % 18446744073709551616 := fun m => by simp [IntKind.wrap, IntKind.bits, IntKind.signed]
 rw [w]
 omega
theorem qz8b (n : Int) : 0 <= bits .and .i64 n 255 /\ bits .and .i64 n 255 <= 255 := by
 have h127 : (BitVec.ofInt 64 255).toNat = 2 ^ 8 - 1 := by decide
 have key : (BitVec.ofInt 64 n &&& BitVec.ofInt 64 255).toNat = (n % ((2 ^ 64 : Nat) : Int)).toNat % 2 ^ 8 := by
  rw [BitVec.toNat_and, BitVec.toNat_ofInt, h127, Nat.and_two_pow_sub_one_eq_mod]
 have e : bits .and .i64 n 255 = IntKind.i64.wrap ((BitVec.ofInt 64 n &&& BitVec.ofInt 64 255).toNat : Nat) := rfl
 rw [e, key, IntKind.wrap_i64]
 omega
theorem qzch (n : Int) : 0 <= bits .and .i64 n 1073741823 /\ bits .and .i64 n 1073741823 <= 1073741823 := by
 have h127 : (BitVec.ofInt 64 1073741823).toNat = 2 ^ 30 - 1 := by decide
 have key : (BitVec.ofInt 64 n &&& BitVec.ofInt 64 1073741823).toNat = (n % ((2 ^ 64 : Nat) : Int)).toNat % 2 ^ 30 := by
  rw [BitVec.toNat_and, BitVec.toNat_ofInt, h127, Nat.and_two_pow_sub_one_eq_mod]
 have e : bits .and .i64 n 1073741823 = IntKind.i64.wrap ((BitVec.ofInt 64 n &&& BitVec.ofInt 64 1073741823).toNat : Nat) := rfl
 rw [e, key, IntKind.wrap_i64]
 omega
end
section
open Go.RowKit
structure Only (b : Nat) (w w' : World) : Prop where
 os : w'.os = w.os
 tape : w'.tape = w.tape
 output : w'.output = w.output
 size : w.heap.size <= w'.heap.size
 block : ∀ k, k < w.heap.size -> k ≠ b -> w'.heap[k]? = w.heap[k]?
theorem Only.refl (b : Nat) (w : World) : Only b w w := ⟨rfl, rfl, rfl, Nat.le_refl _, fun _ _ _ => rfl⟩
theorem Only.trans {b : Nat} {x y z : World} (h : Only b x y) (k : Only b y z) : Only b x z :=
 ⟨k.os.trans h.os, k.tape.trans h.tape, k.output.trans h.output, Nat.le_trans h.size k.size, fun i hi hb => (k.block i (Nat.lt_of_lt_of_le hi h.size) hb).trans (h.block i hi hb)⟩
theorem Only.alloc {b : Nat} {x w : World} (h : Only b x w) (o : Obj) : Only b x (w.alloc o) :=
 h.trans ⟨rfl, rfl, rfl, by simp, fun k hk _ => Below.heap_alloc _ _ _ hk⟩
theorem Only.setCell {b : Nat} {x w : World} (h : Only b x w) {p : Addr} (hp : p.block = b ∨ x.heap.size <= p.block) (u : Value) : Only b x (w.setCell p u) :=
 ⟨h.os, h.tape, h.output, by simpa [World.setCell] using h.size, fun k hk hb => (Below.heap_setCell _ _ _ _ (by omega)).trans (h.block k hk hb)⟩
theorem Only.of_below {b : Nat} {w w' : World} (h : Below w.heap.size w w') : Only b w w' := ⟨h.os, h.tape, h.output, h.size, fun k hk _ => h.block k hk⟩
theorem Only.below {b B : Nat} {w w' : World} (h : Only b w w') (hb : B <= b) (hB : B <= w.heap.size) : Below B w w' := ⟨h.os, h.tape, h.output, h.size, fun k hk => h.block k (by omega) (by omega)⟩
theorem Only.cell {b : Nat} {w w' : World} (h : Only b w w') {p : Addr} (h1 : p.block < w.heap.size) (h2 : p.block ≠ b) : w'.cell? p = w.cell? p := World.cell?_of_block (w := w) (h.block p.block h1 h2)
theorem Only.frozen {b : Nat} {w w' : World} (h : Only b w w') {p : Addr} (h1 : p.block < w.heap.size) (h2 : p.block ≠ b) : w'.frozen? p = w.frozen? p := World.frozen?_of_block (w := w) (h.block p.block h1 h2)
theorem qzj (b : Nat) : ∀ (vs : List Value) (o : Nat) (w : World), Only b w (w.setCells b o vs)
 | [], _, w => Only.refl b w
 | v :: vs, o, w => ((Only.refl b w).setCell (p := ⟨b, o, none⟩) (Or.inl rfl) v).trans (qzj b vs (o + 1) (w.setCell ⟨b, o, none⟩ v))
structure But (S : Nat -> Prop) (w w' : World) : Prop where
 os : w'.os = w.os
 tape : w'.tape = w.tape
 output : w'.output = w.output
 size : w.heap.size <= w'.heap.size
 block : ∀ k, k < w.heap.size -> ¬ S k -> w'.heap[k]? = w.heap[k]?
theorem But.trans {S : Nat -> Prop} {x y z : World} (h : But S x y) (k : But S y z) : But S x z :=
 ⟨k.os.trans h.os, k.tape.trans h.tape, k.output.trans h.output, Nat.le_trans h.size k.size, fun i hi hb => (k.block i (Nat.lt_of_lt_of_le hi h.size) hb).trans (h.block i hi hb)⟩
theorem But.of_only {S : Nat -> Prop} {b : Nat} {w w' : World} (h : Only b w w') (hb : S b) : But S w w' := ⟨h.os, h.tape, h.output, h.size, fun k hk hn => h.block k hk (fun e => hn (e ▸ hb))⟩
theorem But.of_below {S : Nat -> Prop} {w w' : World} (h : Below w.heap.size w w') : But S w w' := ⟨h.os, h.tape, h.output, h.size, fun k hk _ => h.block k hk⟩
theorem But.mono {S S' : Nat -> Prop} {w w' : World} (h : But S w w') (hS : ∀ k, S k -> S' k) : But S' w w' := ⟨h.os, h.tape, h.output, h.size, fun k hk hn => h.block k hk (fun e => hn (hS k e))⟩
theorem But.below {S : Nat -> Prop} {B : Nat} {w w' : World} (h : But S w w') (hB : B <= w.heap.size) (hS : ∀ k, S k -> B <= k) : Below B w w' := ⟨h.os, h.tape, h.output, h.size, fun k hk => h.block k (by omega) (fun e => by have := hS k e; omega)⟩
theorem But.cell {S : Nat -> Prop} {w w' : World} (h : But S w w') {p : Addr} (h1 : p.block < w.heap.size) (h2 : ¬ S p.block) : w'.cell? p = w.cell? p := World.cell?_of_block (w := w) (h.block p.block h1 h2)
theorem But.frozen {S : Nat -> Prop} {w w' : World} (h : But S w w') {p : Addr} (h1 : p.block < w.heap.size) (h2 : ¬ S p.block) : w'.frozen? p = w.frozen? p := World.frozen?_of_block (w := w) (h.block p.block h1 h2)
theorem But.range {S : Nat -> Prop} {w w' : World} (h : But S w w') {b o : Nat} {cs : List Value} (R : w.rangeAt b o cs) (h1 : b < w.heap.size) (h2 : ¬ S b) : w'.rangeAt b o cs := fun j v hv => (h.cell (p := ⟨b, o + j, none⟩) h1 h2).trans (R j v hv)
theorem But.there {S : Nat -> Prop} {w w' : World} (h : But S w w') {b o n : Nat} (T : w.there b o n) (h1 : b < w.heap.size) (h2 : ¬ S b) : w'.there b o n := fun j hj => by rw [h.cell (p := ⟨b, o + j, none⟩) h1 h2, h.frozen (p := ⟨b, o + j, none⟩) h1 h2]; exact T j hj
end
section
def qz1h (B : Nat) (w : World) (a : Option Addr) (len : Nat) : Prop :=
 ∀ j, j < len -> ∃ bb off v, a = some ⟨bb, off, none⟩ /\ bb < B /\ w.cell? ⟨bb, off + j, none⟩ = some (.int .u8 v) /\ 0 <= v /\ v <= 255
theorem qz1h.below {B : Nat} {w w' : World} {a : Option Addr} {len : Nat} (h : qz1h B w a len) (hb : Below B w w') : qz1h B w' a len := by
 intro j hj
 obtain ⟨bb, off, v, h1, h2, h3, h4⟩ := h j hj
 exact ⟨bb, off, v, h1, h2, (hb.cell (p := ⟨bb, off + j, none⟩) h2).trans h3, h4⟩
structure qz1s (k : IntKind) (w : World) (b : Nat) (a : Option Addr) (len cap : Nat) (i h : Int) : Prop where
 c0 : w.cell? ⟨b, 0, none⟩ = some (.slice a len cap)
 c1 : w.cell? ⟨b, 1, none⟩ = some (.int .i64 i)
 c2 : w.cell? ⟨b, 2, none⟩ = some (.int k h)
 f1 : w.frozen? ⟨b, 1, none⟩ = false
 f2 : w.frozen? ⟨b, 2, none⟩ = false
 lo : 0 <= i
 hi : i <= len
 blk : b < w.heap.size
theorem qz1s.set2 {k : IntKind} {w : World} {b : Nat} {a : Option Addr} {len cap : Nat} {i h : Int} (D : qz1s k w b a len cap i h) (h' : Int) : qz1s k (w.setCell ⟨b, 2, none⟩ (.int k h')) b a len cap i h' := by
 obtain ⟨c0, c1, c2, f1, f2, lo, hi, blk⟩ := D
 exact ⟨(World.cell?_setCell_other _ _ _ _ (by simp)).trans c0, (World.cell?_setCell_other _ _ _ _ (by simp)).trans c1, World.cell?_setCell_same _ _ _ c2, (World.frozen?_setCell _ _ _ _).trans f1, (World.frozen?_setCell _ _ _ _).trans f2, lo, hi, by rw [World.size_setCell]; exact blk⟩
theorem qz1s.set1 {k : IntKind} {w : World} {b : Nat} {a : Option Addr} {len cap : Nat} {i h : Int} (D : qz1s k w b a len cap i h) (hi' : i + 1 <= len) : qz1s k (w.setCell ⟨b, 1, none⟩ (.int .i64 (i + 1))) b a len cap (i + 1) h := by
 obtain ⟨c0, c1, c2, f1, f2, lo, hi, blk⟩ := D
 exact ⟨(World.cell?_setCell_other _ _ _ _ (by simp)).trans c0, World.cell?_setCell_same _ _ _ c1, (World.cell?_setCell_other _ _ _ _ (by simp)).trans c2, (World.frozen?_setCell _ _ _ _).trans f1, (World.frozen?_setCell _ _ _ _).trans f2, by omega, hi', by rw [World.size_setCell]; exact blk⟩
theorem qz1s.drewN {k : IntKind} {w : World} {b : Nat} {a : Option Addr} {len cap : Nat} {i h : Int} (D : qz1s k w b a len cap i h) (m : Nat) : qz1s k (w.drewN m) b a len cap i h := by
 obtain ⟨c0, c1, c2, f1, f2, lo, hi, blk⟩ := D
 exact ⟨c0, c1, c2, f1, f2, lo, hi, blk⟩
theorem qz1s.only {k : IntKind} {w w' : World} {b c : Nat} {a : Option Addr} {len cap : Nat} {i h : Int} (D : qz1s k w b a len cap i h) (hO : Only c w w') (hne : b ≠ c) : qz1s k w' b a len cap i h := by
 obtain ⟨c0, c1, c2, f1, f2, lo, hi, blk⟩ := D
 exact ⟨(hO.cell (p := ⟨b, 0, none⟩) blk hne).trans c0, (hO.cell (p := ⟨b, 1, none⟩) blk hne).trans c1, (hO.cell (p := ⟨b, 2, none⟩) blk hne).trans c2, (hO.frozen (p := ⟨b, 1, none⟩) blk hne).trans f1, (hO.frozen (p := ⟨b, 2, none⟩) blk hne).trans f2, lo, hi, Nat.lt_of_lt_of_le blk hO.size⟩
theorem qz1s.below {k : IntKind} {w w' : World} {b : Nat} {a : Option Addr} {len cap : Nat} {i h : Int} (D : qz1s k w b a len cap i h) (hb : Below w.heap.size w w') : qz1s k w' b a len cap i h := by
 obtain ⟨c0, c1, c2, f1, f2, lo, hi, blk⟩ := D
 exact ⟨(hb.cell (p := ⟨b, 0, none⟩) blk).trans c0, (hb.cell (p := ⟨b, 1, none⟩) blk).trans c1, (hb.cell (p := ⟨b, 2, none⟩) blk).trans c2, (hb.frozen (p := ⟨b, 1, none⟩) blk).trans f1, (hb.frozen (p := ⟨b, 2, none⟩) blk).trans f2, lo, hi, Nat.lt_of_lt_of_le blk hb.size⟩
theorem Only.drewN {b : Nat} {x w : World} (h : Only b x w) (m : Nat) : Only b x (w.drewN m) := ⟨h.os, h.tape, h.output, h.size, h.block⟩
theorem qz45 {n : Int} (x : Int) (hn : 1 <= n) : 0 <= x % n /\ x % n < n :=
 ⟨Int.emod_nonneg x (by omega), Int.emod_lt_of_pos x (by omega)⟩
theorem qzf8 (B b : Nat) (a : Option Addr) (len cap : Nat) (i h n : Int) (w : World) (hB : B <= b) (hlen : len <= 4096) (D : qz1s .u64 w b a len cap i h) (C : qz1h B w a len) (hn1 : 1 <= n) (hn2 : n <= 1000) :
  Calls Tryz.prog 65 #[.pointer (some ⟨b, 0, none⟩), .int .i64 n] w fun e w' => ∃ r i' h', e = .returned (.int .i64 r) /\ 0 <= r /\ r < n /\ qz1s .u64 w' b a len cap i' h' /\ Only b w w' := by
 have D0 := (show Hid _ from D)
 obtain ⟨c0, c1, c2, f1, f2, lo, hi, blk⟩ := D
 by_cases hlt : i < len
 ·obtain ⟨bb, off, v, rfl, hbb, hcv, v0, v1⟩ := C i.toNat (by omega)
  obtain ⟨iN, rfl⟩ := Int.eq_ofNat_of_zero_le lo
  simp only [Int.toNat_natCast] at hcv
  have hcv2 : ∀ h1 : Int, (w.setCell ⟨b, 2, none⟩ (.int .u64 h1)).cell? ⟨bb, off + iN, none⟩ = some (.int .u8 v) := fun h1 => (World.cell?_setCell_other _ _ _ _ (by intro e; have := congrArg Addr.block e; simp at this; omega)).trans hcv
  clear C
  go_enter Tryz.func65, Tryz.ntmps65
  go_wp2
  generalize IntKind.u64.wrap (IntKind.u64.wrap (h * 6364136223846793005) + 1442695040888963407) = h1
  have hm := qz8i (h1 / 8589934592)
  generalize bits BinOp.and IntKind.u64 (h1 / 8589934592) 16777215 = x1 at *
  obtain ⟨hm1, hm2⟩ := hm
  have hx : wrap64 x1 = x1 := by unfold wrap64; omega
  rw [hx]
  clear hx
  go_quiet (fail)
  go_wp2
  go_quiet (fail)
  go_wp2
  go_ret
  exact ⟨_, iN + 1, h1, rfl, (qz45 _ hn1).1, (qz45 _ hn1).2, (((D0.out.set2 h1).drewN _).set1 (by omega)), (((Only.refl b w).setCell (Or.inl rfl) _).drewN _).setCell (Or.inl rfl) _⟩
 ·clear C
  go_enter Tryz.func65, Tryz.ntmps65
  go_wp2
  generalize IntKind.u64.wrap (IntKind.u64.wrap (h * 6364136223846793005) + 1442695040888963407) = h1
  have hm := qz8i (h1 / 8589934592)
  generalize bits BinOp.and IntKind.u64 (h1 / 8589934592) 16777215 = x1 at *
  obtain ⟨hm1, hm2⟩ := hm
  have hx : wrap64 x1 = x1 := by unfold wrap64; omega
  rw [hx]
  clear hx
  go_quiet (fail)
  go_wp2
  go_ret
  exact ⟨_, i, h1, rfl, (qz45 _ hn1).1, (qz45 _ hn1).2, (D0.out.set2 h1).drewN nq, ((Only.refl b w).setCell (Or.inl rfl) _).drewN nq⟩
theorem qz1s.alloc_new (k : IntKind) (w : World) (a : Option Addr) (len cap : Nat) (h : Int) (T : TypeId) : qz1s k (w.alloc (.cells #[.slice a len cap, .int .i64 0, .int k h] T)) w.heap.size a len cap 0 h := by
 refine ⟨?_, ?_, ?_, ?_, ?_, by omega, by omega, by simp⟩ <;> simp
theorem qzdy (a : Option Addr) (len cap : Nat) (w : World) : Calls Tryz.prog 6 #[.slice a len cap] w fun e w' => e = .returned (.bool (decide (4096 < (len : Int)))) /\ w' = w := by
 go_enter Tryz.func6, Tryz.ntmps6
 go_wp2
 go_ret
 exact ⟨rfl, rfl⟩
theorem qza0 (a : Option Addr) (len cap : Nat) (w : World) (hlen : len <= 4096) (C : qz1h w.heap.size w a len) :
  Calls Tryz.prog 34 #[.slice a len cap] w fun e w' => e = .returned (.pointer (some ⟨w.heap.size, 0, none⟩)) /\ (∃ h, qz1s .i64 w' w.heap.size a len cap 0 h) /\ Below w.heap.size w w' := by
 go_enter Tryz.func34, Tryz.ntmps34
 go_wp2
 go_loop [3, 4] (fun hh i => ∃ (k : Nat) (x : Int), k <= len /\ i = .int .i64 k /\ hh = .int .i64 x /\ 0 <= x /\ x <= 1073741823) (fun _ i => len - (intOf i).toNat)
 case atStart => exact ⟨0, _, Nat.zero_le _, rfl, rfl, by omega, by omega⟩
 case round =>
  obtain ⟨k, x, hk, rfl, rfl, hx0, hx1⟩ := hrel
  by_cases hlt : k < len
  ·obtain ⟨bb, off, v, rfl, hbb, hcv, v0, v1⟩ := C k hlt
   clear C
   go_wp2
   have hm := qzch (x * 193 + v + 11)
   go_round
   case rel => exact ⟨k + 1, _, by omega, by go_num, rfl, hm.1, hm.2⟩
   case measure => simp [intOf]; omega
  ·go_wp2
   go_ret
   exact ⟨rfl, ⟨x, qz1s.alloc_new _ _ _ _ _ _ _⟩, (Below.refl _ _).alloc (Nat.le_refl _) _⟩
theorem qz4v (B b : Nat) (a : Option Addr) (len cap : Nat) (i h : Int) (w : World) (hB : B <= b) (hlen : len <= 4096) (D : qz1s .i64 w b a len cap i h) (C : qz1h B w a len) :
  Calls Tryz.prog 127 #[.pointer (some ⟨b, 0, none⟩)] w fun e w' => ∃ r i' h', e = .returned (.int .i64 r) /\ 0 <= r /\ r <= 255 /\ qz1s .i64 w' b a len cap i' h' /\ Only b w w' := by
 have D0 := (show Hid _ from D)
 obtain ⟨c0, c1, c2, f1, f2, lo, hi, blk⟩ := D
 by_cases hlt : i < len
 ·obtain ⟨bb, off, v, rfl, hbb, hcv, v0, v1⟩ := C i.toNat (by omega)
  obtain ⟨iN, rfl⟩ := Int.eq_ofNat_of_zero_le lo
  simp only [Int.toNat_natCast] at hcv
  have hcv2 : ∀ h1 : Int, (w.setCell ⟨b, 2, none⟩ (.int .i64 h1)).cell? ⟨bb, off + iN, none⟩ = some (.int .u8 v) := fun h1 => (World.cell?_setCell_other _ _ _ _ (by intro e; have := congrArg Addr.block e; simp at this; omega)).trans hcv
  clear C
  go_enter Tryz.func127, Tryz.ntmps127
  go_wp2
  generalize wrap64 (wrap64 (h * 6364136223846793005) + 1442695040888963407) = h1
  go_quiet (fail)
  go_wp2
  have hm := qz8b (bits BinOp.xor IntKind.i64 (h1 / 8589934592) (h1 / 35184372088832))
  generalize bits BinOp.and IntKind.i64 (bits BinOp.xor IntKind.i64 (h1 / 8589934592) (h1 / 35184372088832)) 255 = x1 at *
  obtain ⟨hm1, hm2⟩ := hm
  go_quiet (fail)
  go_wp2
  go_quiet (fail)
  go_wp2
  have hm := qz8b (x1 + v)
  go_ret
  exact ⟨_, iN + 1, h1, rfl, hm.1, hm.2, (((D0.out.set2 h1).drewN _).set1 (by omega)), (((Only.refl b w).setCell (Or.inl rfl) _).drewN _).setCell (Or.inl rfl) _⟩
 ·clear C
  go_enter Tryz.func127, Tryz.ntmps127
  go_wp2
  generalize wrap64 (wrap64 (h * 6364136223846793005) + 1442695040888963407) = h1
  go_quiet (fail)
  go_wp2
  have hm := qz8b (bits BinOp.xor IntKind.i64 (h1 / 8589934592) (h1 / 35184372088832))
  generalize bits BinOp.and IntKind.i64 (bits BinOp.xor IntKind.i64 (h1 / 8589934592) (h1 / 35184372088832)) 255 = x1 at *
  obtain ⟨hm1, hm2⟩ := hm
  go_quiet (fail)
  go_wp2
  go_ret
  exact ⟨_, i, h1, rfl, hm1, hm2, ((D0.out.set2 h1).drewN _).drewN _, (((Only.refl b w).setCell (Or.inl rfl) _).drewN _).drewN _⟩
theorem qz10 (B b : Nat) (a : Option Addr) (len cap : Nat) (i h n : Int) (w : World) (hB : B <= b) (hlen : len <= 4096) (D : qz1s .i64 w b a len cap i h) (C : qz1h B w a len) (hn1 : 1 <= n) (hn2 : n <= 4000000) :
  Calls Tryz.prog 79 #[.pointer (some ⟨b, 0, none⟩), .int .i64 n] w fun e w' => ∃ r i' h', e = .returned (.int .i64 r) /\ 0 <= r /\ r < n /\ qz1s .i64 w' b a len cap i' h' /\ qz1h B w' a len /\ Only b w w' := by
 have blk := D.blk
 by_cases hs : n <= 256
 ·go_enter Tryz.func79, Tryz.ntmps79
  go_wp2_with fail
  refine (qz4v B b a len cap i h w hB hlen D C).mono ?_
  rintro e w1 ⟨r, i1, h1, rfl, r0, r1, D1, O1⟩
  go_wp2
  go_ret
  exact ⟨_, i1, h1, rfl, (qz45 _ hn1).1, (qz45 _ hn1).2, D1, C.below (O1.below hB (by omega)), O1⟩
 ·go_enter Tryz.func79, Tryz.ntmps79
  go_wp2_with fail
  refine (qz4v B b a len cap i h w hB hlen D C).mono ?_
  rintro e w1 ⟨r1, i1, h1, rfl, r10, r11, D1, O1⟩
  have C1 := C.below (O1.below hB (by omega))
  go_wp2_with fail
  refine (qz4v B b a len cap i1 h1 w1 hB hlen D1 C1).mono ?_
  rintro e w2 ⟨r2, i2, h2, rfl, r20, r21, D2, O2⟩
  have C2 := C1.below (O2.below hB (by have := D1.blk; omega))
  go_wp2_with fail
  refine (qz4v B b a len cap i2 h2 w2 hB hlen D2 C2).mono ?_
  rintro e w3 ⟨r3, i3, h3, rfl, r30, r31, D3, O3⟩
  have C3 := C2.below (O3.below hB (by have := D2.blk; omega))
  go_wp2_with fail
  refine (qz4v B b a len cap i3 h3 w3 hB hlen D3 C3).mono ?_
  rintro e w4 ⟨r4, i4, h4, rfl, r40, r41, D4, O4⟩
  have C4 := C3.below (O4.below hB (by have := D3.blk; omega))
  go_wp2
  go_ret
  exact ⟨_, i4, h4, rfl, (qz45 _ hn1).1, (qz45 _ hn1).2, D4, C4, ((O1.trans O2).trans O3).trans O4⟩
theorem qz4d (B b : Nat) (a : Option Addr) (len cap : Nat) (i h n : Int) (w : World) (hB : B <= b) (hlen : len <= 4096) (D : qz1s .i64 w b a len cap i h) (C : qz1h B w a len) (hn1 : 1 <= n) (hn2 : n <= 4000000) :
  Calls Tryz.prog 78 #[.pointer (some ⟨b, 0, none⟩), .int .i64 n] w fun e w' => ∃ (r : Bool) (i' h' : Int), e = .returned (.bool r) /\ qz1s .i64 w' b a len cap i' h' /\ qz1h B w' a len /\ Only b w w' := by
 go_enter Tryz.func78, Tryz.ntmps78
 go_wp2_with fail
 refine (qz10 B b a len cap i h n w hB hlen D C hn1 hn2).mono ?_
 rintro e w1 ⟨r, i1, h1, rfl, r0, r1, D1, C1, O1⟩
 go_wp2
 go_ret
 exact ⟨_, i1, h1, rfl, D1, C1, O1⟩
theorem qz84 (x y : Int) (w : World) : Calls Tryz.prog 75 #[.int .i64 x, .int .i64 y] w fun e w' => e = .returned (.int .i64 (min x y)) /\ w' = w := by
 by_cases h : x < y
 ·go_enter Tryz.func75, Tryz.ntmps75
  go_wp2
  go_ret
  exact ⟨by rw [show min x y = x by omega]; rfl, rfl⟩
 ·go_enter Tryz.func75, Tryz.ntmps75
  go_wp2
  go_ret
  exact ⟨by rw [show min x y = y by omega]; rfl, rfl⟩
end
end Go.Proofs.YtclkglkhhnapiaaGreat
