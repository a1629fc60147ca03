/-
  What the law's proof goes by, part 1.
-/
import Derived.Test.YthjkdnlmopafkaaRows
import Derived.WalkKit
import Derived.ProofKit
import Derived.OpenShut
import Derived.ShutString
import Derived.ChangeOld
import Derived.Below
import Derived.Lib.SmallJoins
import Derived.Laws.Bits128
import Derived.Deep.MidRow
import Derived.Deep.QuietTactic
import Derived.BigQuiet
import Derived.RegionTactic
import Derived.ChangeAlike
namespace Go.Proofs.Ythjkdnlmopafkaa
open Go.ChangeShapes Go.WideShapes Go.ChangeAt Go.RowKit
set_option maxRecDepth 100000
set_option maxHeartbeats 16000000
set_option linter.unusedVariables false
set_option linter.unusedSimpArgs false
set_option linter.unnecessarySimpa false
set_option linter.unusedSectionVars false
set_option hygiene false
scoped notation "Q67" => w.heap.size
scoped notation "Q68" => Option.some.inj
scoped notation "Q69" => A.nodes.length
scoped notation "Q6a" => A.vers.length
scoped notation "Q6b" => wpList_store_mid
scoped notation "Q6c" => Below.refl
scoped notation "Q6d" => World.rangeAt_setCells_same
scoped notation "Q6e" => A.camera
scoped notation "Q6f" => Nat.le_refl
scoped notation "Q6g" => Try.underlying56
scoped notation "Q6h" => wpList_load_mid
scoped notation "Q6i" => l.toArray.size
scoped notation "Q6j" => w1.heap.size
scoped notation "Q6k" => Try.underlying143
scoped notation "Q6l" => Nat.lt_of_lt_of_le
scoped notation "Q6m" => W.hands.length
scoped notation "Q6n" => w0.heap.size
scoped notation "Q6o" => A.slots.length
scoped notation "Q6p" => A.guides.length
scoped notation "Q6q" => W.calls.length
scoped notation "Q6r" => W.ticks.length
scoped notation "Q6s" => Nat.le_trans
scoped notation "Q6t" => W.deeds.length
scoped notation "Q6u" => World.rangeAt_setCells_apart
scoped notation "Q6v" => w2.heap.size
scoped notation "Q6w" => World.rangeAt_alloc
scoped notation "Q6x" => Try.underlying35
scoped notation "Q6y" => w5.heap.size
scoped notation "Q6z" => World.there_setCells
scoped notation "Q00" => #[.int .i64 0, .int .i64 0, .int .i64 0, .int .i64 0, .int .i64 0, .int .i64 0, .int .i64 0, .int .i64 0, .int .i64 0, .int .i64 0, .int .i64 0, .int .i64 0, .int .i64 0, .int .i64 0, .int .i64 0, .int .i64 0, .int .i64 0, .int .i64 0, .int .i64 0, .int .i64 0, .int .i64 0, .int .i64 0]
scoped notation "Q01" => #[.int .i64 0, .slice none 0 0, .slice none 0 0, .slice none 0 0, .slice none 0 0, .int .i64 0, .int .i64 0, .int .i64 0, .int .i64 0, .int .i64 0, .int .i64 0, .int .i64 0, .int .i64 0, .int .i64 0, .int .i64 0, .int .i64 0, .int .i64 0, .int .i64 0, .int .i64 0, .int .i64 0, .int .i64 0, .int .i64 0, .int .i64 0, .int .i64 0, .int .i64 0, .int .i64 0, .int .i64 0, .int .i64 0, .int .i64 0, .int .i64 0, .int .i64 0, .int .i64 0, .bool false]
scoped notation "Q02" => #[.int .i64 0, .int .i64 0, .int .i64 0, .int .i64 0, .int .i64 0, .slice none 0 0, .slice none 0 0, .slice none 0 0, .slice none 0 0, .slice none 0 0, .slice none 0 0, .slice none 0 0, .slice none 0 0, .int .i64 0]
scoped notation "Q03" => #[.int .i64 Q6e, .slice a0 Q6o c0, .slice a1 Q6p c1, .slice a2 Q69 c2, .slice a3 Q6a c3]
scoped notation "Q04" => #[.int .i64 x, .int .i64 y, .int .i64 z, .int .i64 u, .int .i64 W.A.camera, .slice a0 W.A.slots.length c0, .slice a1 W.A.guides.length c1, .slice a2 W.A.nodes.length c2, .slice a3 W.A.vers.length c3, .slice (some ⟨hb, ho, none⟩) Q6m c4, .slice a5 Q6q c5, .slice a6 Q6t c6, .slice a7 Q6r c7, .int .i64 W.now]
scoped notation "Q05" => (.slice (some ⟨rb, 0, none⟩) Q6a rc)
scoped notation "Q06" => (.slice ga Q6p gc)
scoped notation "Q07" => #[.int .i64 h.at_, .int .i64 h.then_, .int .i64 h.code, .int .i64 h.key, .int .i64 h.value, .int .i64 h.begin, .int .i64 h.reply, .int .i64 h.out, .int .i64 h.sum, .int .i64 h.held, .int .i64 h.x_, .int .i64 h.ver, .int .i64 h.cam, .int .i64 h.camAt, .int .i64 h.pred, .int .i64 h.predVer, .int .i64 h.curr, .int .i64 h.currVer, .int .i64 h.new_, .int .i64 h.least, .int .i64 h.index, .int .i64 h.round]
scoped notation "Q08" => #[.int .i64 x, .int .i64 y, .int .i64 z, .int .i64 u]
scoped notation "Q09" => (.slice sa Q6o sc)
scoped notation "Q0a" => (.slice na Q69 nc)
scoped notation "Q0b" => (.slice (some ⟨nb, 0, none⟩) Q69 nc)
scoped notation "Q0c" => #[.int .i64 x, .int .i64 y, .int .i64 z, .int .i64 u, .int .i64 W.A.camera, .slice a0 W.A.slots.length c0, .slice a1 W.A.guides.length c1, .slice a2 W.A.nodes.length c2, .slice a3 W.A.vers.length c3, .slice a4 Q6m c4, .slice a5 Q6q c5, .slice a6 Q6t c6, .slice a7 Q6r c7, .int .i64 W.now]
scoped notation "Q0d" => #[.int .i64 0, .slice none 0 0, .slice none 0 0, .slice none 0 0, .slice none 0 0]
scoped notation "Q0e" => (.slice (some ⟨sb, 0, none⟩) Q6o sc)
scoped notation "Q0f" => #[.int .i64 x, .int .i64 y, .int .i64 z, .int .i64 u, .int .i64 W.A.camera, .slice sa6 W.A.slots.length sc6, .slice ga6 W.A.guides.length gc6, .slice na6 W.A.nodes.length nc6, .slice ra6 W.A.vers.length rc6, .slice (some ⟨hg, 0, none⟩) Q6m hcap, .slice ca Q6q cc, .slice da Q6t dc, .slice ta Q6r tc, .int .i64 (W.now)]
scoped notation "Q0g" => (wdC x y z u W.A.camera (.slice a0 W.A.slots.length c0) (.slice a1 W.A.guides.length c1) (.slice a2 W.A.nodes.length c2) (.slice a3 W.A.vers.length c3) (.slice a4 Q6m c4) (.slice a5 Q6q c5) (.slice a6 Q6t c6) (.slice a7 Q6r c7) W.now)
scoped notation "Q0h" => (.slice ra Q6a rc)
scoped notation "Q0i" => (.slice (some ⟨gb, 0, none⟩) Q6p gc)
scoped notation "Q0j" => [.int .i64 0, .slice none 0 0, .slice none 0 0, .slice none 0 0, .slice none 0 0, .int .i64 0, .int .i64 0, .int .i64 0, .int .i64 0, .int .i64 0, .int .i64 0, .int .i64 0, .int .i64 0, .int .i64 0, .int .i64 0, .int .i64 0, .int .i64 0, .int .i64 0, .int .i64 0, .int .i64 0, .int .i64 0, .int .i64 0, .int .i64 0, .int .i64 0, .int .i64 0, .int .i64 0, .int .i64 0, .int .i64 0, .int .i64 0, .int .i64 0, .int .i64 0, .int .i64 0, .bool false]
scoped notation "Q0k" => [.int .i64 Q6e, .slice a0 Q6o c0, .slice a1 Q6p c1, .slice a2 Q69 c2, .slice a3 Q6a c3]
scoped notation "Q0l" => [.int .i64 x, .int .i64 y, .int .i64 z, .int .i64 u, .int .i64 W.A.camera, .slice sa6 W.A.slots.length sc6, .slice ga6 W.A.guides.length gc6, .slice na6 W.A.nodes.length nc6, .slice ra6 W.A.vers.length rc6, .slice (some ⟨hg, 0, none⟩) Q6m hcap, .slice ca Q6q cc, .slice da Q6t dc, .slice ta Q6r tc, .int .i64 (W.now)]
scoped notation "Q0m" => [.int .i64 0, .int .i64 0, .int .i64 0, .int .i64 0, .int .i64 0, .int .i64 0, .int .i64 0, .int .i64 0, .int .i64 0, .int .i64 0, .int .i64 0, .int .i64 0, .int .i64 0, .int .i64 0, .int .i64 0, .int .i64 0, .int .i64 0, .int .i64 0, .int .i64 0, .int .i64 0, .int .i64 0, .int .i64 0]
scoped notation "Q0n" => [.int .i64 xN, .int .i64 y, .int .i64 z, .int .i64 uN, .int .i64 0, .slice (some ⟨sg, 0, none⟩) xN sc, .slice (some ⟨gb, 0, none⟩) uN uN, .slice (some ⟨nb, 0, none⟩) 1 1, .slice (some ⟨vb, 0, none⟩) 1 1, .slice (some ⟨hg, 0, none⟩) xN hc, .slice none 0 0, .slice none 0 0, .slice none 0 0, .int .i64 0]
scoped notation "Q0o" => [.int .i64 x, .int .i64 y, .int .i64 z, .int .i64 u, .int .i64 W.A.camera, .slice a0 W.A.slots.length c0, .slice a1 W.A.guides.length c1, .slice a2 W.A.nodes.length c2, .slice a3 W.A.vers.length c3, .slice (some ⟨hb, ho, none⟩) Q6m c4, .slice a5 Q6q c5, .slice a6 Q6t c6, .slice a7 Q6r c7, .int .i64 W.now]
scoped notation "Q0p" => [.int .i64 xN, .int .i64 (3 + r6), .int .i64 (10 + r4), .int .i64 uN, .int .i64 0, .slice (some ⟨sg, 0, none⟩) xN sc, .slice (some ⟨gb, 0, none⟩) uN uN, .slice (some ⟨nb, 0, none⟩) 1 1, .slice (some ⟨vb, 0, none⟩) 1 1, .slice (some ⟨hg, 0, none⟩) xN hc, .slice none 0 0, .slice none 0 0, .slice none 0 0, .int .i64 0]
scoped notation "Q0q" => (.cells (hdC h).toArray 56)
scoped notation "Q0r" => [.int .i64 xN, .int .i64 30, .int .i64 200, .int .i64 uN, .int .i64 0, .slice (some ⟨sg, 0, none⟩) xN sc, .slice (some ⟨gb, 0, none⟩) uN uN, .slice (some ⟨nb, 0, none⟩) 1 1, .slice (some ⟨vb, 0, none⟩) 1 1, .slice (some ⟨hg, 0, none⟩) xN hc, .slice none 0 0, .slice none 0 0, .slice none 0 0, .int .i64 0]
scoped notation "Q0s" => [.int .i64 x, .int .i64 y, .int .i64 z, .int .i64 u, .int .i64 W.A.camera, .slice sa6 W.A.slots.length sc6, .slice ga6 W.A.guides.length gc6, .slice na6 W.A.nodes.length nc6, .slice ra6 W.A.vers.length rc6, .slice (some ⟨hg, 0, none⟩) Q6m hcap, .slice ca Q6q cc, .slice da Q6t dc, .slice ta Q6r tc, .int .i64 (W.now + 1)]
scoped notation "Q0t" => (wdC x y z u W.A.camera (.slice sa6 W.A.slots.length sc6) (.slice ga6 W.A.guides.length gc6) (.slice na6 W.A.nodes.length nc6) (.slice ra6 W.A.vers.length rc6) (.slice (some ⟨hg, 0, none⟩) Q6m hcap) (.slice ca Q6q cc) (.slice da Q6t dc) (.slice ta Q6r tc) W.now)
scoped notation "Q0u" => #[.int .i64 xN, .int .i64 y, .int .i64 z, .int .i64 uN, .int .i64 0, .slice (some ⟨sg, 0, none⟩) xN sc, .slice (some ⟨gb, 0, none⟩) uN uN, .slice (some ⟨nb, 0, none⟩) 1 1, .slice (some ⟨vb, 0, none⟩) 1 1, .slice none 0 0, .slice none 0 0, .slice none 0 0, .slice none 0 0, .int .i64 0]
scoped notation "Q0v" => (qzy _ _ _ _ _ _ _ _ _ _ _ _ _ _ _ _)
scoped notation "Q0w" => [.int .i64 0, .slice (some ⟨g, 0, none⟩) k cap, .slice (some ⟨Q6j, 0, none⟩) uN uN, .slice (some ⟨Q6j + 1, 0, none⟩) 1 1, .slice (some ⟨Q6j + 1 + 1, 0, none⟩) 1 1]
scoped notation "Q0x" => ((w1.setCell ⟨Q67 + 1, 17, none⟩ (.int .i64 h.ver)).drewN nq)
scoped notation "Q0y" => (.cells #[.int .i64 A.vers[v].next, .bool A.vers[v].gone, .int .i64 A.vers[v].stamp, .int .i64 A.vers[v].prev, .int .i64 A.vers[v].kind] 54)
scoped notation "Q0z" => (.slice ga2 A2.guides.length gc2)
scoped notation "Q10" => (.slice sa2 A2.slots.length sc2)
scoped notation "Q11" => (qz3a k 0 (Array.replicate Q6i false))
scoped notation "Q12" => (.slice ra2 A2.vers.length rc2)
scoped notation "Q13" => (w2.setCells Q6j 0 [.int .i64 xN, .int .i64 y, .int .i64 z, .int .i64 uN, .int .i64 0, .slice (some ⟨sg, 0, none⟩) xN sc, .slice (some ⟨gb, 0, none⟩) uN uN, .slice (some ⟨nb, 0, none⟩) 1 1, .slice (some ⟨vb, 0, none⟩) 1 1, .slice none 0 0, .slice none 0 0, .slice none 0 0, .slice none 0 0, .int .i64 0])
scoped notation "Q14" => (qz9 Q6e Q09 Q06 Q0a Q0h h d tk)
scoped notation "Q15" => #[.int .i64 x, .int .i64 y, .int .i64 z, .int .i64 u, .int .i64 0, .slice (some ⟨sg, 0, none⟩) xN sc, .slice (some ⟨gb, 0, none⟩) uN uN, .slice (some ⟨nb, 0, none⟩) 1 1, .slice (some ⟨vb, 0, none⟩) 1 1, .slice (some ⟨hg, 0, none⟩) xN hc, .slice none 0 0, .slice none 0 0, .slice none 0 0, .int .i64 0]
scoped notation "Q16" => (qz10 x y z u A h d tk me clock)
scoped notation "Q17" => (.slice a0 Q6o c0)
scoped notation "Q18" => (.slice a1 Q6p c1)
scoped notation "Q19" => [.int .i64 x, .int .i64 y, .int .i64 z, .int .i64 u, .int .i64 As.camera, .slice sa sl0 sc, .slice ga gl0 gc, .slice na nl0 nc, .slice ra rl0 rc, .slice (some ⟨hg, 0, none⟩) Q6m hcap, .slice ca Q6q cc, .slice da Q6t dc, .slice ta Q6r tc, .int .i64 (W.now + 1)]
scoped notation "Q1a" => (qz9 Q6e (.slice sa2 (qz1y x y z u A h).1.slots.length sc2) (.slice ga2 (qz1y x y z u A h).1.guides.length gc2) (.slice na2 (qz1y x y z u A h).1.nodes.length nc2) (.slice ra2 (qz1y x y z u A h).1.vers.length rc2) (qz1y x y z u A h).2 d tk)
scoped notation "Q1b" => (.slice a2 Q69 c2)
scoped notation "Q1c" => [.int .i64 W.A.camera, .slice a0 W.A.slots.length c0, .slice a1 W.A.guides.length c1, .slice a2 W.A.nodes.length c2, .slice a3 W.A.vers.length c3]
scoped notation "Q1d" => [.int .i64 A'.camera, .slice d0 A'.slots.length e0, .slice d1 A'.guides.length e1, .slice d2 A'.nodes.length e2, .slice d3 A'.vers.length e3]
scoped notation "Q1e" => (.slice na2 A2.nodes.length nc2)
scoped notation "Q1f" => (.slice (some ⟨bb, off, none⟩) Q6a c3)
scoped notation "Q1g" => [.int .i64 x, .int .i64 y, .int .i64 z, .int .i64 u]
scoped notation "Q1h" => #[.int .i64 W.A.camera, .slice a0 W.A.slots.length c0, .slice a1 W.A.guides.length c1, .slice a2 W.A.nodes.length c2, .slice a3 W.A.vers.length c3]
scoped notation "Q1i" => [.int .i64 x, .int .i64 y, .int .i64 z, .int .i64 u, .int .i64 As.camera, .slice sa sl0 sc, .slice ga gl0 gc, .slice na nl0 nc, .slice ra rl0 rc, .slice (some ⟨hg, 0, none⟩) Q6m hcap, .slice ca2 (Q6q + 1) cc2, .slice da2 (Q6t + 1) dc2, .slice ta Q6r tc, .int .i64 (W.now + 1)]
scoped notation "Q1j" => [.int .i64 x, .int .i64 y, .int .i64 z, .int .i64 u, .int .i64 As.camera, .slice sa sl0 sc, .slice ga gl0 gc, .slice na nl0 nc, .slice ra rl0 rc, .slice (some ⟨hg, 0, none⟩) Q6m hcap, .slice ca2 (Q6q + 1) cc2, .slice da Q6t dc, .slice ta2 (Q6r + 1) tc2, .int .i64 (W.now + 1)]
scoped notation "Q1k" => [.int .i64 x, .int .i64 y, .int .i64 z, .int .i64 u, .int .i64 As.camera, .slice sa sl0 sc, .slice ga gl0 gc, .slice na nl0 nc, .slice ra rl0 rc, .slice (some ⟨hg, 0, none⟩) Q6m hcap, .slice ca2 (Q6q + 1) cc2, .slice da Q6t dc, .slice ta Q6r tc, .int .i64 (W.now + 1)]
scoped notation "Q1l" => [.int .i64 x, .int .i64 y, .int .i64 z, .int .i64 u, .int .i64 As.camera, .slice sa sl0 sc, .slice ga gl0 gc, .slice na nl0 nc, .slice ra rl0 rc, .slice (some ⟨hg, 0, none⟩) Q6m hcap, .slice ca Q6q cc, .slice da2 (Q6t + 1) dc2, .slice ta Q6r tc, .int .i64 (W.now + 1)]
scoped notation "Q1m" => #[.int .i64 0, .int .i64 0, .int .i64 0, .int .i64 0]
scoped notation "Q1n" => (qz9 As.camera (.slice sa sl0 sc) (.slice ga gl0 gc) (.slice na nl0 nc) (.slice ra rl0 rc) Hn En Tn)
scoped notation "Q1o" => [.int .i64 Q6e, .slice sa Q6o sc, .slice ga Q6p gc, .slice (some ⟨nb, 0, none⟩) Q69 nc, .slice ra2 (Q6a + 1) rc2]
scoped notation "Q1p" => (qz9 Q6e (.slice sa2 (qz18 z A h.pred h.predVer (newI h) false 1).1.slots.length sc2) (.slice ga2 (qz18 z A h.pred h.predVer (newI h) false 1).1.guides.length gc2) (.slice na2 (qz18 z A h.pred h.predVer (newI h) false 1).1.nodes.length nc2) (.slice ra2 (qz18 z A h.pred h.predVer (newI h) false 1).1.vers.length rc2) (qz6j (qz18 z A h.pred h.predVer (newI h) false 1).2 h h.pred 4) d tk)
scoped notation "Q1q" => #[.int .i64 Q6e, .slice sa Q6o sc, .slice ga Q6p gc, .slice (some ⟨nb, 0, none⟩) Q69 nc, .slice ra Q6a rc]
scoped notation "Q1r" => #[.int .i64 xN, .int .i64 y, .int .i64 z, .int .i64 uN]
scoped notation "Q1t" => (.slice a3 Q6a c3)
scoped notation "Q1u" => (qz9 Q6e Q09 Q0i Q0b Q05 h d tk)
scoped notation "Q1v" => #[.agg Q08, .agg (qz9 Q6e s g n r h d tk).toArray, .int .i64 me, .int .i64 clock]
scoped notation "Q1w" => [.int .i64 x, .int .i64 y, .int .i64 z, .int .i64 u, .int .i64 W.A.camera, .slice sa W.A.slots.length sc, .slice ga W.A.guides.length gc, .slice na W.A.nodes.length nc, .slice ra W.A.vers.length rc, .slice ha Q6m hc, .slice ca Q6q cc, .slice da Q6t dc, .slice ta Q6r tc, .int .i64 W.now]
scoped notation "Q1x" => [.int .i64 xN, .int .i64 y, .int .i64 z, .int .i64 uN, .int .i64 0, .slice (some ⟨sg, 0, none⟩) xN sc, .slice (some ⟨gb, 0, none⟩) uN uN, .slice (some ⟨nb, 0, none⟩) 1 1, .slice (some ⟨vb, 0, none⟩) 1 1]
scoped notation "Q1y" => (.slice (some ⟨hg, 0, none⟩) Q6m hcap)
scoped notation "Q1z" => #[.int .i64 Q6e, .slice sa Q6o sc, .slice ga Q6p gc, .slice na Q69 nc, .slice (some ⟨rb, 0, none⟩) Q6a rc]
scoped notation "Q20" => (.slice (some ⟨rb, 0, none⟩) Q6a c3)
scoped notation "Q21" => (wdC x y z u W2.A.camera (.slice sa W2.A.slots.length sc') (.slice ga W2.A.guides.length gc') (.slice na W2.A.nodes.length nc') (.slice ra W2.A.vers.length rc') (.slice ha W2.hands.length hc') (.slice ca W2.calls.length cc') (.slice da W2.deeds.length dc') (.slice ta W2.ticks.length tc') W2.now)
scoped notation "Q22" => (((((w2.setCell ⟨Q67 + 1, 0, none⟩ (.int .i64 Q6e)).setCell ⟨Q67 + 1, 1, none⟩ Q10).setCell ⟨Q67 + 1, 2, none⟩ Q0z).setCell ⟨Q67 + 1, 3, none⟩ (.slice (some ⟨nb2, 0, none⟩) A2.nodes.length nc2)).setCell ⟨Q67 + 1, 4, none⟩ Q12)
scoped notation "Q23" => (.slice (some ⟨sb, 0, none⟩) Q6o c0)
scoped notation "Q24" => (.slice (some ⟨nb, 0, none⟩) Q69 c2)
scoped notation "Q25" => (.slice ra2 (Q6a + 1) rc2)
scoped notation "Q26" => ((w.alloc (.cells Q04 35)).alloc (.cells Q02 35))
scoped notation "Q27" => (qz9 Q6e (.slice sa2 (qz22 A h d clock).1.slots.length sc2) (.slice ga2 (qz22 A h d clock).1.guides.length gc2) (.slice na2 (qz22 A h d clock).1.nodes.length nc2) (.slice ra2 (qz22 A h d clock).1.vers.length rc2) (qz22 A h d clock).2.1 (qz22 A h d clock).2.2 tk)
scoped notation "Q28" => (qz9 (qzl A h me tk).1.camera (.slice sa2 (qzl A h me tk).1.slots.length sc2) (.slice ga2 (qzl A h me tk).1.guides.length gc2) (.slice na2 (qzl A h me tk).1.nodes.length nc2) (.slice ra2 (qzl A h me tk).1.vers.length rc2) (qzl A h me tk).2.1 d (qzl A h me tk).2.2)
scoped notation "Q29" => #[.int .i64 0, .int .i64 0, .int .i64 0, .int .i64 0, .int .i64 0]
scoped notation "Q2a" => (qz9 Q6e Q09 Q0i Q0b Q05 (qz8 h 1 0 0) d tk)
scoped notation "Q2b" => (.slice (some ⟨gb, 0, none⟩) uN uN)
scoped notation "Q2c" => [.int .i64 Q6e, .slice sa Q6o sc, .slice ga Q6p gc, .slice (some ⟨nb, 0, none⟩) Q69 nc, .slice ra Q6a rc]
scoped notation "Q2d" => (((w.alloc (.cells Q08 25)).alloc (.cells (Q14).toArray 143)).alloc (.cells Q01 143))
scoped notation "Q2e" => (qz9 Q6e (.slice sa2 (qzu x y z u A h).1.slots.length sc2) (.slice ga2 (qzu x y z u A h).1.guides.length gc2) (.slice na2 (qzu x y z u A h).1.nodes.length nc2) (.slice ra2 (qzu x y z u A h).1.vers.length rc2) (qzu x y z u A h).2 d tk)
scoped notation "Q2f" => [.int .i64 x', .int .i64 y', .int .i64 z', .int .i64 u']
scoped notation "Q2g" => (qz9 (qz23 A h tk me) s' g' n' r' Q16.2.1 Q16.2.2.1 Q16.2.2.2)
scoped notation "Q2h" => (.slice (some ⟨nb, 0, none⟩) 1 1)
scoped notation "Q2i" => (((w.alloc (.cells Q03 30)).alloc Q0q).alloc (.cells Q00 56))
scoped notation "Q2j" => (.slice (some ⟨sg, 0, none⟩) xN sc)
scoped notation "Q2k" => (qz9 Q6e (.slice sa2 (qz37 y z A h).1.slots.length sc2) (.slice ga2 (qz37 y z A h).1.guides.length gc2) (.slice na2 (qz37 y z A h).1.nodes.length nc2) (.slice ra2 (qz37 y z A h).1.vers.length rc2) (qz37 y z A h).2 d tk)
scoped notation "Q2l" => (.slice (some ⟨vb, 0, none⟩) 1 1)
scoped notation "Q2m" => [.int .i64 0, .int .i64 0, .int .i64 0, .int .i64 0, .int .i64 0, .slice none 0 0, .slice none 0 0, .slice none 0 0, .slice none 0 0, .slice none 0 0, .slice none 0 0, .slice none 0 0, .slice none 0 0, .int .i64 0]
scoped notation "Q2n" => (hdC (qz8 H' 4 h.out h.sum))
scoped notation "Q2o" => #[.agg Q08, .agg (qz9 Q6e s g n r h d tk).toArray]
scoped notation "Q2p" => (qz9 Q6e (.slice sa2 (qz43 A h).1.slots.length sc2) (.slice ga2 (qz43 A h).1.guides.length gc2) (.slice na2 (qz43 A h).1.nodes.length nc2) (.slice ra2 (qz43 A h).1.vers.length rc2) (qz43 A h).2 d tk)
scoped notation "Q2q" => (hdC (qz8 H' 4 (min (h.out + 1) 1000000) (min (h.sum + A.nodes[n].value) 1000000)))
scoped notation "Q2s" => (.slice (some ⟨gb, 0, none⟩) Q6p c1)
scoped notation "Q2t" => #[.int .i64 x, .int .i64 y, .int .i64 z, .int .i64 u, .int .i64 W.A.camera, .slice sa6 W.A.slots.length sc6, .slice ga6 W.A.guides.length gc6, .slice na6 W.A.nodes.length nc6, .slice ra6 W.A.vers.length rc6, .slice (some ⟨hg, 0, none⟩) Q6m hcap, .slice ca Q6q cc, .slice da Q6t dc, .slice ta Q6r tc, .int .i64 (W.now + 1)]
scoped notation "Q2u" => (.slice ca2 (Q6q + 1) cc2)
scoped notation "Q2v" => #[.int .i64 c.proc, .int .i64 c.code, .int .i64 c.key, .int .i64 c.value, .int .i64 c.begin, .int .i64 c.end_, .int .i64 c.reply, .int .i64 c.out, .int .i64 c.sum, .int .i64 c.held]
scoped notation "Q2w" => #[.int .i64 Q6e, .slice sa Q6o sc, .slice ga Q6p gc, .slice (some ⟨nb, 0, none⟩) Q69 nc, .slice (some ⟨rb, 0, none⟩) Q6a rc]
scoped notation "Q2x" => (qz9 Q6e Q0e Q06 Q0a Q0h (qz8 H' 4 h.cam 0) d tk)
scoped notation "Q2y" => (.slice ca Q6q cc)
scoped notation "Q2z" => (.slice (some ⟨nb2, 0, none⟩) A2.nodes.length nc2)
scoped notation "Q30" => (qz18 z A h.pred h.predVer A.vers[ck].next false 0)
scoped notation "Q31" => #[.int .i64 x, .int .i64 y, .int .i64 z, .int .i64 u, .int .i64 W.A.camera, .slice sa W.A.slots.length sc, .slice ga W.A.guides.length gc, .slice na W.A.nodes.length nc, .slice ra W.A.vers.length rc, .slice ha Q6m hc, .slice ca Q6q cc, .slice da Q6t dc, .slice ta Q6r tc, .int .i64 W.now]
scoped notation "Q32" => [.int .i64 x, .int .i64 y, .int .i64 z, .int .i64 u, .int .i64 W.A.camera, .slice a0 W.A.slots.length c0, .slice a1 W.A.guides.length c1, .slice a2 W.A.nodes.length c2, .slice a3 W.A.vers.length c3, .slice a4 Q6m c4, .slice a5 Q6q c5, .slice a6 Q6t c6, .slice a7 Q6r c7, .int .i64 W.now]
scoped notation "Q33" => (.slice ta Q6r tc)
scoped notation "Q34" => (.slice da Q6t dc)
scoped notation "Q35" => #[.int .i64 x, .int .i64 y, .int .i64 z, .int .i64 u, .int .i64 As.camera, .slice sa sl0 sc, .slice ga gl0 gc, .slice na nl0 nc, .slice ra rl0 rc, .slice (some ⟨hg, 0, none⟩) Q6m hcap, .slice ca2 (Q6q + 1) cc2, .slice da2 (Q6t + 1) dc2, .slice ta Q6r tc, .int .i64 (W.now + 1)]
scoped notation "Q36" => #[.int .i64 x, .int .i64 y, .int .i64 z, .int .i64 u, .int .i64 As.camera, .slice sa sl0 sc, .slice ga gl0 gc, .slice na nl0 nc, .slice ra rl0 rc, .slice (some ⟨hg, 0, none⟩) Q6m hcap, .slice ca2 (Q6q + 1) cc2, .slice da Q6t dc, .slice ta2 (Q6r + 1) tc2, .int .i64 (W.now + 1)]
scoped notation "Q37" => #[.int .i64 xN, .int .i64 y, .int .i64 z, .int .i64 uN, .int .i64 0, .slice (some ⟨sg, 0, none⟩) xN sc, .slice (some ⟨gb, 0, none⟩) uN uN, .slice (some ⟨nb, 0, none⟩) 1 1, .slice (some ⟨vb, 0, none⟩) 1 1, .slice (some ⟨hg, 0, none⟩) xN hc, .slice none 0 0, .slice none 0 0, .slice none 0 0, .int .i64 0]
scoped notation "Q38" => (qz9 Q6e Q10 Q0z Q1e Q12 (qz8 h 5 0 0) d tk)
scoped notation "Q39" => ((w.alloc (.cells Q08 25)).alloc (.cells (Q14).toArray 143))
scoped notation "Q3a" => ((w.alloc (.cells Q03 30)).alloc Q0q)
scoped notation "Q3b" => (((w.alloc (.cells Q08 25)).alloc (.cells (Q1u).toArray 143)).alloc (.cells Q01 143))
scoped notation "Q3c" => (qz9 Q6e Q09 Q06 Q0a Q0h (qz8 h 5 0 0) d tk)
scoped notation "Q3d" => #[.int .i64 Q6e, .slice a0 Q6o c0, .slice a1 Q6p c1, .slice a2 Q69 c2, .slice (some ⟨bb, off, none⟩) Q6a c3]
scoped notation "Q3e" => #[.int .i64 x, .int .i64 y, .int .i64 z, .int .i64 u, .int .i64 As.camera, .slice sa sl0 sc, .slice ga gl0 gc, .slice na nl0 nc, .slice ra rl0 rc, .slice (some ⟨hg, 0, none⟩) Q6m hcap, .slice ca2 (Q6q + 1) cc2, .slice da Q6t dc, .slice ta Q6r tc, .int .i64 (W.now + 1)]
scoped notation "Q3f" => #[.int .i64 x, .int .i64 y, .int .i64 z, .int .i64 u, .int .i64 As.camera, .slice sa sl0 sc, .slice ga gl0 gc, .slice na nl0 nc, .slice ra rl0 rc, .slice (some ⟨hg, 0, none⟩) Q6m hcap, .slice ca Q6q cc, .slice da2 (Q6t + 1) dc2, .slice ta Q6r tc, .int .i64 (W.now + 1)]
scoped notation "Q3g" => [.int .i64 Q6e, .slice (some ⟨Q6n, 0, none⟩) Q6o Q6o, .slice (some ⟨Q6j, 0, none⟩) Q6p Q6p, .slice (some ⟨Q6v, 0, none⟩) Q69 Q69, .slice (some ⟨w3.heap.size, 0, none⟩) Q6a Q6a]
scoped notation "Q3h" => (qz9 Q6e (.slice sa2 Q6o sc2) (.slice ga2 Q6p gc2) (.slice na2 Q69 nc2) (.slice ra2 Q6a rc2) (qz70 A h) d tk)
scoped notation "Q3i" => (hdC (qz58 A H' A.vers[v].next))
scoped notation "Q3j" => #[.int .i64 x, .int .i64 y, .int .i64 z, .int .i64 u, .int .i64 As.camera, .slice sa sl0 sc, .slice ga gl0 gc, .slice na nl0 nc, .slice ra rl0 rc, .slice (some ⟨hg, 0, none⟩) Q6m hcap, .slice ca Q6q cc, .slice da Q6t dc, .slice ta Q6r tc, .int .i64 (W.now + 1)]
scoped notation "Q3k" => (qz9 Q6e Q09 Q06 Q0b Q05 h d tk)
scoped notation "Q3l" => (qz9 Q6e Q09 Q06 Q0a Q05 h d tk)
scoped notation "Q3m" => [.int .i64 xN, .int .i64 y, .int .i64 z, .int .i64 uN, .int .i64 0, .slice (some ⟨sg, 0, none⟩) xN sc, .slice (some ⟨gb, 0, none⟩) uN uN, .slice (some ⟨nb, 0, none⟩) 1 1, .slice (some ⟨vb, 0, none⟩) 1 1, .slice none 0 0, .slice none 0 0, .slice none 0 0, .slice none 0 0, .int .i64 0]
scoped notation "Q3n" => (qz9 Q6e Q09 Q06 Q0a Q05 (qz4i A h) d tk)
scoped notation "Q3o" => #[.int .i64 Q6e, s, g, n, r]
scoped notation "Q3p" => (qz9 Q6e Q09 Q06 Q0b Q05 (onH A h) d tk)
scoped notation "Q3q" => (qz9 Q6e s' g' n' r' (qzu x y z u A h).2 d tk)
scoped notation "Q3r" => #[.int .i64 En.kind, .int .i64 En.key, .int .i64 En.value, .int .i64 En.stamp, .int .i64 En.clock]
scoped notation "Q3s" => (qz18 z A node v next gone kind)
scoped notation "Q3t" => #[.int .i64 A'.camera, .slice d0 A'.slots.length e0, .slice d1 A'.guides.length e1, .slice d2 A'.nodes.length e2, .slice d3 A'.vers.length e3]
scoped notation "Q3u" => (qz18 z A h.pred h.predVer (vrOf A h.currVer).next false 0)
scoped notation "Q3v" => (.slice (some ⟨g, 0, none⟩) n cap)
scoped notation "Q3w" => (.cells #[.int .i64 A.nodes[n].key, .int .i64 A.nodes[n].value, .int .i64 A.nodes[n].head] 78)
scoped notation "Q3x" => #[.int .i64 As.camera, .slice sa sl0 sc, .slice ga gl0 gc, .slice na nl0 nc, .slice ra rl0 rc]
scoped notation "Q3y" => [.int .i64 Q6e, .slice sa Q6o sc, .slice ga Q6p gc, .slice na Q69 nc, .slice ra Q6a rc]
scoped notation "Q3z" => (qz8 h 2 A.nodes[m].value 0)
scoped notation "Q40" => (.slice (some ⟨g, 0, none⟩) 0 0)
scoped notation "Q41" => [.int .i64 A.vers[v].next, .bool A.vers[v].gone, .int .i64 A.vers[v].stamp, .int .i64 A.vers[v].prev, .int .i64 A.vers[v].kind]
scoped notation "Q42" => (((((w2.setCell ⟨Q67 + 1, 0, none⟩ (.int .i64 Q6e)).setCell ⟨Q67 + 1, 1, none⟩ Q10).setCell ⟨Q67 + 1, 2, none⟩ Q0z).setCell ⟨Q67 + 1, 3, none⟩ Q1e).setCell ⟨Q67 + 1, 4, none⟩ Q12)
scoped notation "Q43" => (qz10 x y z u A h qz3n false me clock)
scoped notation "Q44" => [.int .i64 0, .slice none 0 0, .slice none 0 0, .slice none 0 0, .slice none 0 0]
scoped notation "Q45" => (qz9 Q6e Q17 Q18 Q1b Q1t h d tk)
scoped notation "Q46" => (wdC x y z u W.A.camera s g n r hs cs ds ts W.now)
scoped notation "Q47" => (w.alloc (.cells Q03 30))
scoped notation "Q48" => ((w.alloc (.cells Q08 25)).alloc (.cells (Q1u).toArray 143))
scoped notation "Q49" => [.int .i64 As.camera, .slice sa sl0 sc, .slice ga gl0 gc, .slice na nl0 nc, .slice ra rl0 rc]
scoped notation "Q4a" => ((w.alloc (.cells Q08 25)).alloc (.cells Q03 30))
scoped notation "Q4b" => (.slice a1 W.A.guides.length c1)
scoped notation "Q4c" => (.slice (some ⟨Q67, 0, none⟩) l.length l.length)
scoped notation "Q4d" => #[.pointer (some ⟨b, 0, none⟩)]
scoped notation "Q4e" => (.slice a2 W.A.nodes.length c2)
scoped notation "Q4f" => (.slice a0 W.A.slots.length c0)
scoped notation "Q4g" => (.slice (some ⟨hg, 0, none⟩) xN hc)
scoped notation "Q4h" => (.slice a3 W.A.vers.length c3)
scoped notation "Q4i" => #[.int .i64 0, .slice (some ⟨g, 0, none⟩) k cap, .slice (some ⟨Q6j, 0, none⟩) uN uN, .slice (some ⟨Q6j + 1, 0, none⟩) 1 1, .slice (some ⟨Q6j + 1 + 1, 0, none⟩) 1 1]
scoped notation "Q4j" => (qz9 Q6e Q0e Q06 Q0a Q0h h d tk)
scoped notation "Q4k" => (.slice na2 (Q69 + 1) nc2)
scoped notation "Q4l" => (qze intC (List.replicate uN 0))
scoped notation "Q4m" => ((((w2.setCell ⟨Q67 + 1, 0, none⟩ (.int .i64 Q6e)).setCell ⟨Q67 + 1, 1, none⟩ Q10).setCell ⟨Q67 + 1, 2, none⟩ Q0z).setCell ⟨Q67 + 1, 3, none⟩ Q1e)
scoped notation "Q4n" => [.int .i64 En.kind, .int .i64 En.key, .int .i64 En.value, .int .i64 En.stamp, .int .i64 En.clock]
scoped notation "Q4o" => (qz9 Q6e Q10 Q0z Q2z Q12 (qz8 h 2 A2.nodes[mk].value 0) d tk)
scoped notation "Q4p" => [.int .i64 Q6e, .slice a0 Q6o c0, .slice a1 Q6p c1, .slice (some ⟨bn, on, none⟩) Q69 c2, .slice (some ⟨bb, off, none⟩) Q6a c3]
scoped notation "Q4q" => [.int .i64 c.proc, .int .i64 c.code, .int .i64 c.key, .int .i64 c.value, .int .i64 c.begin, .int .i64 c.end_, .int .i64 c.reply, .int .i64 c.out, .int .i64 c.sum, .int .i64 c.held]
scoped notation "Q4r" => (qz9 (Q6e + 1) Q0e Q06 Q0a Q0h (qz8 H' 4 h.cam 0) d true)
scoped notation "Q4s" => #[.agg (hdC Rr).toArray, .int .i64 cd]
scoped notation "Q4t" => (qz60 k h Hn (W.now + 1))
scoped notation "Q4u" => ((w.alloc (.cells Q08 25)).alloc Q0q)
scoped notation "Q4v" => #[.int .i64 Q6e, .slice sa Q6o sc, .slice ga Q6p gc, .slice (some ⟨nb, 0, none⟩) Q69 nc, .slice ra2 (Q6a + 1) rc2]
scoped notation "Q4w" => #[.int .i64 0, .slice (some ⟨sg, 0, none⟩) xN sc, .slice (some ⟨gb, 0, none⟩) uN uN, .slice (some ⟨nb, 0, none⟩) 1 1, .slice (some ⟨vb, 0, none⟩) 1 1]
scoped notation "Q4x" => [.int .i64 Q6e, .slice a0 Q6o c0, .slice a1 Q6p c1, .slice (some ⟨bb, off, none⟩) Q69 c2, .slice a3 Q6a c3]
scoped notation "Q4y" => (qz9 Q6e Q09 Q06 Q0b Q05 (onH As h) (qz44 As h) tk)
scoped notation "Q4z" => (qz3a k 0 (Array.replicate ops.size false))
scoped notation "Q50" => ((w1.alloc (.cells Q02 35)).setCells Q6j 0 Q0g)
scoped notation "Q51" => #[.int .i64 W.A.camera, s, g, n, r]
scoped notation "Q52" => (w0.alloc (.cells Q00 56))
scoped notation "Q53" => #[.int .i64 0, s, g, n, r]
scoped notation "Q54" => (.slice (some ⟨bb, off, none⟩) Q69 c2)
scoped notation "Q55" => #[.agg Q03, .agg (hdC h).toArray]
scoped notation "Q56" => #[.int .i64 (aimI h), .bool false, .int .i64 0, .int .i64 (-1), .int .i64 0]
scoped notation "Q57" => (qz9 Q6e Q0e Q06 Q0a Q0h (qz8 H' 4 0 0) d tk)
scoped notation "Q58" => (w.alloc (.cells Q08 25))
scoped notation "Q59" => (qz23 A h tk me = Q6e)
scoped notation "Q5a" => #[.int .i64 A'.camera, .slice a0 A'.slots.length c0, .slice a1 A'.guides.length c1, .slice a2 A'.nodes.length c2, .slice a3 A'.vers.length c3]
scoped notation "Q5b" => (qz9 Q6e Q17 Q18 Q1b Q1f (qz8 h 7 0 0) d tk)
scoped notation "Q5c" => (qz9 Q6e Q0e Q06 Q0a Q0h (qz8 h 6 0 0) d tk)
scoped notation "Q5d" => (.cells #[.int .i64 Q6e, s2, g2, n2, r2] 30)
scoped notation "Q5e" => (.cells #[.int .i64 Q6e, s1, g1, n1, r1] 30)
scoped notation "Q5f" => ((w.alloc (.cells Q1m 25)).alloc (.cells Q0d 30))
scoped notation "Q5g" => #[.int .i64 Q6e, .slice sa Q6o sc, .slice ga Q6p gc, .slice na Q69 nc, .slice ra Q6a rc]
scoped notation "Q5h" => (qz9 Q6e Q09 Q06 Q0a Q05 (qz4i As H') d tk)
scoped notation "Q5i" => (.slice ta2 (Q6r + 1) tc2)
scoped notation "Q5j" => (.slice da2 (Q6t + 1) dc2)
scoped notation "Q5k" => (qz9 Q6e Q17 Q18 Q1b Q1f (useH A H') d tk)
scoped notation "Q5l" => (qz69 wr.heap.size x y z u W a0 a1 a2 a3 a4 a5 a6 a7 c0 c1 c2 c3 c4 c5 c6 c7 k hd wr (Q6f _) V1.small P.is hkl hhd.out hat2)
scoped notation "Q5m" => (w2.alloc (Obj.cells Q0u 35))
scoped notation "Q5n" => (.slice a7 Q6r c7)
scoped notation "Q5o" => (.slice a6 Q6t c6)
scoped notation "Q5p" => (.slice a5 Q6q c5)
scoped notation "Q5q" => (qz9 cam s g n r h d tk)
scoped notation "Q5r" => (qz18 z A h.pred h.predVer (newI h) false 1)
scoped notation "Q5s" => (.cells (hdC g).toArray 56)
scoped notation "Q5t" => (qz8p base A h d tk _ _ _ _ _ (Q6s hbase S0.but.size) hA' S0.own x y z u hOk R.p0 R.p1 R.c0 R.c1 R.r0 R.r1)
scoped notation "Q5u" => (qz8y Q6j A h _ _ _ _ _ _ _ _ _ (Q6f _) hA' S1.is x y z u hOk hv0 hv1 hx0 hx1 hcu ho0 ho1 hs0 hs1)
scoped notation "Q5v" => #[.int .i64 x', .int .i64 y', .int .i64 z', .int .i64 u']
scoped notation "Q5w" => (w4.setCells Q67 0 vs)
scoped notation "Q5x" => ((w4.alloc (.cells Q0d 30)).setCells w4.heap.size 0 Q1c)
scoped notation "Q5y" => ((w3.alloc (.cells Q0d 30)).setCells w3.heap.size 0 Q0k)
scoped notation "Q5z" => (w9.setCell ⟨bh, 5, none⟩ (.int .i64 (W.now + 1)))
scoped notation "Q60" => (qzq H' 4 h.out h.sum _)
scoped notation "Q61" => (qz9 Q6e s g n r h d tk)
scoped notation "Q62" => (.slice a4 Q6m c4)
scoped notation "Q63" => (qz9 W.A.camera s g n r h qz3n false)
scoped notation "Q64" => (.slice (some ⟨hb, ho, none⟩) Q6m c4)
scoped notation "Q65" => (.cells #[.int .i64 next, .bool gone, .int .i64 (-1), .int .i64 A.nodes[k].head, .int .i64 kind] 54)
scoped notation "Q66" => [.int .i64 A'.camera, .slice a0 A'.slots.length c0, .slice a1 A'.guides.length c1, .slice a2 A'.nodes.length c2, .slice a3 A'.vers.length c3]
set_option hygiene true
section
theorem own : ownKnob Try.prog.godebug = none := by kernel_rfl
theorem qzei : laidOutB Try.prog = true := by kernel_rfl
def inB (n lo hi : Int) : Bool := decide (lo <= n) && decide (n <= hi)
theorem qz1b (n lo hi : Int) : inB n lo hi = true ↔ lo <= n /\ n <= hi := by simp [inB]
theorem qzda {n lo hi : Int} (h1 : lo <= n) (h2 : n <= hi) : inB n lo hi = true := (qz1b n lo hi).2 ⟨h1, h2⟩
theorem qzct {n lo hi : Int} (h : ¬ (lo <= n /\ n <= hi)) : inB n lo hi = false := by
 cases e : inB n lo hi
 ·rfl
 ·exact absurd ((qz1b n lo hi).1 e) h
theorem qz12 (n lo hi : Int) (w : World) :
  Calls Try.prog 36 #[.int .i64 n, .int .i64 lo, .int .i64 hi] w fun e w' => e = .returned (.bool (inB n lo hi)) /\ w' = w := by
 by_cases h1 : lo <= n
 ·by_cases h2 : n <= hi
  ·go_enter Try.func36, Try.ntmps36
   go_wp2
   go_ret
   exact ⟨by rw [qzda h1 h2]; rfl, rfl⟩
  ·go_enter Try.func36, Try.ntmps36
   go_wp2
   go_ret
   exact ⟨by rw [qzct (by omega)]; rfl, rfl⟩
 ·go_enter Try.func36, Try.ntmps36
  go_wp2
  go_ret
  exact ⟨by rw [qzct (by omega)]; rfl, rfl⟩
theorem qzd (n lo hi : Int) (w : World) :
  Calls Try.prog 46 #[.int .i64 n, .int .i64 lo, .int .i64 hi] w fun e w' => e = .returned (.bool (inB n lo hi)) /\ w' = w := by
 by_cases h1 : lo <= n
 ·by_cases h2 : n <= hi
  ·go_enter Try.func46, Try.ntmps46
   go_wp2
   go_ret
   exact ⟨by rw [qzda h1 h2]; rfl, rfl⟩
  ·go_enter Try.func46, Try.ntmps46
   go_wp2
   go_ret
   exact ⟨by rw [qzct (by omega)]; rfl, rfl⟩
 ·go_enter Try.func46, Try.ntmps46
  go_wp2
  go_ret
  exact ⟨by rw [qzct (by omega)]; rfl, rfl⟩
theorem qza1 (n : Int) (w : World) :
  Calls Try.prog 86 #[.int .i64 n] w fun e w' => e = .returned (.bool (inB n 0 63)) /\ w' = w := by
 go_enter Try.func86, Try.ntmps86
 go_wp2_with (go_at_call 36; refine (qz12 _ _ _ _).mono ?_; rintro e w' ⟨rfl, rfl⟩)
 go_ret
 exact ⟨rfl, rfl⟩
theorem qzo (n : Int) (w : World) :
  Calls Try.prog 76 #[.int .i64 n] w fun e w' => e = .returned (.bool (inB n 0 63)) /\ w' = w := by
 go_enter Try.func76, Try.ntmps76
 go_wp2_with (go_at_call 46; refine (qzd _ _ _ _).mono ?_; rintro e w' ⟨rfl, rfl⟩)
 go_ret
 exact ⟨rfl, rfl⟩
def qz38 (a b c d : Int) : Bool := inB a 1 8 && inB b 1 60 && inB c 1 400 && inB d 1 8
theorem qz1r (a b c d : Int) : qz38 a b c d = true ↔ (1 <= a /\ a <= 8) /\ (1 <= b /\ b <= 60) /\ (1 <= c /\ c <= 400) /\ (1 <= d /\ d <= 8) := by
 unfold qz38
 simp only [Bool.and_eq_true, qz1b]
 constructor
 ·rintro ⟨⟨⟨h1, h2⟩, h3⟩, h4⟩
  exact ⟨h1, h2, h3, h4⟩
 ·rintro ⟨h1, h2, h3, h4⟩
  exact ⟨⟨⟨h1, h2⟩, h3⟩, h4⟩
theorem qza2 (a b c d : Int) (w : World) :
  Calls Try.prog 32 #[.agg #[.int .i64 a, .int .i64 b, .int .i64 c, .int .i64 d]] w fun e w' => e = .returned (.bool (qz38 a b c d)) /\ Below Q67 w w' := by
 cases h1 : inB a 1 8
 ·have hp : qz38 a b c d = false := by simp [qz38, h1]
  go_enter Try.func32, Try.ntmps32
  go_wp2_with (go_at_call 36; refine (qz12 _ _ _ _).mono ?_; rintro e w' ⟨rfl, rfl⟩)
  go_ret
  exact ⟨by rw [hp]; rfl, (Q6c _ _).alloc (Q6f _) _⟩
 ·cases h2 : inB b 1 60
  ·have hp : qz38 a b c d = false := by simp [qz38, h1, h2]
   go_enter Try.func32, Try.ntmps32
   go_wp2_with (go_at_call 36; refine (qz12 _ _ _ _).mono ?_; rintro e w' ⟨rfl, rfl⟩)
   go_ret
   exact ⟨by rw [hp]; rfl, (Q6c _ _).alloc (Q6f _) _⟩
  ·cases h3 : inB c 1 400
   ·have hp : qz38 a b c d = false := by simp [qz38, h1, h2, h3]
    go_enter Try.func32, Try.ntmps32
    go_wp2_with (go_at_call 36; refine (qz12 _ _ _ _).mono ?_; rintro e w' ⟨rfl, rfl⟩)
    go_ret
    exact ⟨by rw [hp]; rfl, (Q6c _ _).alloc (Q6f _) _⟩
   ·cases h4 : inB d 1 8
    ·have hp : qz38 a b c d = false := by simp [qz38, h1, h2, h3, h4]
     go_enter Try.func32, Try.ntmps32
     go_wp2_with (go_at_call 36; refine (qz12 _ _ _ _).mono ?_; rintro e w' ⟨rfl, rfl⟩)
     go_ret
     exact ⟨by rw [hp]; rfl, (Q6c _ _).alloc (Q6f _) _⟩
    ·have hp : qz38 a b c d = true := by simp [qz38, h1, h2, h3, h4]
     go_enter Try.func32, Try.ntmps32
     go_wp2_with (go_at_call 36; refine (qz12 _ _ _ _).mono ?_; rintro e w' ⟨rfl, rfl⟩)
     go_ret
     exact ⟨by rw [hp]; rfl, (Q6c _ _).alloc (Q6f _) _⟩
theorem qz1k (a b c d : Int) (w : World) :
  Calls Try.prog 42 #[.agg #[.int .i64 a, .int .i64 b, .int .i64 c, .int .i64 d]] w fun e w' => e = .returned (.bool (qz38 a b c d)) /\ Below Q67 w w' := by
 cases h1 : inB a 1 8
 ·have hp : qz38 a b c d = false := by simp [qz38, h1]
  go_enter Try.func42, Try.ntmps42
  go_wp2_with (go_at_call 46; refine (qzd _ _ _ _).mono ?_; rintro e w' ⟨rfl, rfl⟩)
  go_ret
  exact ⟨by rw [hp]; rfl, (Q6c _ _).alloc (Q6f _) _⟩
 ·cases h2 : inB b 1 60
  ·have hp : qz38 a b c d = false := by simp [qz38, h1, h2]
   go_enter Try.func42, Try.ntmps42
   go_wp2_with (go_at_call 46; refine (qzd _ _ _ _).mono ?_; rintro e w' ⟨rfl, rfl⟩)
   go_ret
   exact ⟨by rw [hp]; rfl, (Q6c _ _).alloc (Q6f _) _⟩
  ·cases h3 : inB c 1 400
   ·have hp : qz38 a b c d = false := by simp [qz38, h1, h2, h3]
    go_enter Try.func42, Try.ntmps42
    go_wp2_with (go_at_call 46; refine (qzd _ _ _ _).mono ?_; rintro e w' ⟨rfl, rfl⟩)
    go_ret
    exact ⟨by rw [hp]; rfl, (Q6c _ _).alloc (Q6f _) _⟩
   ·cases h4 : inB d 1 8
    ·have hp : qz38 a b c d = false := by simp [qz38, h1, h2, h3, h4]
     go_enter Try.func42, Try.ntmps42
     go_wp2_with (go_at_call 46; refine (qzd _ _ _ _).mono ?_; rintro e w' ⟨rfl, rfl⟩)
     go_ret
     exact ⟨by rw [hp]; rfl, (Q6c _ _).alloc (Q6f _) _⟩
    ·have hp : qz38 a b c d = true := by simp [qz38, h1, h2, h3, h4]
     go_enter Try.func42, Try.ntmps42
     go_wp2_with (go_at_call 46; refine (qzd _ _ _ _).mono ?_; rintro e w' ⟨rfl, rfl⟩)
     go_ret
     exact ⟨by rw [hp]; rfl, (Q6c _ _).alloc (Q6f _) _⟩
theorem qzf0 {W w1 : World} (hb : Below W.heap.size W w1) : (∀ b o, b < W.heap.size -> w1.cell? ⟨b, o, none⟩ = W.cell? ⟨b, o, none⟩) /\ (∀ b o, b < W.heap.size -> w1.frozen? ⟨b, o, none⟩ = W.frozen? ⟨b, o, none⟩) :=
 ⟨fun b o h => hb.cell (p := ⟨b, o, none⟩) h, fun b o h => hb.frozen (p := ⟨b, o, none⟩) h⟩
def qz3v (W : World) (b : Nat) (x y z u : Int) : Prop :=
 W.cell? ⟨b, 0, none⟩ = some (.int .i64 x) /\ W.cell? ⟨b, 1, none⟩ = some (.int .i64 y) /\ W.cell? ⟨b, 2, none⟩ = some (.int .i64 z) /\ W.cell? ⟨b, 3, none⟩ = some (.int .i64 u)
theorem qz1h (w : World) (x y z u : Int) (T : TypeId) : qz3v (w.alloc (.cells Q08 T)) Q67 x y z u := by
 refine ⟨?_, ?_, ?_, ?_⟩ <;> simp
theorem qz3v.below {W w1 : World} {b : Nat} {x y z u : Int} (h : qz3v W b x y z u) (hb : Below W.heap.size W w1) (hlt : b < W.heap.size) : qz3v w1 b x y z u := by
 obtain ⟨hc, _⟩ := qzf0 hb
 obtain ⟨h0, h1, h2, h3⟩ := h
 exact ⟨(hc b 0 hlt).trans h0, (hc b 1 hlt).trans h1, (hc b 2 hlt).trans h2, (hc b 3 hlt).trans h3⟩
theorem qzeb {k u : Int} (h0 : 0 <= k) (h1 : k <= 63) (h2 : 1 <= u) (h3 : u <= 8) : 0 <= k * u /\ k * u <= 504 := by
 constructor
 ·exact Int.mul_nonneg h0 (by omega)
 ·have a : k * u <= 63 * u := Int.mul_le_mul_of_nonneg_right h1 (by omega)
  omega
def qz42 (x y z u k : Int) : Int := if qz38 x y z u && inB k 0 63 then k * u / 64 else -1
def qz41 (x y z u k : Int) : Int := if qz38 x y z u && inB k 0 63 then k * u / 64 - 1 else -1
theorem qza8 {x y z u k : Int} (h1 : qz38 x y z u = true) (h2 : inB k 0 63 = true) : qz42 x y z u k = k * u / 64 := by simp [qz42, h1, h2]
theorem qzcq {x y z u k : Int} (h1 : qz38 x y z u = true) (h2 : inB k 0 63 = true) : qz41 x y z u k = k * u / 64 - 1 := by simp [qz41, h1, h2]
theorem qzbv {x y z u k : Int} (h : (qz38 x y z u && inB k 0 63) = false) : qz42 x y z u k = -1 := by simp only [qz42, h]; rfl
theorem qzc3 {x y z u k : Int} (h : (qz38 x y z u && inB k 0 63) = false) : qz41 x y z u k = -1 := by simp only [qz41, h]; rfl
theorem qz9s {x y z u k : Int} (h1 : qz38 x y z u = true) (h2 : inB k 0 63 = true) : 0 <= k /\ k <= 63 /\ 1 <= u /\ u <= 8 := by
 have a := (qz1r x y z u).1 h1
 have b := (qz1b k 0 63).1 h2
 exact ⟨b.1, b.2, a.2.2.2.1, a.2.2.2.2⟩
theorem qz4v (x y z u k : Int) (w : World) :
  Calls Try.prog 122 #[.agg Q08, .int .i64 k] w fun e w' => e = .returned (.int .i64 (qz42 x y z u k)) /\ Below Q67 w w' := by
 have P0 := qz1h w x y z u 25
 cases h1 : qz38 x y z u
 ·have hv : qz42 x y z u k = -1 := qzbv (by simp [h1])
  go_enter Try.func122, Try.ntmps122
  go_wp2_with fail
  refine (qz1k _ _ _ _ _).mono ?_
  rintro e w1 ⟨rfl, hb1⟩
  go_wp2
  go_ret
  exact ⟨by rw [hv]; rfl, ((Q6c _ _).alloc (Q6f _) _).trans (hb1.mono (by simp))⟩
 ·cases h2 : inB k 0 63
  ·have hv : qz42 x y z u k = -1 := qzbv (by simp [h2])
   go_enter Try.func122, Try.ntmps122
   go_wp2_with fail
   refine (qz1k _ _ _ _ _).mono ?_
   rintro e w1 ⟨rfl, hb1⟩
   go_wp2_with (go_at_call 76; refine (qzo _ _).mono ?_; rintro e w' ⟨rfl, rfl⟩)
   go_ret
   exact ⟨by rw [hv]; rfl, ((Q6c _ _).alloc (Q6f _) _).trans (hb1.mono (by simp))⟩
  ·obtain ⟨b0, b1, b2, b3⟩ := qz9s h1 h2
   obtain ⟨m0, m1⟩ := qzeb b0 b1 b2 b3
   have Hv : Hid (qz42 x y z u k = k * u / 64) := qza8 h1 h2
   go_enter Try.func122, Try.ntmps122
   go_wp2_with fail
   refine (qz1k _ _ _ _ _).mono ?_
   rintro e w1 ⟨rfl, hb1⟩
   have hz1 := hb1.size
   simp at hz1
   obtain ⟨c0, c1, c2, c3⟩ := P0.below hb1 (by simp)
   go_wp2_with (go_at_call 76; refine (qzo _ _).mono ?_; rintro e w' ⟨rfl, rfl⟩)
   go_ret
   exact ⟨by rw [Hv.out]; rfl, ((Q6c _ _).alloc (Q6f _) _).trans (hb1.mono (by simp))⟩
theorem qz6r (x y z u k : Int) (w : World) :
  Calls Try.prog 125 #[.agg Q08, .int .i64 k] w fun e w' => e = .returned (.int .i64 (qz41 x y z u k)) /\ Below Q67 w w' := by
 have P0 := qz1h w x y z u 25
 cases h1 : qz38 x y z u
 ·have hv : qz41 x y z u k = -1 := qzc3 (by simp [h1])
  go_enter Try.func125, Try.ntmps125
  go_wp2_with fail
  refine (qz1k _ _ _ _ _).mono ?_
  rintro e w1 ⟨rfl, hb1⟩
  go_wp2
  go_ret
  exact ⟨by rw [hv]; rfl, ((Q6c _ _).alloc (Q6f _) _).trans (hb1.mono (by simp))⟩
 ·cases h2 : inB k 0 63
  ·have hv : qz41 x y z u k = -1 := qzc3 (by simp [h2])
   go_enter Try.func125, Try.ntmps125
   go_wp2_with fail
   refine (qz1k _ _ _ _ _).mono ?_
   rintro e w1 ⟨rfl, hb1⟩
   go_wp2_with (go_at_call 76; refine (qzo _ _).mono ?_; rintro e w' ⟨rfl, rfl⟩)
   go_ret
   exact ⟨by rw [hv]; rfl, ((Q6c _ _).alloc (Q6f _) _).trans (hb1.mono (by simp))⟩
  ·obtain ⟨b0, b1, b2, b3⟩ := qz9s h1 h2
   obtain ⟨m0, m1⟩ := qzeb b0 b1 b2 b3
   have Hv : Hid (qz41 x y z u k = k * u / 64 - 1) := qzcq h1 h2
   go_enter Try.func125, Try.ntmps125
   go_wp2_with fail
   refine (qz1k _ _ _ _ _).mono ?_
   rintro e w1 ⟨rfl, hb1⟩
   have hz1 := hb1.size
   simp at hz1
   obtain ⟨c0, c1, c2, c3⟩ := P0.below hb1 (by simp)
   go_wp2_with (go_at_call 76; refine (qzo _ _).mono ?_; rintro e w' ⟨rfl, rfl⟩)
   refine (qz4v _ _ _ _ _ _).mono ?_
   rintro e w2 ⟨rfl, hb2⟩
   rw [qza8 h1 h2]
   go_wp2
   go_ret
   exact ⟨by rw [Hv.out]; rfl, (((Q6c _ _).alloc (Q6f _) _).trans (hb1.mono (by simp))).trans (hb2.mono (by omega))⟩
end
section
theorem qz8m (n : Int) : 0 <= bits .and .u64 n 16777215 /\ bits .and .u64 n 16777215 <= 16777215 := by
 have h127 : (BitVec.ofInt 64 16777215).toNat = 2 ^ 24 - 1 := by decide
 have key : (BitVec.ofInt 64 n &&& BitVec.ofInt 64 16777215).toNat = (n % ((2 ^ 64 : Nat) : Int)).toNat % 2 ^ 24 := by
  rw [BitVec.toNat_and, BitVec.toNat_ofInt, h127, Nat.and_two_pow_sub_one_eq_mod]
 have e : bits .and .u64 n 16777215 = IntKind.u64.wrap ((BitVec.ofInt 64 n &&& BitVec.ofInt 64 16777215).toNat : Nat) := rfl
 rw [e, key]
 have w : ∀ m : Int, IntKind.u64.wrap m = m % 18446744073709551616 := fun m => by simp [IntKind.wrap, IntKind.bits, IntKind.signed]
 rw [w]
 omega
theorem qz7e (n : Int) : 0 <= bits .and .i64 n 255 /\ bits .and .i64 n 255 <= 255 := by
 have h127 : (BitVec.ofInt 64 255).toNat = 2 ^ 8 - 1 := by decide
 have key : (BitVec.ofInt 64 n &&& BitVec.ofInt 64 255).toNat = (n % ((2 ^ 64 : Nat) : Int)).toNat % 2 ^ 8 := by
  rw [BitVec.toNat_and, BitVec.toNat_ofInt, h127, Nat.and_two_pow_sub_one_eq_mod]
 have e : bits .and .i64 n 255 = IntKind.i64.wrap ((BitVec.ofInt 64 n &&& BitVec.ofInt 64 255).toNat : Nat) := rfl
 rw [e, key, IntKind.wrap_i64]
 omega
theorem qzbp (n : Int) : 0 <= bits .and .i64 n 1073741823 /\ bits .and .i64 n 1073741823 <= 1073741823 := by
 have h127 : (BitVec.ofInt 64 1073741823).toNat = 2 ^ 30 - 1 := by decide
 have key : (BitVec.ofInt 64 n &&& BitVec.ofInt 64 1073741823).toNat = (n % ((2 ^ 64 : Nat) : Int)).toNat % 2 ^ 30 := by
  rw [BitVec.toNat_and, BitVec.toNat_ofInt, h127, Nat.and_two_pow_sub_one_eq_mod]
 have e : bits .and .i64 n 1073741823 = IntKind.i64.wrap ((BitVec.ofInt 64 n &&& BitVec.ofInt 64 1073741823).toNat : Nat) := rfl
 rw [e, key, IntKind.wrap_i64]
 omega
end
section
open Go.RowKit
structure Only (b : Nat) (w w' : World) : Prop where
 os : w'.os = w.os
 tape : w'.tape = w.tape
 output : w'.output = w.output
 size : Q67 <= w'.heap.size
 block : ∀ k, k < Q67 -> k ≠ b -> w'.heap[k]? = w.heap[k]?
theorem Only.refl (b : Nat) (w : World) : Only b w w := ⟨rfl, rfl, rfl, Q6f _, fun _ _ _ => rfl⟩
theorem Only.trans {b : Nat} {x y z : World} (h : Only b x y) (k : Only b y z) : Only b x z :=
 ⟨k.os.trans h.os, k.tape.trans h.tape, k.output.trans h.output, Q6s h.size k.size, fun i hi hb => (k.block i (Q6l hi h.size) hb).trans (h.block i hi hb)⟩
theorem Only.alloc {b : Nat} {x w : World} (h : Only b x w) (o : Obj) : Only b x (w.alloc o) :=
 h.trans ⟨rfl, rfl, rfl, by simp, fun k hk _ => Below.heap_alloc _ _ _ hk⟩
theorem Only.setCell {b : Nat} {x w : World} (h : Only b x w) {p : Addr} (hp : p.block = b ∨ x.heap.size <= p.block) (u : Value) : Only b x (w.setCell p u) :=
 ⟨h.os, h.tape, h.output, by simpa [World.setCell] using h.size, fun k hk hb => (Below.heap_setCell _ _ _ _ (by omega)).trans (h.block k hk hb)⟩
theorem Only.of_below {b : Nat} {w w' : World} (h : Below Q67 w w') : Only b w w' := ⟨h.os, h.tape, h.output, h.size, fun k hk _ => h.block k hk⟩
theorem Only.below {b B : Nat} {w w' : World} (h : Only b w w') (hb : B <= b) (hB : B <= Q67) : Below B w w' := ⟨h.os, h.tape, h.output, h.size, fun k hk => h.block k (by omega) (by omega)⟩
theorem Only.cell {b : Nat} {w w' : World} (h : Only b w w') {p : Addr} (h1 : p.block < Q67) (h2 : p.block ≠ b) : w'.cell? p = w.cell? p := World.cell?_of_block (w := w) (h.block p.block h1 h2)
theorem Only.frozen {b : Nat} {w w' : World} (h : Only b w w') {p : Addr} (h1 : p.block < Q67) (h2 : p.block ≠ b) : w'.frozen? p = w.frozen? p := World.frozen?_of_block (w := w) (h.block p.block h1 h2)
theorem qzc (b : Nat) : ∀ (vs : List Value) (o : Nat) (w : World), Only b w (w.setCells b o vs)
 | [], _, w => Only.refl b w
 | v :: vs, o, w => ((Only.refl b w).setCell (p := ⟨b, o, none⟩) (Or.inl rfl) v).trans (qzc b vs (o + 1) (w.setCell ⟨b, o, none⟩ v))
structure But (S : Nat -> Prop) (w w' : World) : Prop where
 os : w'.os = w.os
 tape : w'.tape = w.tape
 output : w'.output = w.output
 size : Q67 <= w'.heap.size
 block : ∀ k, k < Q67 -> ¬ S k -> w'.heap[k]? = w.heap[k]?
theorem But.trans {S : Nat -> Prop} {x y z : World} (h : But S x y) (k : But S y z) : But S x z :=
 ⟨k.os.trans h.os, k.tape.trans h.tape, k.output.trans h.output, Q6s h.size k.size, fun i hi hb => (k.block i (Q6l hi h.size) hb).trans (h.block i hi hb)⟩
theorem But.of_only {S : Nat -> Prop} {b : Nat} {w w' : World} (h : Only b w w') (hb : S b) : But S w w' := ⟨h.os, h.tape, h.output, h.size, fun k hk hn => h.block k hk (fun e => hn (e ▸ hb))⟩
theorem But.of_below {S : Nat -> Prop} {w w' : World} (h : Below Q67 w w') : But S w w' := ⟨h.os, h.tape, h.output, h.size, fun k hk _ => h.block k hk⟩
theorem But.mono {S S' : Nat -> Prop} {w w' : World} (h : But S w w') (hS : ∀ k, S k -> S' k) : But S' w w' := ⟨h.os, h.tape, h.output, h.size, fun k hk hn => h.block k hk (fun e => hn (hS k e))⟩
theorem But.below {S : Nat -> Prop} {B : Nat} {w w' : World} (h : But S w w') (hB : B <= Q67) (hS : ∀ k, S k -> B <= k) : Below B w w' := ⟨h.os, h.tape, h.output, h.size, fun k hk => h.block k (by omega) (fun e => by have := hS k e; omega)⟩
theorem But.cell {S : Nat -> Prop} {w w' : World} (h : But S w w') {p : Addr} (h1 : p.block < Q67) (h2 : ¬ S p.block) : w'.cell? p = w.cell? p := World.cell?_of_block (w := w) (h.block p.block h1 h2)
theorem But.frozen {S : Nat -> Prop} {w w' : World} (h : But S w w') {p : Addr} (h1 : p.block < Q67) (h2 : ¬ S p.block) : w'.frozen? p = w.frozen? p := World.frozen?_of_block (w := w) (h.block p.block h1 h2)
theorem But.range {S : Nat -> Prop} {w w' : World} (h : But S w w') {b o : Nat} {cs : List Value} (R : w.rangeAt b o cs) (h1 : b < Q67) (h2 : ¬ S b) : w'.rangeAt b o cs := fun j v hv => (h.cell (p := ⟨b, o + j, none⟩) h1 h2).trans (R j v hv)
theorem But.there {S : Nat -> Prop} {w w' : World} (h : But S w w') {b o n : Nat} (T : w.there b o n) (h1 : b < Q67) (h2 : ¬ S b) : w'.there b o n := fun j hj => by rw [h.cell (p := ⟨b, o + j, none⟩) h1 h2, h.frozen (p := ⟨b, o + j, none⟩) h1 h2]; exact T j hj
end
section
def qz15 (B : Nat) (w : World) (a : Option Addr) (len : Nat) : Prop :=
 ∀ j, j < len -> ∃ bb off v, a = some ⟨bb, off, none⟩ /\ bb < B /\ w.cell? ⟨bb, off + j, none⟩ = some (.int .u8 v) /\ 0 <= v /\ v <= 255
theorem qz15.below {B : Nat} {w w' : World} {a : Option Addr} {len : Nat} (h : qz15 B w a len) (hb : Below B w w') : qz15 B w' a len := by
 intro j hj
 obtain ⟨bb, off, v, h1, h2, h3, h4⟩ := h j hj
 exact ⟨bb, off, v, h1, h2, (hb.cell (p := ⟨bb, off + j, none⟩) h2).trans h3, h4⟩
structure qz1f (k : IntKind) (w : World) (b : Nat) (a : Option Addr) (len cap : Nat) (i h : Int) : Prop where
 c0 : w.cell? ⟨b, 0, none⟩ = some (.slice a len cap)
 c1 : w.cell? ⟨b, 1, none⟩ = some (.int .i64 i)
 c2 : w.cell? ⟨b, 2, none⟩ = some (.int k h)
 f1 : w.frozen? ⟨b, 1, none⟩ = false
 f2 : w.frozen? ⟨b, 2, none⟩ = false
 lo : 0 <= i
 hi : i <= len
 blk : b < Q67
theorem qz1f.set2 {k : IntKind} {w : World} {b : Nat} {a : Option Addr} {len cap : Nat} {i h : Int} (D : qz1f k w b a len cap i h) (h' : Int) : qz1f k (w.setCell ⟨b, 2, none⟩ (.int k h')) b a len cap i h' := by
 obtain ⟨c0, c1, c2, f1, f2, lo, hi, blk⟩ := D
 exact ⟨(World.cell?_setCell_other _ _ _ _ (by simp)).trans c0, (World.cell?_setCell_other _ _ _ _ (by simp)).trans c1, World.cell?_setCell_same _ _ _ c2, (World.frozen?_setCell _ _ _ _).trans f1, (World.frozen?_setCell _ _ _ _).trans f2, lo, hi, by rw [World.size_setCell]; exact blk⟩
theorem qz1f.set1 {k : IntKind} {w : World} {b : Nat} {a : Option Addr} {len cap : Nat} {i h : Int} (D : qz1f k w b a len cap i h) (hi' : i + 1 <= len) : qz1f k (w.setCell ⟨b, 1, none⟩ (.int .i64 (i + 1))) b a len cap (i + 1) h := by
 obtain ⟨c0, c1, c2, f1, f2, lo, hi, blk⟩ := D
 exact ⟨(World.cell?_setCell_other _ _ _ _ (by simp)).trans c0, World.cell?_setCell_same _ _ _ c1, (World.cell?_setCell_other _ _ _ _ (by simp)).trans c2, (World.frozen?_setCell _ _ _ _).trans f1, (World.frozen?_setCell _ _ _ _).trans f2, by omega, hi', by rw [World.size_setCell]; exact blk⟩
theorem qz1f.drewN {k : IntKind} {w : World} {b : Nat} {a : Option Addr} {len cap : Nat} {i h : Int} (D : qz1f k w b a len cap i h) (m : Nat) : qz1f k (w.drewN m) b a len cap i h := by
 obtain ⟨c0, c1, c2, f1, f2, lo, hi, blk⟩ := D
 exact ⟨c0, c1, c2, f1, f2, lo, hi, blk⟩
theorem qz1f.drew {k : IntKind} {w : World} {b : Nat} {a : Option Addr} {len cap : Nat} {i h : Int} (D : qz1f k w b a len cap i h) : qz1f k w.drew b a len cap i h := by
 obtain ⟨c0, c1, c2, f1, f2, lo, hi, blk⟩ := D
 exact ⟨c0, c1, c2, f1, f2, lo, hi, blk⟩
theorem qz1f.only {k : IntKind} {w w' : World} {b c : Nat} {a : Option Addr} {len cap : Nat} {i h : Int} (D : qz1f k w b a len cap i h) (hO : Only c w w') (hne : b ≠ c) : qz1f k w' b a len cap i h := by
 obtain ⟨c0, c1, c2, f1, f2, lo, hi, blk⟩ := D
 exact ⟨(hO.cell (p := ⟨b, 0, none⟩) blk hne).trans c0, (hO.cell (p := ⟨b, 1, none⟩) blk hne).trans c1, (hO.cell (p := ⟨b, 2, none⟩) blk hne).trans c2, (hO.frozen (p := ⟨b, 1, none⟩) blk hne).trans f1, (hO.frozen (p := ⟨b, 2, none⟩) blk hne).trans f2, lo, hi, Q6l blk hO.size⟩
theorem qz1f.below {k : IntKind} {w w' : World} {b : Nat} {a : Option Addr} {len cap : Nat} {i h : Int} (D : qz1f k w b a len cap i h) (hb : Below Q67 w w') : qz1f k w' b a len cap i h := by
 obtain ⟨c0, c1, c2, f1, f2, lo, hi, blk⟩ := D
 exact ⟨(hb.cell (p := ⟨b, 0, none⟩) blk).trans c0, (hb.cell (p := ⟨b, 1, none⟩) blk).trans c1, (hb.cell (p := ⟨b, 2, none⟩) blk).trans c2, (hb.frozen (p := ⟨b, 1, none⟩) blk).trans f1, (hb.frozen (p := ⟨b, 2, none⟩) blk).trans f2, lo, hi, Q6l blk hb.size⟩
theorem Only.drewN {b : Nat} {x w : World} (h : Only b x w) (m : Nat) : Only b x (w.drewN m) := ⟨h.os, h.tape, h.output, h.size, h.block⟩
theorem qz3x {n : Int} (x : Int) (hn : 1 <= n) : 0 <= x % n /\ x % n < n :=
 ⟨Int.emod_nonneg x (by omega), Int.emod_lt_of_pos x (by omega)⟩
theorem qz5d (B b : Nat) (a : Option Addr) (len cap : Nat) (i h n : Int) (w : World) (hB : B <= b) (hlen : len <= 4096) (D : qz1f .u64 w b a len cap i h) (C : qz15 B w a len) (hn1 : 1 <= n) (hn2 : n <= 1000) :
  Calls Try.prog 30 #[.pointer (some ⟨b, 0, none⟩), .int .i64 n] w fun e w' => ∃ r i' h', e = .returned (.int .i64 r) /\ 0 <= r /\ r < n /\ qz1f .u64 w' b a len cap i' h' /\ Only b w w' := by
 have D0 := (show Hid _ from D)
 obtain ⟨c0, c1, c2, f1, f2, lo, hi, blk⟩ := D
 by_cases hlt : i < len
 ·obtain ⟨bb, off, v, rfl, hbb, hcv, v0, v1⟩ := C i.toNat (by omega)
  obtain ⟨iN, rfl⟩ := Int.eq_ofNat_of_zero_le lo
  simp only [Int.toNat_natCast] at hcv
  have hcv2 : ∀ h1 : Int, (w.setCell ⟨b, 2, none⟩ (.int .u64 h1)).cell? ⟨bb, off + iN, none⟩ = some (.int .u8 v) := fun h1 => (World.cell?_setCell_other _ _ _ _ (by intro e; have := congrArg Addr.block e; simp at this; omega)).trans hcv
  clear C
  go_enter Try.func30, Try.ntmps30
  go_wp2
  generalize IntKind.u64.wrap (IntKind.u64.wrap (h * 6364136223846793005) + 1442695040888963407) = h1
  have hm := qz8m (h1 / 8589934592)
  generalize bits BinOp.and IntKind.u64 (h1 / 8589934592) 16777215 = x1 at *
  obtain ⟨hm1, hm2⟩ := hm
  have hx : wrap64 x1 = x1 := by unfold wrap64; omega
  rw [hx]
  clear hx
  go_quiet (fail)
  go_wp2
  go_quiet (fail)
  go_wp2
  go_ret
  exact ⟨_, iN + 1, h1, rfl, (qz3x _ hn1).1, (qz3x _ hn1).2, (((D0.out.set2 h1).drewN _).set1 (by omega)), (((Only.refl b w).setCell (Or.inl rfl) _).drewN _).setCell (Or.inl rfl) _⟩
 ·clear C
  go_enter Try.func30, Try.ntmps30
  go_wp2
  generalize IntKind.u64.wrap (IntKind.u64.wrap (h * 6364136223846793005) + 1442695040888963407) = h1
  have hm := qz8m (h1 / 8589934592)
  generalize bits BinOp.and IntKind.u64 (h1 / 8589934592) 16777215 = x1 at *
  obtain ⟨hm1, hm2⟩ := hm
  have hx : wrap64 x1 = x1 := by unfold wrap64; omega
  rw [hx]
  clear hx
  go_quiet (fail)
  go_wp2
  go_ret
  exact ⟨_, i, h1, rfl, (qz3x _ hn1).1, (qz3x _ hn1).2, (D0.out.set2 h1).drewN nq, ((Only.refl b w).setCell (Or.inl rfl) _).drewN nq⟩
theorem qz1f.alloc_new (k : IntKind) (w : World) (a : Option Addr) (len cap : Nat) (h : Int) (T : TypeId) : qz1f k (w.alloc (.cells #[.slice a len cap, .int .i64 0, .int k h] T)) Q67 a len cap 0 h := by
 refine ⟨?_, ?_, ?_, ?_, ?_, by omega, by omega, by simp⟩ <;> simp
theorem qzdf (a : Option Addr) (len cap : Nat) (s : Int) (w : World) (hlen : len <= 4096) (C : qz15 Q67 w a len) (hs0 : 0 <= s) (hs1 : s <= 1000) :
  Calls Try.prog 8 #[.slice a len cap, .int .u64 s] w fun e w' => e = .returned (.pointer (some ⟨Q67, 0, none⟩)) /\ (∃ h, qz1f .u64 w' Q67 a len cap 0 h) /\ Below Q67 w w' := by
 go_enter Try.func8, Try.ntmps8
 go_wp2
 go_loopw [6] (fun i wr => ∃ (k : Nat) (h : Int), k <= len /\ i = .int .i64 k /\ qz1f .u64 wr Q67 a len cap 0 h /\ Below Q67 w wr) (fun i _ => len - (intOf i).toNat)
 case atStart => exact ⟨0, _, Nat.zero_le _, rfl, qz1f.alloc_new _ _ _ _ _ _ _, (Q6c _ _).alloc (Q6f _) _⟩
 case round =>
  obtain ⟨k, h, hk, rfl, D, hb⟩ := hrel
  by_cases hlt : k < len
  ·obtain ⟨bb, off, v, rfl, hbb, hcv, v0, v1⟩ := (qz15.below C hb) k hlt
   have D0 := (show Hid _ from D)
   obtain ⟨c0, c1, c2, f1, f2, lo, hi, blk⟩ := D
   go_wp2
   go_region
   go_wp2
   go_roundw
   case rel => exact ⟨k + 1, _, by omega, by go_num, (D0.out.set2 _).drew, (hb.setCell (Q6f _) _).drew⟩
   case measure => simp [intOf]; omega
  ·go_wp2
   go_ret
   exact ⟨rfl, ⟨h, D⟩, hb⟩
theorem qzd4 (a : Option Addr) (len cap : Nat) (w : World) : Calls Try.prog 6 #[.slice a len cap] w fun e w' => e = .returned (.bool (decide (4096 < (len : Int)))) /\ w' = w := by
 go_enter Try.func6, Try.ntmps6
 go_wp2
 go_ret
 exact ⟨rfl, rfl⟩
theorem qzcn (a : Option Addr) (len cap : Nat) (w : World) (hlen : len <= 4096) (C : qz15 Q67 w a len) :
  Calls Try.prog 43 #[.slice a len cap] w fun e w' => e = .returned (.pointer (some ⟨Q67, 0, none⟩)) /\ (∃ h, qz1f .i64 w' Q67 a len cap 0 h) /\ Below Q67 w w' := by
 go_enter Try.func43, Try.ntmps43
 go_wp2
 go_loop [3, 4] (fun hh i => ∃ (k : Nat) (x : Int), k <= len /\ i = .int .i64 k /\ hh = .int .i64 x /\ 0 <= x /\ x <= 1073741823) (fun _ i => len - (intOf i).toNat)
 case atStart => exact ⟨0, _, Nat.zero_le _, rfl, rfl, by omega, by omega⟩
 case round =>
  obtain ⟨k, x, hk, rfl, rfl, hx0, hx1⟩ := hrel
  by_cases hlt : k < len
  ·obtain ⟨bb, off, v, rfl, hbb, hcv, v0, v1⟩ := C k hlt
   clear C
   go_wp2
   have hm := qzbp (x * 193 + v + 11)
   go_round
   case rel => exact ⟨k + 1, _, by omega, by go_num, rfl, hm.1, hm.2⟩
   case measure => simp [intOf]; omega
  ·go_wp2
   go_ret
   exact ⟨rfl, ⟨x, qz1f.alloc_new _ _ _ _ _ _ _⟩, (Q6c _ _).alloc (Q6f _) _⟩
theorem qz4p (B b : Nat) (a : Option Addr) (len cap : Nat) (i h : Int) (w : World) (hB : B <= b) (hlen : len <= 4096) (D : qz1f .i64 w b a len cap i h) (C : qz15 B w a len) :
  Calls Try.prog 85 Q4d w fun e w' => ∃ r i' h', e = .returned (.int .i64 r) /\ 0 <= r /\ r <= 255 /\ qz1f .i64 w' b a len cap i' h' /\ Only b w w' := by
 have D0 := (show Hid _ from D)
 obtain ⟨c0, c1, c2, f1, f2, lo, hi, blk⟩ := D
 by_cases hlt : i < len
 ·obtain ⟨bb, off, v, rfl, hbb, hcv, v0, v1⟩ := C i.toNat (by omega)
  obtain ⟨iN, rfl⟩ := Int.eq_ofNat_of_zero_le lo
  simp only [Int.toNat_natCast] at hcv
  have hcv2 : ∀ h1 : Int, (w.setCell ⟨b, 2, none⟩ (.int .i64 h1)).cell? ⟨bb, off + iN, none⟩ = some (.int .u8 v) := fun h1 => (World.cell?_setCell_other _ _ _ _ (by intro e; have := congrArg Addr.block e; simp at this; omega)).trans hcv
  clear C
  go_enter Try.func85, Try.ntmps85
  go_wp2
  generalize wrap64 (wrap64 (h * 6364136223846793005) + 1442695040888963407) = h1
  go_quiet (fail)
  go_wp2
  have hm := qz7e (bits BinOp.xor IntKind.i64 (h1 / 8589934592) (h1 / 35184372088832))
  generalize bits BinOp.and IntKind.i64 (bits BinOp.xor IntKind.i64 (h1 / 8589934592) (h1 / 35184372088832)) 255 = x1 at *
  obtain ⟨hm1, hm2⟩ := hm
  go_quiet (fail)
  go_wp2
  go_quiet (fail)
  go_wp2
  have hm := qz7e (x1 + v)
  go_ret
  exact ⟨_, iN + 1, h1, rfl, hm.1, hm.2, (((D0.out.set2 h1).drewN _).set1 (by omega)), (((Only.refl b w).setCell (Or.inl rfl) _).drewN _).setCell (Or.inl rfl) _⟩
 ·clear C
  go_enter Try.func85, Try.ntmps85
  go_wp2
  generalize wrap64 (wrap64 (h * 6364136223846793005) + 1442695040888963407) = h1
  go_quiet (fail)
  go_wp2
  have hm := qz7e (bits BinOp.xor IntKind.i64 (h1 / 8589934592) (h1 / 35184372088832))
  generalize bits BinOp.and IntKind.i64 (bits BinOp.xor IntKind.i64 (h1 / 8589934592) (h1 / 35184372088832)) 255 = x1 at *
  obtain ⟨hm1, hm2⟩ := hm
  go_quiet (fail)
  go_wp2
  go_ret
  exact ⟨_, i, h1, rfl, hm1, hm2, ((D0.out.set2 h1).drewN _).drewN _, (((Only.refl b w).setCell (Or.inl rfl) _).drewN _).drewN _⟩
theorem qzw (B b : Nat) (a : Option Addr) (len cap : Nat) (i h n : Int) (w : World) (hB : B <= b) (hlen : len <= 4096) (D : qz1f .i64 w b a len cap i h) (C : qz15 B w a len) (hn1 : 1 <= n) (hn2 : n <= 4000000) :
  Calls Try.prog 58 #[.pointer (some ⟨b, 0, none⟩), .int .i64 n] w fun e w' => ∃ r i' h', e = .returned (.int .i64 r) /\ 0 <= r /\ r < n /\ qz1f .i64 w' b a len cap i' h' /\ qz15 B w' a len /\ Only b w w' := by
 have blk := D.blk
 by_cases hs : n <= 256
 ·go_enter Try.func58, Try.ntmps58
  go_wp2_with fail
  refine (qz4p B b a len cap i h w hB hlen D C).mono ?_
  rintro e w1 ⟨r, i1, h1, rfl, r0, r1, D1, O1⟩
  go_wp2
  go_ret
  exact ⟨_, i1, h1, rfl, (qz3x _ hn1).1, (qz3x _ hn1).2, D1, C.below (O1.below hB (by omega)), O1⟩
 ·go_enter Try.func58, Try.ntmps58
  go_wp2_with fail
  refine (qz4p B b a len cap i h w hB hlen D C).mono ?_
  rintro e w1 ⟨r1, i1, h1, rfl, r10, r11, D1, O1⟩
  have C1 := C.below (O1.below hB (by omega))
  go_wp2_with fail
  refine (qz4p B b a len cap i1 h1 w1 hB hlen D1 C1).mono ?_
  rintro e w2 ⟨r2, i2, h2, rfl, r20, r21, D2, O2⟩
  have C2 := C1.below (O2.below hB (by have := D1.blk; omega))
  go_wp2_with fail
  refine (qz4p B b a len cap i2 h2 w2 hB hlen D2 C2).mono ?_
  rintro e w3 ⟨r3, i3, h3, rfl, r30, r31, D3, O3⟩
  have C3 := C2.below (O3.below hB (by have := D2.blk; omega))
  go_wp2_with fail
  refine (qz4p B b a len cap i3 h3 w3 hB hlen D3 C3).mono ?_
  rintro e w4 ⟨r4, i4, h4, rfl, r40, r41, D4, O4⟩
  have C4 := C3.below (O4.below hB (by have := D3.blk; omega))
  go_wp2
  go_ret
  exact ⟨_, i4, h4, rfl, (qz3x _ hn1).1, (qz3x _ hn1).2, D4, C4, ((O1.trans O2).trans O3).trans O4⟩
theorem qz47 (B b : Nat) (a : Option Addr) (len cap : Nat) (i h n : Int) (w : World) (hB : B <= b) (hlen : len <= 4096) (D : qz1f .i64 w b a len cap i h) (C : qz15 B w a len) (hn1 : 1 <= n) (hn2 : n <= 4000000) :
  Calls Try.prog 73 #[.pointer (some ⟨b, 0, none⟩), .int .i64 n] w fun e w' => ∃ (r : Bool) (i' h' : Int), e = .returned (.bool r) /\ qz1f .i64 w' b a len cap i' h' /\ qz15 B w' a len /\ Only b w w' := by
 go_enter Try.func73, Try.ntmps73
 go_wp2_with fail
 refine (qzw B b a len cap i h n w hB hlen D C hn1 hn2).mono ?_
 rintro e w1 ⟨r, i1, h1, rfl, r0, r1, D1, C1, O1⟩
 go_wp2
 go_ret
 exact ⟨_, i1, h1, rfl, D1, C1, O1⟩
theorem qza7 (x y : Int) (w : World) : Calls Try.prog 90 #[.int .i64 x, .int .i64 y] w fun e w' => e = .returned (.int .i64 (min x y)) /\ w' = w := by
 by_cases h : x < y
 ·go_enter Try.func90, Try.ntmps90
  go_wp2
  go_ret
  exact ⟨by rw [show min x y = x by omega]; rfl, rfl⟩
 ·go_enter Try.func90, Try.ntmps90
  go_wp2
  go_ret
  exact ⟨by rw [show min x y = y by omega]; rfl, rfl⟩
end
end Go.Proofs.Ythjkdnlmopafkaa
