/-
  What the law's proof goes by, part 1.
-/
import Derived.Test.YthjkdnlmopafkaaGreatDoorRows
import Derived.WalkKit
import Derived.ProofKit
import Derived.OpenShut
import Derived.ShutString
import Derived.ChangeOld
import Derived.Below
import Derived.Lib.SmallJoins
import Derived.Laws.Bits128
import Derived.Deep.MidRow
import Derived.Deep.QuietTactic
import Derived.BigQuiet
import Derived.RegionTactic
import Derived.ChangeAlike
namespace Go.Proofs.YthjkdnlmopafkaaGreatDoor
open Go.ChangeShapes Go.WideShapes Go.ChangeAt Go.RowKit
set_option maxRecDepth 100000
set_option maxHeartbeats 16000000
set_option linter.unusedVariables false
set_option linter.unusedSimpArgs false
set_option linter.unnecessarySimpa false
set_option linter.unusedSectionVars false
set_option hygiene false
scoped notation "Q6o" => w.heap.size
scoped notation "Q6p" => Option.some.inj
scoped notation "Q6q" => A.nodes.length
scoped notation "Q6r" => A.vers.length
scoped notation "Q6s" => Below.refl
scoped notation "Q6t" => wpList_store_mid
scoped notation "Q6u" => World.rangeAt_setCells_same
scoped notation "Q6v" => Nat.le_refl
scoped notation "Q6w" => A.camera
scoped notation "Q6x" => Tryz.underlying56
scoped notation "Q6y" => w1.heap.size
scoped notation "Q6z" => wpList_load_mid
scoped notation "Q70" => l.toArray.size
scoped notation "Q71" => Tryz.underlying60
scoped notation "Q72" => Nat.lt_of_lt_of_le
scoped notation "Q73" => w0.heap.size
scoped notation "Q74" => A.slots.length
scoped notation "Q75" => A.guides.length
scoped notation "Q76" => W.hands.length
scoped notation "Q77" => Nat.le_trans
scoped notation "Q78" => w2.heap.size
scoped notation "Q79" => W.calls.length
scoped notation "Q7a" => W.ticks.length
scoped notation "Q7b" => World.rangeAt_alloc
scoped notation "Q7c" => W.deeds.length
scoped notation "Q7d" => World.rangeAt_setCells_apart
scoped notation "Q7e" => Tryz.underlying50
scoped notation "Q7f" => World.there_setCells
scoped notation "Q7g" => Tryz.underlying30
scoped notation "Q7h" => World.there_alloc
scoped notation "Q7i" => w5.heap.size
scoped notation "Q00" => #[.int .i64 0, .int .i64 0, .int .i64 0, .int .i64 0, .int .i64 0, .int .i64 0, .int .i64 0, .int .i64 0, .int .i64 0, .int .i64 0, .int .i64 0, .int .i64 0, .int .i64 0, .int .i64 0, .int .i64 0, .int .i64 0, .int .i64 0, .int .i64 0, .int .i64 0, .int .i64 0, .int .i64 0, .int .i64 0]
scoped notation "Q01" => #[.int .i64 0, .slice none 0 0, .slice none 0 0, .slice none 0 0, .slice none 0 0, .int .i64 0, .int .i64 0, .int .i64 0, .int .i64 0, .int .i64 0, .int .i64 0, .int .i64 0, .int .i64 0, .int .i64 0, .int .i64 0, .int .i64 0, .int .i64 0, .int .i64 0, .int .i64 0, .int .i64 0, .int .i64 0, .int .i64 0, .int .i64 0, .int .i64 0, .int .i64 0, .int .i64 0, .int .i64 0, .int .i64 0, .int .i64 0, .int .i64 0, .int .i64 0, .int .i64 0, .bool false]
scoped notation "Q02" => #[.int .i64 Q6w, .slice a0 Q74 c0, .slice a1 Q75 c1, .slice a2 Q6q c2, .slice a3 Q6r c3]
scoped notation "Q03" => #[.int .i64 x, .int .i64 y, .int .i64 z, .int .i64 u, .int .i64 W.A.camera, .slice a0 W.A.slots.length c0, .slice a1 W.A.guides.length c1, .slice a2 W.A.nodes.length c2, .slice a3 W.A.vers.length c3, .slice (some ⟨hb, ho, none⟩) Q76 c4, .slice a5 Q79 c5, .slice a6 Q7c c6, .slice a7 Q7a c7, .int .i64 W.now]
scoped notation "Q04" => #[.int .i64 0, .int .i64 0, .int .i64 0, .int .i64 0, .int .i64 0, .slice none 0 0, .slice none 0 0, .slice none 0 0, .slice none 0 0, .slice none 0 0, .slice none 0 0, .slice none 0 0, .slice none 0 0, .int .i64 0]
scoped notation "Q05" => (.slice (some ⟨rb, 0, none⟩) Q6r rc)
scoped notation "Q06" => #[.int .i64 x, .int .i64 y, .int .i64 z, .int .i64 u]
scoped notation "Q07" => (.slice ga Q75 gc)
scoped notation "Q08" => #[.int .i64 h.at_, .int .i64 h.then_, .int .i64 h.code, .int .i64 h.key, .int .i64 h.value, .int .i64 h.begin, .int .i64 h.reply, .int .i64 h.out, .int .i64 h.sum, .int .i64 h.held, .int .i64 h.x_, .int .i64 h.ver, .int .i64 h.cam, .int .i64 h.camAt, .int .i64 h.pred, .int .i64 h.predVer, .int .i64 h.curr, .int .i64 h.currVer, .int .i64 h.new_, .int .i64 h.least, .int .i64 h.index, .int .i64 h.round]
scoped notation "Q09" => #[.int .i64 0, .slice none 0 0, .slice none 0 0, .slice none 0 0, .slice none 0 0]
scoped notation "Q0a" => (.slice sa Q74 sc)
scoped notation "Q0b" => (.slice (some ⟨nb, 0, none⟩) Q6q nc)
scoped notation "Q0c" => (.slice na Q6q nc)
scoped notation "Q0d" => #[.int .i64 x, .int .i64 y, .int .i64 z, .int .i64 u, .int .i64 W.A.camera, .slice a0 W.A.slots.length c0, .slice a1 W.A.guides.length c1, .slice a2 W.A.nodes.length c2, .slice a3 W.A.vers.length c3, .slice a4 Q76 c4, .slice a5 Q79 c5, .slice a6 Q7c c6, .slice a7 Q7a c7, .int .i64 W.now]
scoped notation "Q0e" => (.slice (some ⟨sb, 0, none⟩) Q74 sc)
scoped notation "Q0f" => #[.int .i64 x, .int .i64 y, .int .i64 z, .int .i64 u, .int .i64 W.A.camera, .slice sa6 W.A.slots.length sc6, .slice ga6 W.A.guides.length gc6, .slice na6 W.A.nodes.length nc6, .slice ra6 W.A.vers.length rc6, .slice (some ⟨hg, 0, none⟩) Q76 hcap, .slice ca Q79 cc, .slice da Q7c dc, .slice ta Q7a tc, .int .i64 (W.now)]
scoped notation "Q0g" => (wdC x y z u W.A.camera (.slice a0 W.A.slots.length c0) (.slice a1 W.A.guides.length c1) (.slice a2 W.A.nodes.length c2) (.slice a3 W.A.vers.length c3) (.slice a4 Q76 c4) (.slice a5 Q79 c5) (.slice a6 Q7c c6) (.slice a7 Q7a c7) W.now)
scoped notation "Q0h" => (.slice ra Q6r rc)
scoped notation "Q0i" => [.int .i64 0, .slice none 0 0, .slice none 0 0, .slice none 0 0, .slice none 0 0, .int .i64 0, .int .i64 0, .int .i64 0, .int .i64 0, .int .i64 0, .int .i64 0, .int .i64 0, .int .i64 0, .int .i64 0, .int .i64 0, .int .i64 0, .int .i64 0, .int .i64 0, .int .i64 0, .int .i64 0, .int .i64 0, .int .i64 0, .int .i64 0, .int .i64 0, .int .i64 0, .int .i64 0, .int .i64 0, .int .i64 0, .int .i64 0, .int .i64 0, .int .i64 0, .int .i64 0, .bool false]
scoped notation "Q0j" => [.int .i64 Q6w, .slice a0 Q74 c0, .slice a1 Q75 c1, .slice a2 Q6q c2, .slice a3 Q6r c3]
scoped notation "Q0k" => [.int .i64 x, .int .i64 y, .int .i64 z, .int .i64 u, .int .i64 W.A.camera, .slice sa6 W.A.slots.length sc6, .slice ga6 W.A.guides.length gc6, .slice na6 W.A.nodes.length nc6, .slice ra6 W.A.vers.length rc6, .slice (some ⟨hg, 0, none⟩) Q76 hcap, .slice ca Q79 cc, .slice da Q7c dc, .slice ta Q7a tc, .int .i64 (W.now)]
scoped notation "Q0l" => [.int .i64 0, .int .i64 0, .int .i64 0, .int .i64 0, .int .i64 0, .int .i64 0, .int .i64 0, .int .i64 0, .int .i64 0, .int .i64 0, .int .i64 0, .int .i64 0, .int .i64 0, .int .i64 0, .int .i64 0, .int .i64 0, .int .i64 0, .int .i64 0, .int .i64 0, .int .i64 0, .int .i64 0, .int .i64 0]
scoped notation "Q0m" => (.slice (some ⟨gb, 0, none⟩) Q75 gc)
scoped notation "Q0n" => [.int .i64 x, .int .i64 y, .int .i64 z, .int .i64 u]
scoped notation "Q0o" => [.int .i64 x, .int .i64 y, .int .i64 z, .int .i64 u, .int .i64 W.A.camera, .slice a0 W.A.slots.length c0, .slice a1 W.A.guides.length c1, .slice a2 W.A.nodes.length c2, .slice a3 W.A.vers.length c3, .slice (some ⟨hb, ho, none⟩) Q76 c4, .slice a5 Q79 c5, .slice a6 Q7c c6, .slice a7 Q7a c7, .int .i64 W.now]
scoped notation "Q0p" => (.cells (hdC h).toArray 56)
scoped notation "Q0q" => [.int .i64 xN, .int .i64 y, .int .i64 z, .int .i64 uN, .int .i64 0, .slice (some ⟨sg, 0, none⟩) xN sc, .slice (some ⟨gb, 0, none⟩) uN uN, .slice (some ⟨nb, 0, none⟩) 1 1, .slice (some ⟨vb, 0, none⟩) 1 1, .slice (some ⟨hg, 0, none⟩) xN hc, .slice none 0 0, .slice none 0 0, .slice none 0 0, .int .i64 0]
scoped notation "Q0r" => [.int .i64 x, .int .i64 y, .int .i64 z, .int .i64 u, .int .i64 W.A.camera, .slice sa6 W.A.slots.length sc6, .slice ga6 W.A.guides.length gc6, .slice na6 W.A.nodes.length nc6, .slice ra6 W.A.vers.length rc6, .slice (some ⟨hg, 0, none⟩) Q76 hcap, .slice ca Q79 cc, .slice da Q7c dc, .slice ta Q7a tc, .int .i64 (W.now + 1)]
scoped notation "Q0s" => (wdC x y z u W.A.camera (.slice sa6 W.A.slots.length sc6) (.slice ga6 W.A.guides.length gc6) (.slice na6 W.A.nodes.length nc6) (.slice ra6 W.A.vers.length rc6) (.slice (some ⟨hg, 0, none⟩) Q76 hcap) (.slice ca Q79 cc) (.slice da Q7c dc) (.slice ta Q7a tc) W.now)
scoped notation "Q0t" => (.slice a2 Q6q c2)
scoped notation "Q0u" => #[.int .i64 xN, .int .i64 y, .int .i64 z, .int .i64 uN, .int .i64 0, .slice (some ⟨sg, 0, none⟩) xN sc, .slice (some ⟨gb, 0, none⟩) uN uN, .slice (some ⟨nb, 0, none⟩) 1 1, .slice (some ⟨vb, 0, none⟩) 1 1, .slice none 0 0, .slice none 0 0, .slice none 0 0, .slice none 0 0, .int .i64 0]
scoped notation "Q0v" => (qz11 _ _ _ _ _ _ _ _ _ _ _ _ _ _ _ _)
scoped notation "Q0w" => (.slice a1 Q75 c1)
scoped notation "Q0x" => (.slice a0 Q74 c0)
scoped notation "Q0y" => (.cells #[.int .i64 0, .int .i64 0, .int .i64 0, .int .i64 0] 25)
scoped notation "Q0z" => ((w1.setCell ⟨Q6o + 1, 17, none⟩ (.int .i64 h.ver)).drewN nq)
scoped notation "Q10" => (.cells #[.int .i64 A.vers[v].next, .bool A.vers[v].gone, .int .i64 A.vers[v].stamp, .int .i64 A.vers[v].prev, .int .i64 A.vers[v].kind] 40)
scoped notation "Q11" => (.slice a3 Q6r c3)
scoped notation "Q12" => (.slice ga2 A2.guides.length gc2)
scoped notation "Q13" => (.slice sa2 A2.slots.length sc2)
scoped notation "Q14" => (.cells #[.pointer (some ⟨4, 139, none⟩), .pointer (some ⟨Q6o, 0, none⟩), .int .u64 150] 173)
scoped notation "Q15" => (qz3c k 0 (Array.replicate Q70 false))
scoped notation "Q16" => (.slice ra2 A2.vers.length rc2)
scoped notation "Q17" => (w2.setCells Q6y 0 [.int .i64 xN, .int .i64 y, .int .i64 z, .int .i64 uN, .int .i64 0, .slice (some ⟨sg, 0, none⟩) xN sc, .slice (some ⟨gb, 0, none⟩) uN uN, .slice (some ⟨nb, 0, none⟩) 1 1, .slice (some ⟨vb, 0, none⟩) 1 1, .slice none 0 0, .slice none 0 0, .slice none 0 0, .slice none 0 0, .int .i64 0])
scoped notation "Q18" => (qza Q6w Q0a Q07 Q0c Q0h h d tk)
scoped notation "Q19" => (qz18 x y z u A h d tk me clock)
scoped notation "Q1a" => [.int .i64 x, .int .i64 y, .int .i64 z, .int .i64 u, .int .i64 As.camera, .slice sa sl0 sc, .slice ga gl0 gc, .slice na nl0 nc, .slice ra rl0 rc, .slice (some ⟨hg, 0, none⟩) Q76 hcap, .slice ca Q79 cc, .slice da Q7c dc, .slice ta Q7a tc, .int .i64 (W.now + 1)]
scoped notation "Q1b" => (qza Q6w (.slice sa2 (qz22 x y z u A h).1.slots.length sc2) (.slice ga2 (qz22 x y z u A h).1.guides.length gc2) (.slice na2 (qz22 x y z u A h).1.nodes.length nc2) (.slice ra2 (qz22 x y z u A h).1.vers.length rc2) (qz22 x y z u A h).2 d tk)
scoped notation "Q1c" => [.int .i64 W.A.camera, .slice a0 W.A.slots.length c0, .slice a1 W.A.guides.length c1, .slice a2 W.A.nodes.length c2, .slice a3 W.A.vers.length c3]
scoped notation "Q1d" => (.slice na2 A2.nodes.length nc2)
scoped notation "Q1e" => (.slice (some ⟨bb, off, none⟩) Q6r c3)
scoped notation "Q1f" => #[.int .i64 W.A.camera, .slice a0 W.A.slots.length c0, .slice a1 W.A.guides.length c1, .slice a2 W.A.nodes.length c2, .slice a3 W.A.vers.length c3]
scoped notation "Q1g" => [.int .i64 x, .int .i64 y, .int .i64 z, .int .i64 u, .int .i64 As.camera, .slice sa sl0 sc, .slice ga gl0 gc, .slice na nl0 nc, .slice ra rl0 rc, .slice (some ⟨hg, 0, none⟩) Q76 hcap, .slice ca2 (Q79 + 1) cc2, .slice da2 (Q7c + 1) dc2, .slice ta Q7a tc, .int .i64 (W.now + 1)]
scoped notation "Q1h" => [.int .i64 x, .int .i64 y, .int .i64 z, .int .i64 u, .int .i64 As.camera, .slice sa sl0 sc, .slice ga gl0 gc, .slice na nl0 nc, .slice ra rl0 rc, .slice (some ⟨hg, 0, none⟩) Q76 hcap, .slice ca2 (Q79 + 1) cc2, .slice da Q7c dc, .slice ta2 (Q7a + 1) tc2, .int .i64 (W.now + 1)]
scoped notation "Q1i" => #[.int .i64 x, .int .i64 y, .int .i64 z, .int .i64 u, .int .i64 0, .slice (some ⟨sg, 0, none⟩) xN sc, .slice (some ⟨gb, 0, none⟩) uN uN, .slice (some ⟨nb, 0, none⟩) 1 1, .slice (some ⟨vb, 0, none⟩) 1 1, .slice (some ⟨hg, 0, none⟩) xN hc, .slice none 0 0, .slice none 0 0, .slice none 0 0, .int .i64 0]
scoped notation "Q1j" => [.int .i64 x, .int .i64 y, .int .i64 z, .int .i64 u, .int .i64 As.camera, .slice sa sl0 sc, .slice ga gl0 gc, .slice na nl0 nc, .slice ra rl0 rc, .slice (some ⟨hg, 0, none⟩) Q76 hcap, .slice ca2 (Q79 + 1) cc2, .slice da Q7c dc, .slice ta Q7a tc, .int .i64 (W.now + 1)]
scoped notation "Q1k" => [.int .i64 x, .int .i64 y, .int .i64 z, .int .i64 u, .int .i64 As.camera, .slice sa sl0 sc, .slice ga gl0 gc, .slice na nl0 nc, .slice ra rl0 rc, .slice (some ⟨hg, 0, none⟩) Q76 hcap, .slice ca Q79 cc, .slice da2 (Q7c + 1) dc2, .slice ta Q7a tc, .int .i64 (W.now + 1)]
scoped notation "Q1l" => [.int .i64 X.camera, .slice s0 X.slots.length t0, .slice s1 X.guides.length t1, .slice s2 X.nodes.length t2, .slice (some ⟨rb, ro, none⟩) X.vers.length t3]
scoped notation "Q1m" => (qza As.camera (.slice sa sl0 sc) (.slice ga gl0 gc) (.slice na nl0 nc) (.slice ra rl0 rc) Hn En Tn)
scoped notation "Q1n" => [.int .i64 Q6w, .slice sa Q74 sc, .slice ga Q75 gc, .slice (some ⟨nb, 0, none⟩) Q6q nc, .slice ra2 (Q6r + 1) rc2]
scoped notation "Q1o" => [.int .i64 0, .slice (some ⟨g, 0, none⟩) k cap, .slice (some ⟨Q6y, 0, none⟩) uN uN, .slice (some ⟨Q6y + 1, 0, none⟩) 1 1, .slice (some ⟨Q6y + 1 + 1, 0, none⟩) 1 1]
scoped notation "Q1p" => #[.int .i64 0, .bool false, .int .i64 0, .int .i64 0, .int .i64 0]
scoped notation "Q1q" => (qza Q6w (.slice sa2 (qz14 z A h.pred h.predVer (newI h) false 1).1.slots.length sc2) (.slice ga2 (qz14 z A h.pred h.predVer (newI h) false 1).1.guides.length gc2) (.slice na2 (qz14 z A h.pred h.predVer (newI h) false 1).1.nodes.length nc2) (.slice ra2 (qz14 z A h.pred h.predVer (newI h) false 1).1.vers.length rc2) (qz79 (qz14 z A h.pred h.predVer (newI h) false 1).2 h h.pred 4) d tk)
scoped notation "Q1r" => #[.int .i64 Q6w, .slice sa Q74 sc, .slice ga Q75 gc, .slice (some ⟨nb, 0, none⟩) Q6q nc, .slice ra Q6r rc]
scoped notation "Q1s" => ((w.alloc (.cells Q06 25)).alloc (.cells Q02 30))
scoped notation "Q1t" => #[.int .i64 Q6w, s, g, n, r]
scoped notation "Q1u" => ((w5.alloc (.cells Q09 30)).setCells Q7i 0 [.int .i64 X.camera, .slice f0 X.slots.length e0, .slice f1 X.guides.length e1, .slice f2 X.nodes.length e2, .slice f3 X.vers.length e3])
scoped notation "Q1v" => ((w3.alloc (.cells Q09 30)).setCells w3.heap.size 0 [.int .i64 X.camera, .slice s0 X.slots.length t0, .slice s1 X.guides.length t1, .slice s2 X.nodes.length t2, .slice s3 X.vers.length t3])
scoped notation "Q1w" => (.slice ra2 (Q6r + 1) rc2)
scoped notation "Q1x" => (qza Q6w Q0a Q0m Q0b Q05 h d tk)
scoped notation "Q1z" => (.slice (some ⟨Q6o, 0, none⟩) l.length l.length)
scoped notation "Q20" => #[.agg Q06, .agg (qza Q6w s g n r h d tk).toArray, .int .i64 me, .int .i64 clock]
scoped notation "Q21" => [.int .i64 x, .int .i64 y, .int .i64 z, .int .i64 u, .int .i64 W.A.camera, .slice sa W.A.slots.length sc, .slice ga W.A.guides.length gc, .slice na W.A.nodes.length nc, .slice ra W.A.vers.length rc, .slice ha Q76 hc, .slice ca Q79 cc, .slice da Q7c dc, .slice ta Q7a tc, .int .i64 W.now]
scoped notation "Q22" => [.int .i64 xN, .int .i64 y, .int .i64 z, .int .i64 uN, .int .i64 0, .slice (some ⟨sg, 0, none⟩) xN sc, .slice (some ⟨gb, 0, none⟩) uN uN, .slice (some ⟨nb, 0, none⟩) 1 1, .slice (some ⟨vb, 0, none⟩) 1 1]
scoped notation "Q23" => (.slice (some ⟨hg, 0, none⟩) Q76 hcap)
scoped notation "Q24" => #[.int .i64 Q6w, .slice sa Q74 sc, .slice ga Q75 gc, .slice na Q6q nc, .slice (some ⟨rb, 0, none⟩) Q6r rc]
scoped notation "Q25" => (.slice (some ⟨rb, 0, none⟩) Q6r c3)
scoped notation "Q26" => (wdC x y z u W2.A.camera (.slice sa W2.A.slots.length sc') (.slice ga W2.A.guides.length gc') (.slice na W2.A.nodes.length nc') (.slice ra W2.A.vers.length rc') (.slice ha W2.hands.length hc') (.slice ca W2.calls.length cc') (.slice da W2.deeds.length dc') (.slice ta W2.ticks.length tc') W2.now)
scoped notation "Q27" => (((((w2.setCell ⟨Q6o + 1, 0, none⟩ (.int .i64 Q6w)).setCell ⟨Q6o + 1, 1, none⟩ Q13).setCell ⟨Q6o + 1, 2, none⟩ Q12).setCell ⟨Q6o + 1, 3, none⟩ (.slice (some ⟨nb2, 0, none⟩) A2.nodes.length nc2)).setCell ⟨Q6o + 1, 4, none⟩ Q16)
scoped notation "Q28" => (.slice (some ⟨sb, 0, none⟩) Q74 c0)
scoped notation "Q29" => (.slice (some ⟨nb, 0, none⟩) Q6q c2)
scoped notation "Q2a" => [.int .i64 Q6w, .slice sa Q74 sc, .slice ga Q75 gc, .slice (some ⟨nb, 0, none⟩) Q6q nc, .slice ra Q6r rc]
scoped notation "Q2b" => (((w.alloc (.cells Q06 25)).alloc (.cells (Q18).toArray 60)).alloc (.cells Q01 60))
scoped notation "Q2c" => ((w.alloc (.cells Q03 50)).alloc (.cells Q04 50))
scoped notation "Q2d" => (qza Q6w (.slice sa2 (qz25 A h d clock).1.slots.length sc2) (.slice ga2 (qz25 A h d clock).1.guides.length gc2) (.slice na2 (qz25 A h d clock).1.nodes.length nc2) (.slice ra2 (qz25 A h d clock).1.vers.length rc2) (qz25 A h d clock).2.1 (qz25 A h d clock).2.2 tk)
scoped notation "Q2e" => (qza (qzo A h me tk).1.camera (.slice sa2 (qzo A h me tk).1.slots.length sc2) (.slice ga2 (qzo A h me tk).1.guides.length gc2) (.slice na2 (qzo A h me tk).1.nodes.length nc2) (.slice ra2 (qzo A h me tk).1.vers.length rc2) (qzo A h me tk).2.1 d (qzo A h me tk).2.2)
scoped notation "Q2f" => #[.int .i64 0, .int .i64 0, .int .i64 0, .int .i64 0, .int .i64 0]
scoped notation "Q2g" => (qza Q6w Q0a Q0m Q0b Q05 (qz9 h 1 0 0) d tk)
scoped notation "Q2h" => (qza Q6w (.slice sa2 (qzw x y z u A h).1.slots.length sc2) (.slice ga2 (qzw x y z u A h).1.guides.length gc2) (.slice na2 (qzw x y z u A h).1.nodes.length nc2) (.slice ra2 (qzw x y z u A h).1.vers.length rc2) (qzw x y z u A h).2 d tk)
scoped notation "Q2i" => (qza (qz27 A h tk me) s' g' n' r' Q19.2.1 Q19.2.2.1 Q19.2.2.2)
scoped notation "Q2j" => (((w.alloc (.cells Q02 30)).alloc Q0p).alloc (.cells Q00 56))
scoped notation "Q2k" => (qza Q6w (.slice sa2 (qz3b y z A h).1.slots.length sc2) (.slice ga2 (qz3b y z A h).1.guides.length gc2) (.slice na2 (qz3b y z A h).1.nodes.length nc2) (.slice ra2 (qz3b y z A h).1.vers.length rc2) (qz3b y z A h).2 d tk)
scoped notation "Q2l" => [.int .i64 0, .int .i64 0, .int .i64 0, .int .i64 0, .int .i64 0, .slice none 0 0, .slice none 0 0, .slice none 0 0, .slice none 0 0, .slice none 0 0, .slice none 0 0, .slice none 0 0, .slice none 0 0, .int .i64 0]
scoped notation "Q2m" => (hdC (qz9 H' 4 h.out h.sum))
scoped notation "Q2n" => #[.agg Q06, .agg (qza Q6w s g n r h d tk).toArray]
scoped notation "Q2o" => (qza Q6w (.slice sa2 (qz4g A h).1.slots.length sc2) (.slice ga2 (qz4g A h).1.guides.length gc2) (.slice na2 (qz4g A h).1.nodes.length nc2) (.slice ra2 (qz4g A h).1.vers.length rc2) (qz4g A h).2 d tk)
scoped notation "Q2p" => (hdC (qz9 H' 4 (min (h.out + 1) 1000000) (min (h.sum + A.nodes[n].value) 1000000)))
scoped notation "Q2r" => (.slice (some ⟨gb, 0, none⟩) Q75 c1)
scoped notation "Q2s" => #[.int .i64 x, .int .i64 y, .int .i64 z, .int .i64 u, .int .i64 W.A.camera, .slice sa6 W.A.slots.length sc6, .slice ga6 W.A.guides.length gc6, .slice na6 W.A.nodes.length nc6, .slice ra6 W.A.vers.length rc6, .slice (some ⟨hg, 0, none⟩) Q76 hcap, .slice ca Q79 cc, .slice da Q7c dc, .slice ta Q7a tc, .int .i64 (W.now + 1)]
scoped notation "Q2t" => [.int .i64 Q6w, s, g, n, r]
scoped notation "Q2u" => (.slice ca2 (Q79 + 1) cc2)
scoped notation "Q2v" => #[.int .i64 c.proc, .int .i64 c.code, .int .i64 c.key, .int .i64 c.value, .int .i64 c.begin, .int .i64 c.end_, .int .i64 c.reply, .int .i64 c.out, .int .i64 c.sum, .int .i64 c.held]
scoped notation "Q2w" => #[.int .i64 Q6w, .slice sa Q74 sc, .slice ga Q75 gc, .slice (some ⟨nb, 0, none⟩) Q6q nc, .slice (some ⟨rb, 0, none⟩) Q6r rc]
scoped notation "Q2x" => (qza Q6w Q0e Q07 Q0c Q0h (qz9 H' 4 h.cam 0) d tk)
scoped notation "Q2y" => (.slice ca Q79 cc)
scoped notation "Q2z" => (.slice (some ⟨nb2, 0, none⟩) A2.nodes.length nc2)
scoped notation "Q30" => (qz14 z A h.pred h.predVer A.vers[ck].next false 0)
scoped notation "Q31" => #[.int .i64 x, .int .i64 y, .int .i64 z, .int .i64 u, .int .i64 W.A.camera, .slice sa W.A.slots.length sc, .slice ga W.A.guides.length gc, .slice na W.A.nodes.length nc, .slice ra W.A.vers.length rc, .slice ha Q76 hc, .slice ca Q79 cc, .slice da Q7c dc, .slice ta Q7a tc, .int .i64 W.now]
scoped notation "Q32" => [.int .i64 x, .int .i64 y, .int .i64 z, .int .i64 u, .int .i64 W.A.camera, .slice a0 W.A.slots.length c0, .slice a1 W.A.guides.length c1, .slice a2 W.A.nodes.length c2, .slice a3 W.A.vers.length c3, .slice a4 Q76 c4, .slice a5 Q79 c5, .slice a6 Q7c c6, .slice a7 Q7a c7, .int .i64 W.now]
scoped notation "Q33" => (.slice ta Q7a tc)
scoped notation "Q34" => ((w.alloc (.cells Q06 25)).alloc (.cells (Q18).toArray 60))
scoped notation "Q35" => (w.alloc (.cells Q02 30))
scoped notation "Q36" => (((w.alloc (.cells Q06 25)).alloc (.cells (Q1x).toArray 60)).alloc (.cells Q01 60))
scoped notation "Q37" => (.slice da Q7c dc)
scoped notation "Q38" => #[.int .i64 x, .int .i64 y, .int .i64 z, .int .i64 u, .int .i64 As.camera, .slice sa sl0 sc, .slice ga gl0 gc, .slice na nl0 nc, .slice ra rl0 rc, .slice (some ⟨hg, 0, none⟩) Q76 hcap, .slice ca2 (Q79 + 1) cc2, .slice da2 (Q7c + 1) dc2, .slice ta Q7a tc, .int .i64 (W.now + 1)]
scoped notation "Q39" => #[.int .i64 x, .int .i64 y, .int .i64 z, .int .i64 u, .int .i64 As.camera, .slice sa sl0 sc, .slice ga gl0 gc, .slice na nl0 nc, .slice ra rl0 rc, .slice (some ⟨hg, 0, none⟩) Q76 hcap, .slice ca2 (Q79 + 1) cc2, .slice da Q7c dc, .slice ta2 (Q7a + 1) tc2, .int .i64 (W.now + 1)]
scoped notation "Q3a" => #[.iface 217 (.pointer (some a))]
scoped notation "Q3b" => (qza Q6w Q13 Q12 Q1d Q16 (qz9 h 5 0 0) d tk)
scoped notation "Q3c" => (qza Q6w Q0a Q07 Q0c Q0h (qz9 h 5 0 0) d tk)
scoped notation "Q3d" => (.slice (some ⟨sg, 0, none⟩) xN sc)
scoped notation "Q3e" => (.slice (some ⟨gb, 0, none⟩) uN uN)
scoped notation "Q3f" => (.cells #[.pointer (some ⟨tb, 0, none⟩)] 139)
scoped notation "Q3g" => #[.int .i64 Q6w, .slice a0 Q74 c0, .slice a1 Q75 c1, .slice a2 Q6q c2, .slice (some ⟨bb, off, none⟩) Q6r c3]
scoped notation "Q3h" => #[.int .i64 x, .int .i64 y, .int .i64 z, .int .i64 u, .int .i64 As.camera, .slice sa sl0 sc, .slice ga gl0 gc, .slice na nl0 nc, .slice ra rl0 rc, .slice (some ⟨hg, 0, none⟩) Q76 hcap, .slice ca2 (Q79 + 1) cc2, .slice da Q7c dc, .slice ta Q7a tc, .int .i64 (W.now + 1)]
scoped notation "Q3i" => #[.int .i64 x, .int .i64 y, .int .i64 z, .int .i64 u, .int .i64 As.camera, .slice sa sl0 sc, .slice ga gl0 gc, .slice na nl0 nc, .slice ra rl0 rc, .slice (some ⟨hg, 0, none⟩) Q76 hcap, .slice ca Q79 cc, .slice da2 (Q7c + 1) dc2, .slice ta Q7a tc, .int .i64 (W.now + 1)]
scoped notation "Q3j" => [.int .i64 Q6w, .slice (some ⟨Q73, 0, none⟩) Q74 Q74, .slice (some ⟨Q6y, 0, none⟩) Q75 Q75, .slice (some ⟨Q78, 0, none⟩) Q6q Q6q, .slice (some ⟨w3.heap.size, 0, none⟩) Q6r Q6r]
scoped notation "Q3k" => (qza Q6w (.slice sa2 Q74 sc2) (.slice ga2 Q75 gc2) (.slice na2 Q6q nc2) (.slice ra2 Q6r rc2) (qz80 A h) d tk)
scoped notation "Q3l" => (hdC (qz5j A H' A.vers[v].next))
scoped notation "Q3m" => #[.int .i64 x, .int .i64 y, .int .i64 z, .int .i64 u, .int .i64 As.camera, .slice sa sl0 sc, .slice ga gl0 gc, .slice na nl0 nc, .slice ra rl0 rc, .slice (some ⟨hg, 0, none⟩) Q76 hcap, .slice ca Q79 cc, .slice da Q7c dc, .slice ta Q7a tc, .int .i64 (W.now + 1)]
scoped notation "Q3n" => (qza Q6w Q0a Q07 Q0c Q05 h d tk)
scoped notation "Q3o" => (qza Q6w Q0a Q07 Q0b Q05 h d tk)
scoped notation "Q3p" => (.slice (some ⟨vb, 0, none⟩) 1 1)
scoped notation "Q3q" => (.slice (some ⟨nb, 0, none⟩) 1 1)
scoped notation "Q3r" => [.int .i64 xN, .int .i64 y, .int .i64 z, .int .i64 uN, .int .i64 0, .slice (some ⟨sg, 0, none⟩) xN sc, .slice (some ⟨gb, 0, none⟩) uN uN, .slice (some ⟨nb, 0, none⟩) 1 1, .slice (some ⟨vb, 0, none⟩) 1 1, .slice none 0 0, .slice none 0 0, .slice none 0 0, .slice none 0 0, .int .i64 0]
scoped notation "Q3s" => (qza Q6w Q0a Q07 Q0c Q05 (qz4q A h) d tk)
scoped notation "Q3t" => #[.int .i64 0, .int .i64 0, .int .i64 0, .int .i64 0]
scoped notation "Q3u" => (qza Q6w Q0a Q07 Q0b Q05 (onH A h) d tk)
scoped notation "Q3v" => (qza Q6w s' g' n' r' (qzw x y z u A h).2 d tk)
scoped notation "Q3w" => (.slice (some ⟨rb, ro, none⟩) Q6r t3)
scoped notation "Q3x" => (.slice (some ⟨ng, 0, none⟩) X.nodes.length nc)
scoped notation "Q3y" => #[.int .i64 En.kind, .int .i64 En.key, .int .i64 En.value, .int .i64 En.stamp, .int .i64 En.clock]
scoped notation "Q3z" => (qz14 z A node v next gone kind)
scoped notation "Q40" => (qz14 z A h.pred h.predVer (vrOf A h.currVer).next false 0)
scoped notation "Q41" => (.slice (some ⟨g, 0, none⟩) n cap)
scoped notation "Q42" => (.cells #[.int .i64 A.nodes[n].key, .int .i64 A.nodes[n].value, .int .i64 A.nodes[n].head] 42)
scoped notation "Q43" => #[.int .i64 As.camera, .slice sa sl0 sc, .slice ga gl0 gc, .slice na nl0 nc, .slice ra rl0 rc]
scoped notation "Q44" => (w.alloc (.cells Q06 25))
scoped notation "Q45" => [.int .i64 As.camera, .slice sa sl0 sc, .slice ga gl0 gc, .slice na nl0 nc, .slice ra rl0 rc]
scoped notation "Q46" => [.int .i64 Q6w, .slice sa Q74 sc, .slice ga Q75 gc, .slice na Q6q nc, .slice ra Q6r rc]
scoped notation "Q47" => (qz9 h 2 A.nodes[m].value 0)
scoped notation "Q48" => (.slice (some ⟨g, 0, none⟩) 0 0)
scoped notation "Q49" => #[.int .i64 xN, .int .i64 y, .int .i64 z, .int .i64 uN]
scoped notation "Q4a" => #[.int .i64 0, .int .i64 0, .int .i64 0]
scoped notation "Q4b" => [.int .i64 A.vers[v].next, .bool A.vers[v].gone, .int .i64 A.vers[v].stamp, .int .i64 A.vers[v].prev, .int .i64 A.vers[v].kind]
scoped notation "Q4c" => (qz5a z A node ⟨nx, go, -1, v, kd⟩)
scoped notation "Q4d" => (((((w2.setCell ⟨Q6o + 1, 0, none⟩ (.int .i64 Q6w)).setCell ⟨Q6o + 1, 1, none⟩ Q13).setCell ⟨Q6o + 1, 2, none⟩ Q12).setCell ⟨Q6o + 1, 3, none⟩ Q1d).setCell ⟨Q6o + 1, 4, none⟩ Q16)
scoped notation "Q4e" => (qz18 x y z u A h qz3u false me clock)
scoped notation "Q4f" => [.int .i64 0, .slice none 0 0, .slice none 0 0, .slice none 0 0, .slice none 0 0]
scoped notation "Q4g" => (qza Q6w Q0x Q0w Q0t Q11 h d tk)
scoped notation "Q4h" => (wdC x y z u W.A.camera s g n r hs cs ds ts W.now)
scoped notation "Q4i" => ((w9.alloc (.cells Q1p 40)).setCells w9.heap.size 0 (vrC VV))
scoped notation "Q4j" => (.slice a1 W.A.guides.length c1)
scoped notation "Q4k" => (.slice a2 W.A.nodes.length c2)
scoped notation "Q4l" => (.slice a0 W.A.slots.length c0)
scoped notation "Q4m" => ((w10.alloc (.cells Q09 30)).setCells w10.heap.size 0 Q1l)
scoped notation "Q4n" => (.slice a3 W.A.vers.length c3)
scoped notation "Q4o" => #[.pointer (some ⟨4, 139, none⟩), .pointer (some a), .int .u64 150]
scoped notation "Q4p" => (qza Q6w Q0e Q07 Q0c Q0h h d tk)
scoped notation "Q4q" => (.slice na2 (Q6q + 1) nc2)
scoped notation "Q4r" => (qz8 intC (List.replicate uN 0))
scoped notation "Q4s" => [.int .i64 En.kind, .int .i64 En.key, .int .i64 En.value, .int .i64 En.stamp, .int .i64 En.clock]
scoped notation "Q4t" => (qza Q6w Q13 Q12 Q2z Q16 (qz9 h 2 A2.nodes[mk].value 0) d tk)
scoped notation "Q4u" => [.int .i64 Q6w, .slice a0 Q74 c0, .slice a1 Q75 c1, .slice (some ⟨bn, on, none⟩) Q6q c2, .slice (some ⟨bb, off, none⟩) Q6r c3]
scoped notation "Q4v" => [.int .i64 c.proc, .int .i64 c.code, .int .i64 c.key, .int .i64 c.value, .int .i64 c.begin, .int .i64 c.end_, .int .i64 c.reply, .int .i64 c.out, .int .i64 c.sum, .int .i64 c.held]
scoped notation "Q4w" => (qza (Q6w + 1) Q0e Q07 Q0c Q0h (qz9 H' 4 h.cam 0) d true)
scoped notation "Q4x" => #[.agg (hdC Rr).toArray, .int .i64 cd]
scoped notation "Q4y" => (qz6b k h Hn (W.now + 1))
scoped notation "Q4z" => #[.agg Q06, .agg Q02, .int .i64 node, .int .i64 v, .int .i64 nx, .bool go, .int .i64 kd]
scoped notation "Q50" => ((w.alloc Q0y).alloc (.cells Q09 30))
scoped notation "Q51" => #[.pointer (some ⟨4, 134, none⟩)]
scoped notation "Q52" => #[.int .i64 Q6w, .slice sa Q74 sc, .slice ga Q75 gc, .slice (some ⟨nb, 0, none⟩) Q6q nc, .slice ra2 (Q6r + 1) rc2]
scoped notation "Q53" => ((((w2.setCell ⟨Q6o + 1, 0, none⟩ (.int .i64 Q6w)).setCell ⟨Q6o + 1, 1, none⟩ Q13).setCell ⟨Q6o + 1, 2, none⟩ Q12).setCell ⟨Q6o + 1, 3, none⟩ Q1d)
scoped notation "Q54" => [.int .i64 Q6w, .slice a0 Q74 c0, .slice a1 Q75 c1, .slice (some ⟨bb, off, none⟩) Q6q c2, .slice a3 Q6r c3]
scoped notation "Q55" => (qza Q6w Q0a Q07 Q0b Q05 (onH As h) (qz4i As h) tk)
scoped notation "Q56" => (qz3c k 0 (Array.replicate ops.size false))
scoped notation "Q57" => ((w1.alloc (.cells Q04 50)).setCells Q6y 0 Q0g)
scoped notation "Q58" => #[.pointer (some ⟨b, 0, none⟩)]
scoped notation "Q59" => #[.int .i64 W.A.camera, s, g, n, r]
scoped notation "Q5a" => (w0.alloc (.cells Q00 56))
scoped notation "Q5b" => (.slice s2 X.nodes.length t2)
scoped notation "Q5c" => (.slice (some ⟨bb, off, none⟩) Q6q c2)
scoped notation "Q5d" => #[.agg Q02, .agg (hdC h).toArray]
scoped notation "Q5e" => #[.int .i64 (aimI h), .bool false, .int .i64 0, .int .i64 (-1), .int .i64 0]
scoped notation "Q5f" => (.slice (some ⟨rb, ro, none⟩) X.vers.length t3)
scoped notation "Q5g" => (.slice (some ⟨hg, 0, none⟩) xN hc)
scoped notation "Q5h" => (qza Q6w Q0e Q07 Q0c Q0h (qz9 H' 4 0 0) d tk)
scoped notation "Q5i" => (qz27 A h tk me = Q6w)
scoped notation "Q5j" => (.cells (madeCells #[.pointer none] l.length) 135)
scoped notation "Q5k" => (.cells (madeCells #[.pointer none] l.length) 132)
scoped notation "Q5l" => #[.int .i64 A9.camera, .slice t0 A9.slots.length k0, .slice t1 A9.guides.length k1, .slice t2 A9.nodes.length k2, .slice t3 A9.vers.length k3]
scoped notation "Q5m" => #[.int .i64 A9.camera, .slice s0 A9.slots.length t0, .slice s1 A9.guides.length t1, .slice s2 A9.nodes.length t2, .slice s3 A9.vers.length t3]
scoped notation "Q5n" => #[.int .i64 A'.camera, .slice a0 A'.slots.length c0, .slice a1 A'.guides.length c1, .slice a2 A'.nodes.length c2, .slice a3 A'.vers.length c3]
scoped notation "Q5o" => (qza Q6w Q0x Q0w Q0t Q1e (qz9 h 7 0 0) d tk)
scoped notation "Q5p" => (qza Q6w Q0e Q07 Q0c Q0h (qz9 h 6 0 0) d tk)
scoped notation "Q5q" => (.cells #[.int .i64 Q6w, s2, g2, n2, r2] 30)
scoped notation "Q5r" => (.cells #[.int .i64 Q6w, s1, g1, n1, r1] 30)
scoped notation "Q5s" => #[.int .i64 Q6w, .slice sa Q74 sc, .slice ga Q75 gc, .slice na Q6q nc, .slice ra Q6r rc]
scoped notation "Q5t" => #[.int .i64 Q6w, .slice d0 Q74 f0, .slice d1 Q75 f1, .slice d2 Q6q f2, .slice d3 Q6r f3]
scoped notation "Q5u" => (qza Q6w Q0a Q07 Q0c Q05 (qz4q As H') d tk)
scoped notation "Q5v" => (.slice ta2 (Q7a + 1) tc2)
scoped notation "Q5w" => (.slice da2 (Q7c + 1) dc2)
scoped notation "Q5x" => #[.pointer (some ⟨b, 0, none⟩), .int .i64 3]
scoped notation "Q5y" => (w4.setCells Q6o 0 vs)
scoped notation "Q5z" => (qza Q6w Q0x Q0w Q0t Q1e (useH A H') d tk)
scoped notation "Q60" => (qz6l wr.heap.size x y z u W a0 a1 a2 a3 a4 a5 a6 a7 c0 c1 c2 c3 c4 c5 c6 c7 k hd wr (Q6v _) V1.small P.is hkl hhd.out hat2)
scoped notation "Q61" => #[.pointer (some ⟨4, 83, none⟩)]
scoped notation "Q62" => (w2.alloc (Obj.cells Q0u 50))
scoped notation "Q63" => (.slice a7 Q7a c7)
scoped notation "Q64" => [.int .i64 A'.camera, .slice a0 A'.slots.length c0, .slice a1 A'.guides.length c1, .slice a2 A'.nodes.length c2, .slice a3 A'.vers.length c3]
scoped notation "Q65" => (.slice a6 Q7c c6)
scoped notation "Q66" => (.slice a5 Q79 c5)
scoped notation "Q67" => (qza cam s g n r h d tk)
scoped notation "Q68" => (qz14 z A h.pred h.predVer (newI h) false 1)
scoped notation "Q69" => ((((w.alloc Q3f).alloc Q14).alloc Q14).alloc (.cells Q3a 134))
scoped notation "Q6a" => (.cells (hdC g).toArray 56)
scoped notation "Q6b" => (qza5 base A h d tk _ _ _ _ _ (Q77 hbase S0.but.size) hA' S0.own x y z u hOk R.p0 R.p1 R.c0 R.c1 R.r0 R.r1)
scoped notation "Q6c" => (qzaz Q6y A h _ _ _ _ _ _ _ _ _ (Q6v _) hA' S1.is x y z u hOk hv0 hv1 hx0 hx1 hcu ho0 ho1 hs0 hs1)
scoped notation "Q6d" => (.cells (madeCells #[Value.int IntKind.i64 0] l.length) 2)
scoped notation "Q6e" => (.cells (Q1x).toArray 60)
scoped notation "Q6f" => (.cells #[.nilIface] 134)
scoped notation "Q6g" => ((w4.alloc (.cells Q09 30)).setCells w4.heap.size 0 Q1c)
scoped notation "Q6h" => (w9.setCell ⟨bh, 5, none⟩ (.int .i64 (W.now + 1)))
scoped notation "Q6i" => (qzt H' 4 h.out h.sum _)
scoped notation "Q6j" => (qza Q6w s g n r h d tk)
scoped notation "Q6k" => (.slice a4 Q76 c4)
scoped notation "Q6l" => (qza W.A.camera s g n r h qz3u false)
scoped notation "Q6m" => (.slice (some ⟨hb, ho, none⟩) Q76 c4)
scoped notation "Q6n" => (.cells #[.int .i64 next, .bool gone, .int .i64 (-1), .int .i64 A.nodes[k].head, .int .i64 kind] 40)
set_option hygiene true
section
theorem own : ownKnob Tryz.prog.godebug = none := by kernel_rfl
theorem qzgs : laidOutB Tryz.prog = true := by kernel_rfl
def inB (n lo hi : Int) : Bool := decide (lo <= n) && decide (n <= hi)
theorem qz13 (n lo hi : Int) : inB n lo hi = true ↔ lo <= n /\ n <= hi := by simp [inB]
theorem qzfb {n lo hi : Int} (h1 : lo <= n) (h2 : n <= hi) : inB n lo hi = true := (qz13 n lo hi).2 ⟨h1, h2⟩
theorem qzex {n lo hi : Int} (h : ¬ (lo <= n /\ n <= hi)) : inB n lo hi = false := by
 cases e : inB n lo hi
 ·rfl
 ·exact absurd ((qz13 n lo hi).1 e) h
theorem qz1b (n lo hi : Int) (w : World) :
  Calls Tryz.prog 71 #[.int .i64 n, .int .i64 lo, .int .i64 hi] w fun e w' => e = .returned (.bool (inB n lo hi)) /\ w' = w := by
 by_cases h1 : lo <= n
 ·by_cases h2 : n <= hi
  ·go_enter Tryz.func71, Tryz.ntmps71
   go_wp2
   go_ret
   exact ⟨by rw [qzfb h1 h2]; rfl, rfl⟩
  ·go_enter Tryz.func71, Tryz.ntmps71
   go_wp2
   go_ret
   exact ⟨by rw [qzex (by omega)]; rfl, rfl⟩
 ·go_enter Tryz.func71, Tryz.ntmps71
  go_wp2
  go_ret
  exact ⟨by rw [qzex (by omega)]; rfl, rfl⟩
theorem qzd (n lo hi : Int) (w : World) :
  Calls Tryz.prog 44 #[.int .i64 n, .int .i64 lo, .int .i64 hi] w fun e w' => e = .returned (.bool (inB n lo hi)) /\ w' = w := by
 by_cases h1 : lo <= n
 ·by_cases h2 : n <= hi
  ·go_enter Tryz.func44, Tryz.ntmps44
   go_wp2
   go_ret
   exact ⟨by rw [qzfb h1 h2]; rfl, rfl⟩
  ·go_enter Tryz.func44, Tryz.ntmps44
   go_wp2
   go_ret
   exact ⟨by rw [qzex (by omega)]; rfl, rfl⟩
 ·go_enter Tryz.func44, Tryz.ntmps44
  go_wp2
  go_ret
  exact ⟨by rw [qzex (by omega)]; rfl, rfl⟩
theorem qz6d (n : Int) (w : World) :
  Calls Tryz.prog 67 #[.int .i64 n] w fun e w' => e = .returned (.bool (inB n 0 63)) /\ w' = w := by
 go_enter Tryz.func67, Tryz.ntmps67
 go_wp2_with (go_at_call 71; refine (qz1b _ _ _ _).mono ?_; rintro e w' ⟨rfl, rfl⟩)
 go_ret
 exact ⟨rfl, rfl⟩
theorem qzr (n : Int) (w : World) :
  Calls Tryz.prog 68 #[.int .i64 n] w fun e w' => e = .returned (.bool (inB n 0 63)) /\ w' = w := by
 go_enter Tryz.func68, Tryz.ntmps68
 go_wp2_with (go_at_call 44; refine (qzd _ _ _ _).mono ?_; rintro e w' ⟨rfl, rfl⟩)
 go_ret
 exact ⟨rfl, rfl⟩
def qz3w (a b c d : Int) : Bool := inB a 1 8 && inB b 1 60 && inB c 1 400 && inB d 1 8
theorem qz2n (a b c d : Int) : qz3w a b c d = true ↔ (1 <= a /\ a <= 8) /\ (1 <= b /\ b <= 60) /\ (1 <= c /\ c <= 400) /\ (1 <= d /\ d <= 8) := by
 unfold qz3w
 simp only [Bool.and_eq_true, qz13]
 constructor
 ·rintro ⟨⟨⟨h1, h2⟩, h3⟩, h4⟩
  exact ⟨h1, h2, h3, h4⟩
 ·rintro ⟨h1, h2, h3, h4⟩
  exact ⟨⟨⟨h1, h2⟩, h3⟩, h4⟩
theorem qz6h (a b c d : Int) (w : World) :
  Calls Tryz.prog 81 #[.agg #[.int .i64 a, .int .i64 b, .int .i64 c, .int .i64 d]] w fun e w' => e = .returned (.bool (qz3w a b c d)) /\ Below Q6o w w' := by
 cases h1 : inB a 1 8
 ·have hp : qz3w a b c d = false := by simp [qz3w, h1]
  go_enter Tryz.func81, Tryz.ntmps81
  go_wp2_with (go_at_call 71; refine (qz1b _ _ _ _).mono ?_; rintro e w' ⟨rfl, rfl⟩)
  go_ret
  exact ⟨by rw [hp]; rfl, (Q6s _ _).alloc (Q6v _) _⟩
 ·cases h2 : inB b 1 60
  ·have hp : qz3w a b c d = false := by simp [qz3w, h1, h2]
   go_enter Tryz.func81, Tryz.ntmps81
   go_wp2_with (go_at_call 71; refine (qz1b _ _ _ _).mono ?_; rintro e w' ⟨rfl, rfl⟩)
   go_ret
   exact ⟨by rw [hp]; rfl, (Q6s _ _).alloc (Q6v _) _⟩
  ·cases h3 : inB c 1 400
   ·have hp : qz3w a b c d = false := by simp [qz3w, h1, h2, h3]
    go_enter Tryz.func81, Tryz.ntmps81
    go_wp2_with (go_at_call 71; refine (qz1b _ _ _ _).mono ?_; rintro e w' ⟨rfl, rfl⟩)
    go_ret
    exact ⟨by rw [hp]; rfl, (Q6s _ _).alloc (Q6v _) _⟩
   ·cases h4 : inB d 1 8
    ·have hp : qz3w a b c d = false := by simp [qz3w, h1, h2, h3, h4]
     go_enter Tryz.func81, Tryz.ntmps81
     go_wp2_with (go_at_call 71; refine (qz1b _ _ _ _).mono ?_; rintro e w' ⟨rfl, rfl⟩)
     go_ret
     exact ⟨by rw [hp]; rfl, (Q6s _ _).alloc (Q6v _) _⟩
    ·have hp : qz3w a b c d = true := by simp [qz3w, h1, h2, h3, h4]
     go_enter Tryz.func81, Tryz.ntmps81
     go_wp2_with (go_at_call 71; refine (qz1b _ _ _ _).mono ?_; rintro e w' ⟨rfl, rfl⟩)
     go_ret
     exact ⟨by rw [hp]; rfl, (Q6s _ _).alloc (Q6v _) _⟩
theorem qz1y (a b c d : Int) (w : World) :
  Calls Tryz.prog 42 #[.agg #[.int .i64 a, .int .i64 b, .int .i64 c, .int .i64 d]] w fun e w' => e = .returned (.bool (qz3w a b c d)) /\ Below Q6o w w' := by
 cases h1 : inB a 1 8
 ·have hp : qz3w a b c d = false := by simp [qz3w, h1]
  go_enter Tryz.func42, Tryz.ntmps42
  go_wp2_with (go_at_call 44; refine (qzd _ _ _ _).mono ?_; rintro e w' ⟨rfl, rfl⟩)
  go_ret
  exact ⟨by rw [hp]; rfl, (Q6s _ _).alloc (Q6v _) _⟩
 ·cases h2 : inB b 1 60
  ·have hp : qz3w a b c d = false := by simp [qz3w, h1, h2]
   go_enter Tryz.func42, Tryz.ntmps42
   go_wp2_with (go_at_call 44; refine (qzd _ _ _ _).mono ?_; rintro e w' ⟨rfl, rfl⟩)
   go_ret
   exact ⟨by rw [hp]; rfl, (Q6s _ _).alloc (Q6v _) _⟩
  ·cases h3 : inB c 1 400
   ·have hp : qz3w a b c d = false := by simp [qz3w, h1, h2, h3]
    go_enter Tryz.func42, Tryz.ntmps42
    go_wp2_with (go_at_call 44; refine (qzd _ _ _ _).mono ?_; rintro e w' ⟨rfl, rfl⟩)
    go_ret
    exact ⟨by rw [hp]; rfl, (Q6s _ _).alloc (Q6v _) _⟩
   ·cases h4 : inB d 1 8
    ·have hp : qz3w a b c d = false := by simp [qz3w, h1, h2, h3, h4]
     go_enter Tryz.func42, Tryz.ntmps42
     go_wp2_with (go_at_call 44; refine (qzd _ _ _ _).mono ?_; rintro e w' ⟨rfl, rfl⟩)
     go_ret
     exact ⟨by rw [hp]; rfl, (Q6s _ _).alloc (Q6v _) _⟩
    ·have hp : qz3w a b c d = true := by simp [qz3w, h1, h2, h3, h4]
     go_enter Tryz.func42, Tryz.ntmps42
     go_wp2_with (go_at_call 44; refine (qzd _ _ _ _).mono ?_; rintro e w' ⟨rfl, rfl⟩)
     go_ret
     exact ⟨by rw [hp]; rfl, (Q6s _ _).alloc (Q6v _) _⟩
theorem qzi0 {W w1 : World} (hb : Below W.heap.size W w1) : (∀ b o, b < W.heap.size -> w1.cell? ⟨b, o, none⟩ = W.cell? ⟨b, o, none⟩) /\ (∀ b o, b < W.heap.size -> w1.frozen? ⟨b, o, none⟩ = W.frozen? ⟨b, o, none⟩) :=
 ⟨fun b o h => hb.cell (p := ⟨b, o, none⟩) h, fun b o h => hb.frozen (p := ⟨b, o, none⟩) h⟩
def qz45 (W : World) (b : Nat) (x y z u : Int) : Prop :=
 W.cell? ⟨b, 0, none⟩ = some (.int .i64 x) /\ W.cell? ⟨b, 1, none⟩ = some (.int .i64 y) /\ W.cell? ⟨b, 2, none⟩ = some (.int .i64 z) /\ W.cell? ⟨b, 3, none⟩ = some (.int .i64 u)
theorem qz1q (w : World) (x y z u : Int) (T : TypeId) : qz45 (w.alloc (.cells Q06 T)) Q6o x y z u := by
 refine ⟨?_, ?_, ?_, ?_⟩ <;> simp
theorem qz45.below {W w1 : World} {b : Nat} {x y z u : Int} (h : qz45 W b x y z u) (hb : Below W.heap.size W w1) (hlt : b < W.heap.size) : qz45 w1 b x y z u := by
 obtain ⟨hc, _⟩ := qzi0 hb
 obtain ⟨h0, h1, h2, h3⟩ := h
 exact ⟨(hc b 0 hlt).trans h0, (hc b 1 hlt).trans h1, (hc b 2 hlt).trans h2, (hc b 3 hlt).trans h3⟩
theorem qzeb {k u : Int} (h0 : 0 <= k) (h1 : k <= 63) (h2 : 1 <= u) (h3 : u <= 8) : 0 <= k * u /\ k * u <= 504 := by
 constructor
 ·exact Int.mul_nonneg h0 (by omega)
 ·have a : k * u <= 63 * u := Int.mul_le_mul_of_nonneg_right h1 (by omega)
  omega
def qz4j (x y z u k : Int) : Int := if qz3w x y z u && inB k 0 63 then k * u / 64 else -1
def qz3y (x y z u k : Int) : Int := if qz3w x y z u && inB k 0 63 then k * u / 64 - 1 else -1
theorem qzbb {x y z u k : Int} (h1 : qz3w x y z u = true) (h2 : inB k 0 63 = true) : qz4j x y z u k = k * u / 64 := by simp [qz4j, h1, h2]
theorem qzbs {x y z u k : Int} (h1 : qz3w x y z u = true) (h2 : inB k 0 63 = true) : qz3y x y z u k = k * u / 64 - 1 := by simp [qz3y, h1, h2]
theorem qzdn {x y z u k : Int} (h : (qz3w x y z u && inB k 0 63) = false) : qz4j x y z u k = -1 := by simp only [qz4j, h]; rfl
theorem qz8w {x y z u k : Int} (h : (qz3w x y z u && inB k 0 63) = false) : qz3y x y z u k = -1 := by simp only [qz3y, h]; rfl
theorem qz89 {x y z u k : Int} (h1 : qz3w x y z u = true) (h2 : inB k 0 63 = true) : 0 <= k /\ k <= 63 /\ 1 <= u /\ u <= 8 := by
 have a := (qz2n x y z u).1 h1
 have b := (qz13 k 0 63).1 h2
 exact ⟨b.1, b.2, a.2.2.2.1, a.2.2.2.2⟩
theorem qzb2 (x y z u k : Int) (w : World) (h0 : 0 <= k) (h1 : k <= 63) (h2 : 1 <= u) (h3 : u <= 8) :
  Calls Tryz.prog 146 #[.agg Q06, .int .i64 k] w fun e w' => e = .returned (.int .i64 (k * u / 64)) /\ Below Q6o w w' := by
 obtain ⟨m0, m1⟩ := qzeb h0 h1 h2 h3
 go_enter Tryz.func146, Tryz.ntmps146
 go_wp2
 go_ret
 exact ⟨rfl, (Q6s _ _).alloc (Q6v _) _⟩
theorem qzep (x y z u k : Int) (w : World) (h0 : 0 <= k) (h1 : k <= 63) (h2 : 1 <= u) (h3 : u <= 8) :
  Calls Tryz.prog 132 #[.agg Q06, .int .i64 k] w fun e w' => e = .returned (.int .i64 (k * u / 64 - 1)) /\ Below Q6o w w' := by
 obtain ⟨m0, m1⟩ := qzeb h0 h1 h2 h3
 go_enter Tryz.func132, Tryz.ntmps132
 go_wp2_with fail
 refine (qzb2 _ _ _ _ _ _ (by omega) (by omega) (by omega) (by omega)).mono ?_
 rintro e w1 ⟨rfl, hb1⟩
 go_wp2
 go_ret
 exact ⟨rfl, ((Q6s _ _).alloc (Q6v _) _).trans (hb1.mono (by simp))⟩
theorem qzfd (x y z u k : Int) (w : World) :
  Calls Tryz.prog 131 #[.agg Q06, .int .i64 k, .func (Fn.func 132) #[.agg Q06] #[]] w fun e w' => e = .returned (.int .i64 (qz3y x y z u k)) /\ Below Q6o w w' := by
 cases h1 : qz3w x y z u
 ·have hv : qz3y x y z u k = -1 := qz8w (by simp [h1])
  go_enter Tryz.func131, Tryz.ntmps131
  go_wp2_with fail
  refine (qz6h _ _ _ _ _).mono ?_
  rintro e w1 ⟨rfl, hb1⟩
  go_wp2
  go_ret
  exact ⟨by rw [hv]; rfl, ((Q6s _ _).alloc (Q6v _) _).trans (hb1.mono (by simp))⟩
 ·cases h2 : inB k 0 63
  ·have hv : qz3y x y z u k = -1 := qz8w (by simp [h2])
   go_enter Tryz.func131, Tryz.ntmps131
   go_wp2_with fail
   refine (qz6h _ _ _ _ _).mono ?_
   rintro e w1 ⟨rfl, hb1⟩
   go_wp2_with (go_at_call 67; refine (qz6d _ _).mono ?_; rintro e w' ⟨rfl, rfl⟩)
   go_ret
   exact ⟨by rw [hv]; rfl, ((Q6s _ _).alloc (Q6v _) _).trans (hb1.mono (by simp))⟩
  ·obtain ⟨b0, b1, b2, b3⟩ := qz89 h1 h2
   have Hv : Hid (qz3y x y z u k = k * u / 64 - 1) := qzbs h1 h2
   go_enter Tryz.func131, Tryz.ntmps131
   go_wp2_with fail
   refine (qz6h _ _ _ _ _).mono ?_
   rintro e w1 ⟨rfl, hb1⟩
   have hz1 := hb1.size
   simp at hz1
   go_wp2_with (go_at_call 67; refine (qz6d _ _).mono ?_; rintro e w' ⟨rfl, rfl⟩)
   refine (qzep _ _ _ _ _ _ (by omega) (by omega) (by omega) (by omega)).mono ?_
   rintro e w2 ⟨rfl, hb2⟩
   go_wp2
   go_ret
   exact ⟨by rw [Hv.out]; rfl, (((Q6s _ _).alloc (Q6v _) _).trans (hb1.mono (by simp))).trans (hb2.mono (by omega))⟩
theorem qz55 (x y z u k : Int) (w : World) :
  Calls Tryz.prog 141 #[.agg Q06, .int .i64 k] w fun e w' => e = .returned (.int .i64 (qz4j x y z u k)) /\ Below Q6o w w' := by
 have P0 := qz1q w x y z u 25
 cases h1 : qz3w x y z u
 ·have hv : qz4j x y z u k = -1 := qzdn (by simp [h1])
  go_enter Tryz.func141, Tryz.ntmps141
  go_wp2_with fail
  refine (qz1y _ _ _ _ _).mono ?_
  rintro e w1 ⟨rfl, hb1⟩
  go_wp2
  go_ret
  exact ⟨by rw [hv]; rfl, ((Q6s _ _).alloc (Q6v _) _).trans (hb1.mono (by simp))⟩
 ·cases h2 : inB k 0 63
  ·have hv : qz4j x y z u k = -1 := qzdn (by simp [h2])
   go_enter Tryz.func141, Tryz.ntmps141
   go_wp2_with fail
   refine (qz1y _ _ _ _ _).mono ?_
   rintro e w1 ⟨rfl, hb1⟩
   go_wp2_with (go_at_call 68; refine (qzr _ _).mono ?_; rintro e w' ⟨rfl, rfl⟩)
   go_ret
   exact ⟨by rw [hv]; rfl, ((Q6s _ _).alloc (Q6v _) _).trans (hb1.mono (by simp))⟩
  ·obtain ⟨b0, b1, b2, b3⟩ := qz89 h1 h2
   obtain ⟨m0, m1⟩ := qzeb b0 b1 b2 b3
   have Hv : Hid (qz4j x y z u k = k * u / 64) := qzbb h1 h2
   go_enter Tryz.func141, Tryz.ntmps141
   go_wp2_with fail
   refine (qz1y _ _ _ _ _).mono ?_
   rintro e w1 ⟨rfl, hb1⟩
   have hz1 := hb1.size
   simp at hz1
   obtain ⟨c0, c1, c2, c3⟩ := P0.below hb1 (by simp)
   go_wp2_with (go_at_call 68; refine (qzr _ _).mono ?_; rintro e w' ⟨rfl, rfl⟩)
   go_ret
   exact ⟨by rw [Hv.out]; rfl, ((Q6s _ _).alloc (Q6v _) _).trans (hb1.mono (by simp))⟩
theorem qz7c (x y z u k : Int) (w : World) :
  Calls Tryz.prog 114 #[.agg Q06, .int .i64 k] w fun e w' => e = .returned (.int .i64 (qz3y x y z u k)) /\ Below Q6o w w' := by
 have P0 := qz1q w x y z u 25
 cases h1 : qz3w x y z u
 ·have hv : qz3y x y z u k = -1 := qz8w (by simp [h1])
  go_enter Tryz.func114, Tryz.ntmps114
  go_wp2_with fail
  refine (qz1y _ _ _ _ _).mono ?_
  rintro e w1 ⟨rfl, hb1⟩
  go_wp2
  go_ret
  exact ⟨by rw [hv]; rfl, ((Q6s _ _).alloc (Q6v _) _).trans (hb1.mono (by simp))⟩
 ·cases h2 : inB k 0 63
  ·have hv : qz3y x y z u k = -1 := qz8w (by simp [h2])
   go_enter Tryz.func114, Tryz.ntmps114
   go_wp2_with fail
   refine (qz1y _ _ _ _ _).mono ?_
   rintro e w1 ⟨rfl, hb1⟩
   go_wp2_with (go_at_call 68; refine (qzr _ _).mono ?_; rintro e w' ⟨rfl, rfl⟩)
   go_ret
   exact ⟨by rw [hv]; rfl, ((Q6s _ _).alloc (Q6v _) _).trans (hb1.mono (by simp))⟩
  ·obtain ⟨b0, b1, b2, b3⟩ := qz89 h1 h2
   obtain ⟨m0, m1⟩ := qzeb b0 b1 b2 b3
   have Hv : Hid (qz3y x y z u k = k * u / 64 - 1) := qzbs h1 h2
   go_enter Tryz.func114, Tryz.ntmps114
   go_wp2_with fail
   refine (qz1y _ _ _ _ _).mono ?_
   rintro e w1 ⟨rfl, hb1⟩
   have hz1 := hb1.size
   simp at hz1
   obtain ⟨c0, c1, c2, c3⟩ := P0.below hb1 (by simp)
   go_wp2_with (go_at_call 68; refine (qzr _ _).mono ?_; rintro e w' ⟨rfl, rfl⟩)
   refine (qz55 _ _ _ _ _ _).mono ?_
   rintro e w2 ⟨rfl, hb2⟩
   rw [qzbb h1 h2]
   go_wp2
   go_ret
   exact ⟨by rw [Hv.out]; rfl, (((Q6s _ _).alloc (Q6v _) _).trans (hb1.mono (by simp))).trans (hb2.mono (by omega))⟩
end
section
theorem qz9e (n : Int) : 0 <= bits .and .u64 n 16777215 /\ bits .and .u64 n 16777215 <= 16777215 := by
 have h127 : (BitVec.ofInt 64 16777215).toNat = 2 ^ 24 - 1 := by decide
 have key : (BitVec.ofInt 64 n &&& BitVec.ofInt 64 16777215).toNat = (n % ((2 ^ 64 : Nat) : Int)).toNat % 2 ^ 24 := by
  rw [BitVec.toNat_and, BitVec.toNat_ofInt, h127, Nat.and_two_pow_sub_one_eq_mod]
 have e : bits .and .u64 n 16777215 = IntKind.u64.wrap ((BitVec.ofInt 64 n &&& BitVec.ofInt 64 16777215).toNat : Nat) := rfl
 rw [e, key]
 have w : ∀ m : Int, IntKind.u64.wrap m = m % 18446744073709551616 := fun m => by simp [IntKind.wrap, IntKind.bits, IntKind.signed]
 rw [w]
 omega
theorem qz8k (n : Int) : 0 <= bits .and .i64 n 255 /\ bits .and .i64 n 255 <= 255 := by
 have h127 : (BitVec.ofInt 64 255).toNat = 2 ^ 8 - 1 := by decide
 have key : (BitVec.ofInt 64 n &&& BitVec.ofInt 64 255).toNat = (n % ((2 ^ 64 : Nat) : Int)).toNat % 2 ^ 8 := by
  rw [BitVec.toNat_and, BitVec.toNat_ofInt, h127, Nat.and_two_pow_sub_one_eq_mod]
 have e : bits .and .i64 n 255 = IntKind.i64.wrap ((BitVec.ofInt 64 n &&& BitVec.ofInt 64 255).toNat : Nat) := rfl
 rw [e, key, IntKind.wrap_i64]
 omega
theorem qzdf (n : Int) : 0 <= bits .and .i64 n 1073741823 /\ bits .and .i64 n 1073741823 <= 1073741823 := by
 have h127 : (BitVec.ofInt 64 1073741823).toNat = 2 ^ 30 - 1 := by decide
 have key : (BitVec.ofInt 64 n &&& BitVec.ofInt 64 1073741823).toNat = (n % ((2 ^ 64 : Nat) : Int)).toNat % 2 ^ 30 := by
  rw [BitVec.toNat_and, BitVec.toNat_ofInt, h127, Nat.and_two_pow_sub_one_eq_mod]
 have e : bits .and .i64 n 1073741823 = IntKind.i64.wrap ((BitVec.ofInt 64 n &&& BitVec.ofInt 64 1073741823).toNat : Nat) := rfl
 rw [e, key, IntKind.wrap_i64]
 omega
end
section
open Go.RowKit
structure Only (b : Nat) (w w' : World) : Prop where
 os : w'.os = w.os
 tape : w'.tape = w.tape
 output : w'.output = w.output
 size : Q6o <= w'.heap.size
 block : ∀ k, k < Q6o -> k ≠ b -> w'.heap[k]? = w.heap[k]?
theorem Only.refl (b : Nat) (w : World) : Only b w w := ⟨rfl, rfl, rfl, Q6v _, fun _ _ _ => rfl⟩
theorem Only.trans {b : Nat} {x y z : World} (h : Only b x y) (k : Only b y z) : Only b x z :=
 ⟨k.os.trans h.os, k.tape.trans h.tape, k.output.trans h.output, Q77 h.size k.size, fun i hi hb => (k.block i (Q72 hi h.size) hb).trans (h.block i hi hb)⟩
theorem Only.alloc {b : Nat} {x w : World} (h : Only b x w) (o : Obj) : Only b x (w.alloc o) :=
 h.trans ⟨rfl, rfl, rfl, by simp, fun k hk _ => Below.heap_alloc _ _ _ hk⟩
theorem Only.setCell {b : Nat} {x w : World} (h : Only b x w) {p : Addr} (hp : p.block = b ∨ x.heap.size <= p.block) (u : Value) : Only b x (w.setCell p u) :=
 ⟨h.os, h.tape, h.output, by simpa [World.setCell] using h.size, fun k hk hb => (Below.heap_setCell _ _ _ _ (by omega)).trans (h.block k hk hb)⟩
theorem Only.of_below {b : Nat} {w w' : World} (h : Below Q6o w w') : Only b w w' := ⟨h.os, h.tape, h.output, h.size, fun k hk _ => h.block k hk⟩
theorem Only.below {b B : Nat} {w w' : World} (h : Only b w w') (hb : B <= b) (hB : B <= Q6o) : Below B w w' := ⟨h.os, h.tape, h.output, h.size, fun k hk => h.block k (by omega) (by omega)⟩
theorem Only.cell {b : Nat} {w w' : World} (h : Only b w w') {p : Addr} (h1 : p.block < Q6o) (h2 : p.block ≠ b) : w'.cell? p = w.cell? p := World.cell?_of_block (w := w) (h.block p.block h1 h2)
theorem Only.frozen {b : Nat} {w w' : World} (h : Only b w w') {p : Addr} (h1 : p.block < Q6o) (h2 : p.block ≠ b) : w'.frozen? p = w.frozen? p := World.frozen?_of_block (w := w) (h.block p.block h1 h2)
theorem qze (b : Nat) : ∀ (vs : List Value) (o : Nat) (w : World), Only b w (w.setCells b o vs)
 | [], _, w => Only.refl b w
 | v :: vs, o, w => ((Only.refl b w).setCell (p := ⟨b, o, none⟩) (Or.inl rfl) v).trans (qze b vs (o + 1) (w.setCell ⟨b, o, none⟩ v))
structure But (S : Nat -> Prop) (w w' : World) : Prop where
 os : w'.os = w.os
 tape : w'.tape = w.tape
 output : w'.output = w.output
 size : Q6o <= w'.heap.size
 block : ∀ k, k < Q6o -> ¬ S k -> w'.heap[k]? = w.heap[k]?
theorem But.trans {S : Nat -> Prop} {x y z : World} (h : But S x y) (k : But S y z) : But S x z :=
 ⟨k.os.trans h.os, k.tape.trans h.tape, k.output.trans h.output, Q77 h.size k.size, fun i hi hb => (k.block i (Q72 hi h.size) hb).trans (h.block i hi hb)⟩
theorem But.of_only {S : Nat -> Prop} {b : Nat} {w w' : World} (h : Only b w w') (hb : S b) : But S w w' := ⟨h.os, h.tape, h.output, h.size, fun k hk hn => h.block k hk (fun e => hn (e ▸ hb))⟩
theorem But.of_below {S : Nat -> Prop} {w w' : World} (h : Below Q6o w w') : But S w w' := ⟨h.os, h.tape, h.output, h.size, fun k hk _ => h.block k hk⟩
theorem But.mono {S S' : Nat -> Prop} {w w' : World} (h : But S w w') (hS : ∀ k, S k -> S' k) : But S' w w' := ⟨h.os, h.tape, h.output, h.size, fun k hk hn => h.block k hk (fun e => hn (hS k e))⟩
theorem But.below {S : Nat -> Prop} {B : Nat} {w w' : World} (h : But S w w') (hB : B <= Q6o) (hS : ∀ k, S k -> B <= k) : Below B w w' := ⟨h.os, h.tape, h.output, h.size, fun k hk => h.block k (by omega) (fun e => by have := hS k e; omega)⟩
theorem But.cell {S : Nat -> Prop} {w w' : World} (h : But S w w') {p : Addr} (h1 : p.block < Q6o) (h2 : ¬ S p.block) : w'.cell? p = w.cell? p := World.cell?_of_block (w := w) (h.block p.block h1 h2)
theorem But.frozen {S : Nat -> Prop} {w w' : World} (h : But S w w') {p : Addr} (h1 : p.block < Q6o) (h2 : ¬ S p.block) : w'.frozen? p = w.frozen? p := World.frozen?_of_block (w := w) (h.block p.block h1 h2)
theorem But.range {S : Nat -> Prop} {w w' : World} (h : But S w w') {b o : Nat} {cs : List Value} (R : w.rangeAt b o cs) (h1 : b < Q6o) (h2 : ¬ S b) : w'.rangeAt b o cs := fun j v hv => (h.cell (p := ⟨b, o + j, none⟩) h1 h2).trans (R j v hv)
theorem But.there {S : Nat -> Prop} {w w' : World} (h : But S w w') {b o n : Nat} (T : w.there b o n) (h1 : b < Q6o) (h2 : ¬ S b) : w'.there b o n := fun j hj => by rw [h.cell (p := ⟨b, o + j, none⟩) h1 h2, h.frozen (p := ⟨b, o + j, none⟩) h1 h2]; exact T j hj
end
section
def qz17 (B : Nat) (w : World) (a : Option Addr) (len : Nat) : Prop :=
 ∀ j, j < len -> ∃ bb off v, a = some ⟨bb, off, none⟩ /\ bb < B /\ w.cell? ⟨bb, off + j, none⟩ = some (.int .u8 v) /\ 0 <= v /\ v <= 255
theorem qz17.below {B : Nat} {w w' : World} {a : Option Addr} {len : Nat} (h : qz17 B w a len) (hb : Below B w w') : qz17 B w' a len := by
 intro j hj
 obtain ⟨bb, off, v, h1, h2, h3, h4⟩ := h j hj
 exact ⟨bb, off, v, h1, h2, (hb.cell (p := ⟨bb, off + j, none⟩) h2).trans h3, h4⟩
structure qz1f (k : IntKind) (w : World) (b : Nat) (a : Option Addr) (len cap : Nat) (i h : Int) : Prop where
 c0 : w.cell? ⟨b, 0, none⟩ = some (.slice a len cap)
 c1 : w.cell? ⟨b, 1, none⟩ = some (.int .i64 i)
 c2 : w.cell? ⟨b, 2, none⟩ = some (.int k h)
 f1 : w.frozen? ⟨b, 1, none⟩ = false
 f2 : w.frozen? ⟨b, 2, none⟩ = false
 lo : 0 <= i
 hi : i <= len
 blk : b < Q6o
theorem qz1f.set2 {k : IntKind} {w : World} {b : Nat} {a : Option Addr} {len cap : Nat} {i h : Int} (D : qz1f k w b a len cap i h) (h' : Int) : qz1f k (w.setCell ⟨b, 2, none⟩ (.int k h')) b a len cap i h' := by
 obtain ⟨c0, c1, c2, f1, f2, lo, hi, blk⟩ := D
 exact ⟨(World.cell?_setCell_other _ _ _ _ (by simp)).trans c0, (World.cell?_setCell_other _ _ _ _ (by simp)).trans c1, World.cell?_setCell_same _ _ _ c2, (World.frozen?_setCell _ _ _ _).trans f1, (World.frozen?_setCell _ _ _ _).trans f2, lo, hi, by rw [World.size_setCell]; exact blk⟩
theorem qz1f.set1 {k : IntKind} {w : World} {b : Nat} {a : Option Addr} {len cap : Nat} {i h : Int} (D : qz1f k w b a len cap i h) (hi' : i + 1 <= len) : qz1f k (w.setCell ⟨b, 1, none⟩ (.int .i64 (i + 1))) b a len cap (i + 1) h := by
 obtain ⟨c0, c1, c2, f1, f2, lo, hi, blk⟩ := D
 exact ⟨(World.cell?_setCell_other _ _ _ _ (by simp)).trans c0, World.cell?_setCell_same _ _ _ c1, (World.cell?_setCell_other _ _ _ _ (by simp)).trans c2, (World.frozen?_setCell _ _ _ _).trans f1, (World.frozen?_setCell _ _ _ _).trans f2, by omega, hi', by rw [World.size_setCell]; exact blk⟩
theorem qz1f.drewN {k : IntKind} {w : World} {b : Nat} {a : Option Addr} {len cap : Nat} {i h : Int} (D : qz1f k w b a len cap i h) (m : Nat) : qz1f k (w.drewN m) b a len cap i h := by
 obtain ⟨c0, c1, c2, f1, f2, lo, hi, blk⟩ := D
 exact ⟨c0, c1, c2, f1, f2, lo, hi, blk⟩
theorem qz1f.only {k : IntKind} {w w' : World} {b c : Nat} {a : Option Addr} {len cap : Nat} {i h : Int} (D : qz1f k w b a len cap i h) (hO : Only c w w') (hne : b ≠ c) : qz1f k w' b a len cap i h := by
 obtain ⟨c0, c1, c2, f1, f2, lo, hi, blk⟩ := D
 exact ⟨(hO.cell (p := ⟨b, 0, none⟩) blk hne).trans c0, (hO.cell (p := ⟨b, 1, none⟩) blk hne).trans c1, (hO.cell (p := ⟨b, 2, none⟩) blk hne).trans c2, (hO.frozen (p := ⟨b, 1, none⟩) blk hne).trans f1, (hO.frozen (p := ⟨b, 2, none⟩) blk hne).trans f2, lo, hi, Q72 blk hO.size⟩
theorem qz1f.below {k : IntKind} {w w' : World} {b : Nat} {a : Option Addr} {len cap : Nat} {i h : Int} (D : qz1f k w b a len cap i h) (hb : Below Q6o w w') : qz1f k w' b a len cap i h := by
 obtain ⟨c0, c1, c2, f1, f2, lo, hi, blk⟩ := D
 exact ⟨(hb.cell (p := ⟨b, 0, none⟩) blk).trans c0, (hb.cell (p := ⟨b, 1, none⟩) blk).trans c1, (hb.cell (p := ⟨b, 2, none⟩) blk).trans c2, (hb.frozen (p := ⟨b, 1, none⟩) blk).trans f1, (hb.frozen (p := ⟨b, 2, none⟩) blk).trans f2, lo, hi, Q72 blk hb.size⟩
theorem Only.drewN {b : Nat} {x w : World} (h : Only b x w) (m : Nat) : Only b x (w.drewN m) := ⟨h.os, h.tape, h.output, h.size, h.block⟩
theorem qz48 {n : Int} (x : Int) (hn : 1 <= n) : 0 <= x % n /\ x % n < n :=
 ⟨Int.emod_nonneg x (by omega), Int.emod_lt_of_pos x (by omega)⟩
theorem qzh2 (B b : Nat) (a : Option Addr) (len cap : Nat) (i h n : Int) (w : World) (hB : B <= b) (hlen : len <= 4096) (D : qz1f .u64 w b a len cap i h) (C : qz17 B w a len) (hn1 : 1 <= n) (hn2 : n <= 1000) :
  Calls Tryz.prog 15 #[.pointer (some ⟨b, 0, none⟩), .int .i64 n] w fun e w' => ∃ r i' h', e = .returned (.int .i64 r) /\ 0 <= r /\ r < n /\ qz1f .u64 w' b a len cap i' h' /\ Only b w w' := by
 have D0 := (show Hid _ from D)
 obtain ⟨c0, c1, c2, f1, f2, lo, hi, blk⟩ := D
 by_cases hlt : i < len
 ·obtain ⟨bb, off, v, rfl, hbb, hcv, v0, v1⟩ := C i.toNat (by omega)
  obtain ⟨iN, rfl⟩ := Int.eq_ofNat_of_zero_le lo
  simp only [Int.toNat_natCast] at hcv
  have hcv2 : ∀ h1 : Int, (w.setCell ⟨b, 2, none⟩ (.int .u64 h1)).cell? ⟨bb, off + iN, none⟩ = some (.int .u8 v) := fun h1 => (World.cell?_setCell_other _ _ _ _ (by intro e; have := congrArg Addr.block e; simp at this; omega)).trans hcv
  clear C
  go_enter Tryz.func15, Tryz.ntmps15
  go_wp2
  generalize IntKind.u64.wrap (IntKind.u64.wrap (h * 6364136223846793005) + 1442695040888963407) = h1
  have hm := qz9e (h1 / 8589934592)
  generalize bits BinOp.and IntKind.u64 (h1 / 8589934592) 16777215 = x1 at *
  obtain ⟨hm1, hm2⟩ := hm
  have hx : wrap64 x1 = x1 := by unfold wrap64; omega
  rw [hx]
  clear hx
  go_quiet (fail)
  go_wp2
  go_quiet (fail)
  go_wp2
  go_ret
  exact ⟨_, iN + 1, h1, rfl, (qz48 _ hn1).1, (qz48 _ hn1).2, (((D0.out.set2 h1).drewN _).set1 (by omega)), (((Only.refl b w).setCell (Or.inl rfl) _).drewN _).setCell (Or.inl rfl) _⟩
 ·clear C
  go_enter Tryz.func15, Tryz.ntmps15
  go_wp2
  generalize IntKind.u64.wrap (IntKind.u64.wrap (h * 6364136223846793005) + 1442695040888963407) = h1
  have hm := qz9e (h1 / 8589934592)
  generalize bits BinOp.and IntKind.u64 (h1 / 8589934592) 16777215 = x1 at *
  obtain ⟨hm1, hm2⟩ := hm
  have hx : wrap64 x1 = x1 := by unfold wrap64; omega
  rw [hx]
  clear hx
  go_quiet (fail)
  go_wp2
  go_ret
  exact ⟨_, i, h1, rfl, (qz48 _ hn1).1, (qz48 _ hn1).2, (D0.out.set2 h1).drewN nq, ((Only.refl b w).setCell (Or.inl rfl) _).drewN nq⟩
theorem qz1f.alloc_new (k : IntKind) (w : World) (a : Option Addr) (len cap : Nat) (h : Int) (T : TypeId) : qz1f k (w.alloc (.cells #[.slice a len cap, .int .i64 0, .int k h] T)) Q6o a len cap 0 h := by
 refine ⟨?_, ?_, ?_, ?_, ?_, by omega, by omega, by simp⟩ <;> simp
theorem qzfi (a : Option Addr) (len cap : Nat) (w : World) : Calls Tryz.prog 5 #[.slice a len cap] w fun e w' => e = .returned (.bool (decide (4096 < (len : Int)))) /\ w' = w := by
 go_enter Tryz.func5, Tryz.ntmps5
 go_wp2
 go_ret
 exact ⟨rfl, rfl⟩
theorem qzea (a : Option Addr) (len cap : Nat) (w : World) (hlen : len <= 4096) (C : qz17 Q6o w a len) :
  Calls Tryz.prog 26 #[.slice a len cap] w fun e w' => e = .returned (.pointer (some ⟨Q6o, 0, none⟩)) /\ (∃ h, qz1f .i64 w' Q6o a len cap 0 h) /\ Below Q6o w w' := by
 go_enter Tryz.func26, Tryz.ntmps26
 go_wp2
 go_loop [3, 4] (fun hh i => ∃ (k : Nat) (x : Int), k <= len /\ i = .int .i64 k /\ hh = .int .i64 x /\ 0 <= x /\ x <= 1073741823) (fun _ i => len - (intOf i).toNat)
 case atStart => exact ⟨0, _, Nat.zero_le _, rfl, rfl, by omega, by omega⟩
 case round =>
  obtain ⟨k, x, hk, rfl, rfl, hx0, hx1⟩ := hrel
  by_cases hlt : k < len
  ·obtain ⟨bb, off, v, rfl, hbb, hcv, v0, v1⟩ := C k hlt
   clear C
   go_wp2
   have hm := qzdf (x * 193 + v + 11)
   go_round
   case rel => exact ⟨k + 1, _, by omega, by go_num, rfl, hm.1, hm.2⟩
   case measure => simp [intOf]; omega
  ·go_wp2
   go_ret
   exact ⟨rfl, ⟨x, qz1f.alloc_new _ _ _ _ _ _ _⟩, (Q6s _ _).alloc (Q6v _) _⟩
theorem qz4v (B b : Nat) (a : Option Addr) (len cap : Nat) (i h : Int) (w : World) (hB : B <= b) (hlen : len <= 4096) (D : qz1f .i64 w b a len cap i h) (C : qz17 B w a len) :
  Calls Tryz.prog 70 Q58 w fun e w' => ∃ r i' h', e = .returned (.int .i64 r) /\ 0 <= r /\ r <= 255 /\ qz1f .i64 w' b a len cap i' h' /\ Only b w w' := by
 have D0 := (show Hid _ from D)
 obtain ⟨c0, c1, c2, f1, f2, lo, hi, blk⟩ := D
 by_cases hlt : i < len
 ·obtain ⟨bb, off, v, rfl, hbb, hcv, v0, v1⟩ := C i.toNat (by omega)
  obtain ⟨iN, rfl⟩ := Int.eq_ofNat_of_zero_le lo
  simp only [Int.toNat_natCast] at hcv
  have hcv2 : ∀ h1 : Int, (w.setCell ⟨b, 2, none⟩ (.int .i64 h1)).cell? ⟨bb, off + iN, none⟩ = some (.int .u8 v) := fun h1 => (World.cell?_setCell_other _ _ _ _ (by intro e; have := congrArg Addr.block e; simp at this; omega)).trans hcv
  clear C
  go_enter Tryz.func70, Tryz.ntmps70
  go_wp2
  generalize wrap64 (wrap64 (h * 6364136223846793005) + 1442695040888963407) = h1
  go_quiet (fail)
  go_wp2
  have hm := qz8k (bits BinOp.xor IntKind.i64 (h1 / 8589934592) (h1 / 35184372088832))
  generalize bits BinOp.and IntKind.i64 (bits BinOp.xor IntKind.i64 (h1 / 8589934592) (h1 / 35184372088832)) 255 = x1 at *
  obtain ⟨hm1, hm2⟩ := hm
  go_quiet (fail)
  go_wp2
  go_quiet (fail)
  go_wp2
  have hm := qz8k (x1 + v)
  go_ret
  exact ⟨_, iN + 1, h1, rfl, hm.1, hm.2, (((D0.out.set2 h1).drewN _).set1 (by omega)), (((Only.refl b w).setCell (Or.inl rfl) _).drewN _).setCell (Or.inl rfl) _⟩
 ·clear C
  go_enter Tryz.func70, Tryz.ntmps70
  go_wp2
  generalize wrap64 (wrap64 (h * 6364136223846793005) + 1442695040888963407) = h1
  go_quiet (fail)
  go_wp2
  have hm := qz8k (bits BinOp.xor IntKind.i64 (h1 / 8589934592) (h1 / 35184372088832))
  generalize bits BinOp.and IntKind.i64 (bits BinOp.xor IntKind.i64 (h1 / 8589934592) (h1 / 35184372088832)) 255 = x1 at *
  obtain ⟨hm1, hm2⟩ := hm
  go_quiet (fail)
  go_wp2
  go_ret
  exact ⟨_, i, h1, rfl, hm1, hm2, ((D0.out.set2 h1).drewN _).drewN _, (((Only.refl b w).setCell (Or.inl rfl) _).drewN _).drewN _⟩
theorem qzx (B b : Nat) (a : Option Addr) (len cap : Nat) (i h n : Int) (w : World) (hB : B <= b) (hlen : len <= 4096) (D : qz1f .i64 w b a len cap i h) (C : qz17 B w a len) (hn1 : 1 <= n) (hn2 : n <= 4000000) :
  Calls Tryz.prog 31 #[.pointer (some ⟨b, 0, none⟩), .int .i64 n] w fun e w' => ∃ r i' h', e = .returned (.int .i64 r) /\ 0 <= r /\ r < n /\ qz1f .i64 w' b a len cap i' h' /\ qz17 B w' a len /\ Only b w w' := by
 have blk := D.blk
 by_cases hs : n <= 256
 ·go_enter Tryz.func31, Tryz.ntmps31
  go_wp2_with fail
  refine (qz4v B b a len cap i h w hB hlen D C).mono ?_
  rintro e w1 ⟨r, i1, h1, rfl, r0, r1, D1, O1⟩
  go_wp2
  go_ret
  exact ⟨_, i1, h1, rfl, (qz48 _ hn1).1, (qz48 _ hn1).2, D1, C.below (O1.below hB (by omega)), O1⟩
 ·go_enter Tryz.func31, Tryz.ntmps31
  go_wp2_with fail
  refine (qz4v B b a len cap i h w hB hlen D C).mono ?_
  rintro e w1 ⟨r1, i1, h1, rfl, r10, r11, D1, O1⟩
  have C1 := C.below (O1.below hB (by omega))
  go_wp2_with fail
  refine (qz4v B b a len cap i1 h1 w1 hB hlen D1 C1).mono ?_
  rintro e w2 ⟨r2, i2, h2, rfl, r20, r21, D2, O2⟩
  have C2 := C1.below (O2.below hB (by have := D1.blk; omega))
  go_wp2_with fail
  refine (qz4v B b a len cap i2 h2 w2 hB hlen D2 C2).mono ?_
  rintro e w3 ⟨r3, i3, h3, rfl, r30, r31, D3, O3⟩
  have C3 := C2.below (O3.below hB (by have := D2.blk; omega))
  go_wp2_with fail
  refine (qz4v B b a len cap i3 h3 w3 hB hlen D3 C3).mono ?_
  rintro e w4 ⟨r4, i4, h4, rfl, r40, r41, D4, O4⟩
  have C4 := C3.below (O4.below hB (by have := D3.blk; omega))
  go_wp2
  go_ret
  exact ⟨_, i4, h4, rfl, (qz48 _ hn1).1, (qz48 _ hn1).2, D4, C4, ((O1.trans O2).trans O3).trans O4⟩
theorem qz2g (B b : Nat) (a : Option Addr) (len cap : Nat) (i h n : Int) (w : World) (hB : B <= b) (hlen : len <= 4096) (D : qz1f .i64 w b a len cap i h) (C : qz17 B w a len) (hn1 : 1 <= n) (hn2 : n <= 4000000) :
  Calls Tryz.prog 29 #[.pointer (some ⟨b, 0, none⟩), .int .i64 n] w fun e w' => ∃ (r : Bool) (i' h' : Int), e = .returned (.bool r) /\ qz1f .i64 w' b a len cap i' h' /\ qz17 B w' a len /\ Only b w w' := by
 go_enter Tryz.func29, Tryz.ntmps29
 go_wp2_with fail
 refine (qzx B b a len cap i h n w hB hlen D C hn1 hn2).mono ?_
 rintro e w1 ⟨r, i1, h1, rfl, r0, r1, D1, C1, O1⟩
 go_wp2
 go_ret
 exact ⟨_, i1, h1, rfl, D1, C1, O1⟩
theorem qzbl (x y : Int) (w : World) : Calls Tryz.prog 101 #[.int .i64 x, .int .i64 y] w fun e w' => e = .returned (.int .i64 (min x y)) /\ w' = w := by
 by_cases h : x < y
 ·go_enter Tryz.func101, Tryz.ntmps101
  go_wp2
  go_ret
  exact ⟨by rw [show min x y = x by omega]; rfl, rfl⟩
 ·go_enter Tryz.func101, Tryz.ntmps101
  go_wp2
  go_ret
  exact ⟨by rw [show min x y = y by omega]; rfl, rfl⟩
end
end Go.Proofs.YthjkdnlmopafkaaGreatDoor
