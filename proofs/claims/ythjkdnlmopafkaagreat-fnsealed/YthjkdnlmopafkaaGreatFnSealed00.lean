/-
  What the law's proof goes by, part 1.
-/
import Derived.Test.YthjkdnlmopafkaaGreatRows
import Derived.WalkKit
import Derived.ProofKit
import Derived.OpenShut
import Derived.ShutString
import Derived.ChangeOld
import Derived.Below
import Derived.Lib.SmallJoins
import Derived.Laws.Bits128
import Derived.Deep.MidRow
import Derived.Deep.QuietTactic
import Derived.BigQuiet
import Derived.RegionTactic
import Derived.ChangeAlike
namespace Go.Proofs.YthjkdnlmopafkaaGreat
open Go.ChangeShapes Go.WideShapes Go.ChangeAt Go.RowKit
set_option maxRecDepth 100000
set_option maxHeartbeats 16000000
set_option linter.unusedVariables false
set_option linter.unusedSimpArgs false
set_option linter.unnecessarySimpa false
set_option linter.unusedSectionVars false
set_option hygiene false
scoped notation "Q7b" => w.heap.size
scoped notation "Q7c" => World.rangeAt_setCells_same
scoped notation "Q7d" => Tryz.underlying53
scoped notation "Q7e" => wpList_store_mid
scoped notation "Q7f" => A.nodes.length
scoped notation "Q7g" => Below.refl
scoped notation "Q7h" => A.vers.length
scoped notation "Q7i" => Option.some.inj
scoped notation "Q7j" => wpList_load_mid
scoped notation "Q7k" => w1.heap.size
scoped notation "Q7l" => Nat.le_refl
scoped notation "Q7m" => A.camera
scoped notation "Q7n" => World.rangeAt_alloc
scoped notation "Q7o" => Nat.lt_of_lt_of_le
scoped notation "Q7p" => Tryz.underlying59
scoped notation "Q7q" => l.toArray.size
scoped notation "Q7r" => w0.heap.size
scoped notation "Q7s" => W.hands.length
scoped notation "Q7t" => World.rangeAt_setCells_apart
scoped notation "Q7u" => Nat.le_trans
scoped notation "Q7v" => A.guides.length
scoped notation "Q7w" => A.slots.length
scoped notation "Q7x" => w2.heap.size
scoped notation "Q7y" => W.calls.length
scoped notation "Q7z" => W.ticks.length
scoped notation "Q80" => World.there_alloc
scoped notation "Q81" => World.there_setCells
scoped notation "Q82" => W.deeds.length
scoped notation "Q83" => Tryz.underlying38
scoped notation "Q84" => w5.heap.size
scoped notation "Q00" => #[.int .i64 0, .int .i64 0, .int .i64 0, .int .i64 0, .int .i64 0, .int .i64 0, .int .i64 0, .int .i64 0, .int .i64 0, .int .i64 0, .int .i64 0, .int .i64 0, .int .i64 0, .int .i64 0, .int .i64 0, .int .i64 0, .int .i64 0, .int .i64 0, .int .i64 0, .int .i64 0, .int .i64 0, .int .i64 0]
scoped notation "Q01" => #[.int .i64 0, .slice none 0 0, .slice none 0 0, .slice none 0 0, .slice none 0 0, .int .i64 0, .int .i64 0, .int .i64 0, .int .i64 0, .int .i64 0, .int .i64 0, .int .i64 0, .int .i64 0, .int .i64 0, .int .i64 0, .int .i64 0, .int .i64 0, .int .i64 0, .int .i64 0, .int .i64 0, .int .i64 0, .int .i64 0, .int .i64 0, .int .i64 0, .int .i64 0, .int .i64 0, .int .i64 0, .int .i64 0, .int .i64 0, .int .i64 0, .int .i64 0, .int .i64 0, .bool false]
scoped notation "Q02" => #[.int .i64 Q7m, .slice a0 Q7w c0, .slice a1 Q7v c1, .slice a2 Q7f c2, .slice a3 Q7h c3]
scoped notation "Q03" => #[.int .i64 0, .int .i64 0, .int .i64 0, .int .i64 0, .int .i64 0, .slice none 0 0, .slice none 0 0, .slice none 0 0, .slice none 0 0, .slice none 0 0, .slice none 0 0, .slice none 0 0, .slice none 0 0, .int .i64 0]
scoped notation "Q04" => #[.int .i64 x, .int .i64 y, .int .i64 z, .int .i64 u, .int .i64 W.A.camera, .slice a0 W.A.slots.length c0, .slice a1 W.A.guides.length c1, .slice a2 W.A.nodes.length c2, .slice a3 W.A.vers.length c3, .slice (some ⟨hb, ho, none⟩) Q7s c4, .slice a5 Q7y c5, .slice a6 Q82 c6, .slice a7 Q7z c7, .int .i64 W.now]
scoped notation "Q05" => (.slice (some ⟨rb, 0, none⟩) Q7h rc)
scoped notation "Q06" => #[.int .i64 x, .int .i64 y, .int .i64 z, .int .i64 u]
scoped notation "Q07" => #[.int .i64 h.at_, .int .i64 h.then_, .int .i64 h.code, .int .i64 h.key, .int .i64 h.value, .int .i64 h.begin, .int .i64 h.reply, .int .i64 h.out, .int .i64 h.sum, .int .i64 h.held, .int .i64 h.x_, .int .i64 h.ver, .int .i64 h.cam, .int .i64 h.camAt, .int .i64 h.pred, .int .i64 h.predVer, .int .i64 h.curr, .int .i64 h.currVer, .int .i64 h.new_, .int .i64 h.least, .int .i64 h.index, .int .i64 h.round]
scoped notation "Q08" => #[.int .i64 x, .int .i64 y, .int .i64 z, .int .i64 u, .int .i64 W.A.camera, .slice a0 W.A.slots.length c0, .slice a1 W.A.guides.length c1, .slice a2 W.A.nodes.length c2, .slice a3 W.A.vers.length c3, .slice a4 Q7s c4, .slice a5 Q7y c5, .slice a6 Q82 c6, .slice a7 Q7z c7, .int .i64 W.now]
scoped notation "Q09" => (.slice ga Q7v gc)
scoped notation "Q0a" => (.cells #[.int .i64 m.next, .bool m.gone, .int .i64 m.stamp, .int .i64 m.prev, .int .i64 m.kind] 65)
scoped notation "Q0b" => (.slice sa Q7w sc)
scoped notation "Q0c" => (.slice na Q7f nc)
scoped notation "Q0d" => (.cells (hdC h).toArray 53)
scoped notation "Q0e" => (.slice (some ⟨nb, 0, none⟩) Q7f nc)
scoped notation "Q0f" => (wdC x y z u W2.A.camera (.slice sa W2.A.slots.length sc') (.slice ga W2.A.guides.length gc') (.slice na W2.A.nodes.length nc') (.slice ra W2.A.vers.length rc') (.slice ha W2.hands.length hc') (.slice ca W2.calls.length cc') (.slice da W2.deeds.length dc') (.slice ta W2.ticks.length tc') W2.now)
scoped notation "Q0g" => (.slice (some ⟨sb, 0, none⟩) Q7w sc)
scoped notation "Q0h" => #[.int .i64 0, .slice none 0 0, .slice none 0 0, .slice none 0 0, .slice none 0 0]
scoped notation "Q0i" => #[.int .i64 x, .int .i64 y, .int .i64 z, .int .i64 u, .int .i64 W.A.camera, .slice sa6 W.A.slots.length sc6, .slice ga6 W.A.guides.length gc6, .slice na6 W.A.nodes.length nc6, .slice ra6 W.A.vers.length rc6, .slice (some ⟨hg, 0, none⟩) Q7s hcap, .slice ca Q7y cc, .slice da Q82 dc, .slice ta Q7z tc, .int .i64 (W.now)]
scoped notation "Q0j" => [.int .i64 Q7m, .slice a0 Q7w c0, .slice a1 Q7v c1, .slice a2 Q7f c2, .slice a3 Q7h c3]
scoped notation "Q0k" => [.int .i64 0, .slice none 0 0, .slice none 0 0, .slice none 0 0, .slice none 0 0, .int .i64 0, .int .i64 0, .int .i64 0, .int .i64 0, .int .i64 0, .int .i64 0, .int .i64 0, .int .i64 0, .int .i64 0, .int .i64 0, .int .i64 0, .int .i64 0, .int .i64 0, .int .i64 0, .int .i64 0, .int .i64 0, .int .i64 0, .int .i64 0, .int .i64 0, .int .i64 0, .int .i64 0, .int .i64 0, .int .i64 0, .int .i64 0, .int .i64 0, .int .i64 0, .int .i64 0, .bool false]
scoped notation "Q0l" => [.int .i64 0, .int .i64 0, .int .i64 0, .int .i64 0, .int .i64 0, .int .i64 0, .int .i64 0, .int .i64 0, .int .i64 0, .int .i64 0, .int .i64 0, .int .i64 0, .int .i64 0, .int .i64 0, .int .i64 0, .int .i64 0, .int .i64 0, .int .i64 0, .int .i64 0, .int .i64 0, .int .i64 0, .int .i64 0]
scoped notation "Q0m" => (.slice ra Q7h rc)
scoped notation "Q0n" => (wdC x y z u W.A.camera (.slice a0 W.A.slots.length c0) (.slice a1 W.A.guides.length c1) (.slice a2 W.A.nodes.length c2) (.slice a3 W.A.vers.length c3) (.slice a4 Q7s c4) (.slice a5 Q7y c5) (.slice a6 Q82 c6) (.slice a7 Q7z c7) W.now)
scoped notation "Q0o" => [.int .i64 x, .int .i64 y, .int .i64 z, .int .i64 u, .int .i64 W.A.camera, .slice sa6 W.A.slots.length sc6, .slice ga6 W.A.guides.length gc6, .slice na6 W.A.nodes.length nc6, .slice ra6 W.A.vers.length rc6, .slice (some ⟨hg, 0, none⟩) Q7s hcap, .slice ca Q7y cc, .slice da Q82 dc, .slice ta Q7z tc, .int .i64 (W.now)]
scoped notation "Q0p" => (.slice (some ⟨gb, 0, none⟩) Q7v gc)
scoped notation "Q0q" => [.int .i64 x, .int .i64 y, .int .i64 z, .int .i64 u]
scoped notation "Q0r" => #[.func (.func 150) #[] #[.pointer (some ⟨b, 0, none⟩)], .func (.func 133) #[] #[], .func (.func 134) #[] #[], .func (.func 135) #[] #[], .func (.func 150) #[] #[.pointer (some ⟨b + 1, 0, none⟩)], .func (.func 150) #[] #[.pointer (some ⟨b + 2, 0, none⟩)], .func (.func 136) #[] #[], .func (.func 137) #[] #[]]
scoped notation "Q0s" => (.slice a1 Q7v c1)
scoped notation "Q0t" => [.int .i64 x, .int .i64 y, .int .i64 z, .int .i64 u, .int .i64 W.A.camera, .slice a0 W.A.slots.length c0, .slice a1 W.A.guides.length c1, .slice a2 W.A.nodes.length c2, .slice a3 W.A.vers.length c3, .slice (some ⟨hb, ho, none⟩) Q7s c4, .slice a5 Q7y c5, .slice a6 Q82 c6, .slice a7 Q7z c7, .int .i64 W.now]
scoped notation "Q0u" => (.slice a0 Q7w c0)
scoped notation "Q0v" => (.slice a2 Q7f c2)
scoped notation "Q0w" => (qzy _ _ _ _ _ _ _ _ _ _ _ _ _ _ _ _)
scoped notation "Q0x" => [.int .i64 xN, .int .i64 y, .int .i64 z, .int .i64 uN, .int .i64 0, .slice (some ⟨sg, 0, none⟩) xN sc, .slice (some ⟨gb, 0, none⟩) uN uN, .slice (some ⟨nb, 0, none⟩) 1 1, .slice (some ⟨vb, 0, none⟩) 1 1, .slice (some ⟨hg, 0, none⟩) xN hc, .slice none 0 0, .slice none 0 0, .slice none 0 0, .int .i64 0]
scoped notation "Q0y" => [.int .i64 x, .int .i64 y, .int .i64 z, .int .i64 u, .int .i64 W.A.camera, .slice sa6 W.A.slots.length sc6, .slice ga6 W.A.guides.length gc6, .slice na6 W.A.nodes.length nc6, .slice ra6 W.A.vers.length rc6, .slice (some ⟨hg, 0, none⟩) Q7s hcap, .slice ca Q7y cc, .slice da Q82 dc, .slice ta Q7z tc, .int .i64 (W.now + 1)]
scoped notation "Q0z" => (wdC x y z u W.A.camera (.slice sa6 W.A.slots.length sc6) (.slice ga6 W.A.guides.length gc6) (.slice na6 W.A.nodes.length nc6) (.slice ra6 W.A.vers.length rc6) (.slice (some ⟨hg, 0, none⟩) Q7s hcap) (.slice ca Q7y cc) (.slice da Q82 dc) (.slice ta Q7z tc) W.now)
scoped notation "Q10" => #[.int .i64 xN, .int .i64 y, .int .i64 z, .int .i64 uN, .int .i64 0, .slice (some ⟨sg, 0, none⟩) xN sc, .slice (some ⟨gb, 0, none⟩) uN uN, .slice (some ⟨nb, 0, none⟩) 1 1, .slice (some ⟨vb, 0, none⟩) 1 1, .slice none 0 0, .slice none 0 0, .slice none 0 0, .slice none 0 0, .int .i64 0]
scoped notation "Q11" => #[.int .i64 h.x_, .int .i64 h.ver, .int .i64 h.cam, .int .i64 h.camAt, .int .i64 h.pred, .int .i64 h.predVer, .int .i64 h.curr, .int .i64 h.currVer, .int .i64 h.new_, .int .i64 h.least, .int .i64 h.index, .int .i64 h.round, .int .i64 h.at_, .int .i64 h.then_, .int .i64 h.code, .int .i64 h.key, .int .i64 h.value, .int .i64 h.begin, .int .i64 h.reply, .int .i64 h.out, .int .i64 h.sum, .int .i64 h.held]
scoped notation "Q12" => [.int .i64 x, .int .i64 y, .int .i64 z, .int .i64 u, .int .i64 W.A.camera, .slice a0 W.A.slots.length c0, .slice a1 W.A.guides.length c1, .slice a2 W.A.nodes.length c2, .slice a3 W.A.vers.length c3, .slice a4 Q7s c4, .slice a5 Q7y c5, .slice a6 Q82 c6, .slice a7 Q7z c7, .int .i64 W.now]
scoped notation "Q13" => #[.int .i64 0, .int .i64 0, .int .i64 0, .int .i64 0, .int .i64 0]
scoped notation "Q14" => (.slice a3 Q7h c3)
scoped notation "Q15" => (.cells #[.int .i64 0, .int .i64 0, .int .i64 0, .int .i64 0] 28)
scoped notation "Q16" => ((w1.setCell ⟨Q7b + 1, 17, none⟩ (.int .i64 h.ver)).drewN nq)
scoped notation "Q17" => #[.int .i64 A.vers[v].next, .bool A.vers[v].gone, .int .i64 A.vers[v].stamp, .int .i64 A.vers[v].prev, .int .i64 A.vers[v].kind]
scoped notation "Q18" => (Q7b + 1 + 1 + 1)
scoped notation "Q19" => (qzc A9.camera (.slice s0 A9.slots.length t0) (.slice s1 A9.guides.length t1) (.slice s2 A9.nodes.length t2) (.slice s3 A9.vers.length t3) h9 d9 false)
scoped notation "Q1a" => (qzc A9.camera (.slice f0 A9.slots.length e0) (.slice f1 A9.guides.length e1) (.slice f2 A9.nodes.length e2) (.slice f3 A9.vers.length e3) h9 d9 false)
scoped notation "Q1b" => (.slice ga2 A2.guides.length gc2)
scoped notation "Q1c" => (.slice sa2 A2.slots.length sc2)
scoped notation "Q1d" => (.slice ra2 A2.vers.length rc2)
scoped notation "Q1e" => [.int .i64 xN, .int .i64 y, .int .i64 z, .int .i64 uN, .int .i64 0, .slice (some ⟨sg, 0, none⟩) xN sc, .slice (some ⟨gb, 0, none⟩) uN uN, .slice (some ⟨nb, 0, none⟩) 1 1, .slice (some ⟨vb, 0, none⟩) 1 1, .slice none 0 0, .slice none 0 0, .slice none 0 0, .slice none 0 0, .int .i64 0]
scoped notation "Q1f" => (qzc Q7m Q0b Q09 Q0c Q0m h d tk)
scoped notation "Q1g" => #[.int .i64 W.A.camera, .slice a0 W.A.slots.length c0, .slice a1 W.A.guides.length c1, .slice a2 W.A.nodes.length c2, .slice a3 W.A.vers.length c3]
scoped notation "Q1h" => (qz16 x y z u A h d tk me clock)
scoped notation "Q1i" => [.int .i64 x, .int .i64 y, .int .i64 z, .int .i64 u, .int .i64 As.camera, .slice sa sl0 sc, .slice ga gl0 gc, .slice na nl0 nc, .slice ra rl0 rc, .slice (some ⟨hg, 0, none⟩) Q7s hcap, .slice ca Q7y cc, .slice da Q82 dc, .slice ta Q7z tc, .int .i64 (W.now + 1)]
scoped notation "Q1j" => (qzc Q7m (.slice sa2 (qz2c x y z u A h).1.slots.length sc2) (.slice ga2 (qz2c x y z u A h).1.guides.length gc2) (.slice na2 (qz2c x y z u A h).1.nodes.length nc2) (.slice ra2 (qz2c x y z u A h).1.vers.length rc2) (qz2c x y z u A h).2 d tk)
scoped notation "Q1k" => ((((w.alloc (.cells Q02 33)).alloc Q0d).alloc Q0a).alloc (.cells Q00 53))
scoped notation "Q1l" => (qz43 k 0 (Array.replicate Q7q false))
scoped notation "Q1m" => (.slice na2 A2.nodes.length nc2)
scoped notation "Q1n" => (.slice (some ⟨bb, off, none⟩) Q7h c3)
scoped notation "Q1o" => (qz6 ((w.alloc (.cells Q02 33)).alloc Q0d) [.int .i64 m.next, .bool m.gone, .int .i64 m.stamp, .int .i64 m.prev, .int .i64 m.kind] 65)
scoped notation "Q1p" => (.cells #[.int .i64 A.nodes[n].key, .int .i64 A.nodes[n].value, .int .i64 A.nodes[n].head] 99)
scoped notation "Q1q" => [.int .i64 x, .int .i64 y, .int .i64 z, .int .i64 u, .int .i64 As.camera, .slice sa sl0 sc, .slice ga gl0 gc, .slice na nl0 nc, .slice ra rl0 rc, .slice (some ⟨hg, 0, none⟩) Q7s hcap, .slice ca2 (Q7y + 1) cc2, .slice da2 (Q82 + 1) dc2, .slice ta Q7z tc, .int .i64 (W.now + 1)]
scoped notation "Q1r" => [.int .i64 x, .int .i64 y, .int .i64 z, .int .i64 u, .int .i64 As.camera, .slice sa sl0 sc, .slice ga gl0 gc, .slice na nl0 nc, .slice ra rl0 rc, .slice (some ⟨hg, 0, none⟩) Q7s hcap, .slice ca2 (Q7y + 1) cc2, .slice da Q82 dc, .slice ta2 (Q7z + 1) tc2, .int .i64 (W.now + 1)]
scoped notation "Q1s" => #[.int .i64 x, .int .i64 y, .int .i64 z, .int .i64 u, .int .i64 0, .slice (some ⟨sg, 0, none⟩) xN sc, .slice (some ⟨gb, 0, none⟩) uN uN, .slice (some ⟨nb, 0, none⟩) 1 1, .slice (some ⟨vb, 0, none⟩) 1 1, .slice (some ⟨hg, 0, none⟩) xN hc, .slice none 0 0, .slice none 0 0, .slice none 0 0, .int .i64 0]
scoped notation "Q1t" => #[.int .i64 Q7m, .slice a0 Q7w c0, .slice a1 Q7v c1, .slice a2 Q7f c2, .slice (some ⟨bb, off, none⟩) Q7h c3]
scoped notation "Q1u" => [.int .i64 x, .int .i64 y, .int .i64 z, .int .i64 u, .int .i64 As.camera, .slice sa sl0 sc, .slice ga gl0 gc, .slice na nl0 nc, .slice ra rl0 rc, .slice (some ⟨hg, 0, none⟩) Q7s hcap, .slice ca2 (Q7y + 1) cc2, .slice da Q82 dc, .slice ta Q7z tc, .int .i64 (W.now + 1)]
scoped notation "Q1v" => [.int .i64 x, .int .i64 y, .int .i64 z, .int .i64 u, .int .i64 As.camera, .slice sa sl0 sc, .slice ga gl0 gc, .slice na nl0 nc, .slice ra rl0 rc, .slice (some ⟨hg, 0, none⟩) Q7s hcap, .slice ca Q7y cc, .slice da2 (Q82 + 1) dc2, .slice ta Q7z tc, .int .i64 (W.now + 1)]
scoped notation "Q1w" => (qzc 0 (.slice none 0 0) (.slice none 0 0) (.slice none 0 0) (.slice none 0 0) qz7x qz21 false)
scoped notation "Q1x" => #[.agg Q02, .agg (hdC h).toArray, .agg #[.int .i64 m.next, .bool m.gone, .int .i64 m.stamp, .int .i64 m.prev, .int .i64 m.kind]]
scoped notation "Q1y" => (qzc As.camera (.slice sa sl0 sc) (.slice ga gl0 gc) (.slice na nl0 nc) (.slice ra rl0 rc) Hn En Tn)
scoped notation "Q1z" => (wdC x y z u W.A.camera (.slice sa W.A.slots.length sc') (.slice ga W.A.guides.length gc') (.slice na W.A.nodes.length nc') (.slice ra W.A.vers.length rc') (.slice ha Q7s hc') (.slice ca Q7y cc') (.slice da Q82 dc') (.slice ta Q7z tc') W.now)
scoped notation "Q20" => [.int .i64 Q7m, .slice sa Q7w sc, .slice ga Q7v gc, .slice (some ⟨nb, 0, none⟩) Q7f nc, .slice ra2 (Q7h + 1) rc2]
scoped notation "Q21" => [.int .i64 0, .slice (some ⟨g, 0, none⟩) k cap, .slice (some ⟨Q7k, 0, none⟩) uN uN, .slice (some ⟨Q7k + 1, 0, none⟩) 1 1, .slice (some ⟨Q7k + 1 + 1, 0, none⟩) 1 1]
scoped notation "Q22" => (qzc Q7m (.slice sa2 (qz1f z A h.pred h.predVer (newI h) false 1).1.slots.length sc2) (.slice ga2 (qz1f z A h.pred h.predVer (newI h) false 1).1.guides.length gc2) (.slice na2 (qz1f z A h.pred h.predVer (newI h) false 1).1.nodes.length nc2) (.slice ra2 (qz1f z A h.pred h.predVer (newI h) false 1).1.vers.length rc2) (qz7w (qz1f z A h.pred h.predVer (newI h) false 1).2 h h.pred 4) d tk)
scoped notation "Q23" => #[.int .i64 Q7m, .slice sa Q7w sc, .slice ga Q7v gc, .slice (some ⟨nb, 0, none⟩) Q7f nc, .slice ra Q7h rc]
scoped notation "Q24" => #[.int .i64 0, .bool false, .int .i64 0, .int .i64 0, .int .i64 0]
scoped notation "Q25" => [.int .i64 W.A.camera, .slice a0 W.A.slots.length c0, .slice a1 W.A.guides.length c1, .slice a2 W.A.nodes.length c2, .slice a3 W.A.vers.length c3]
scoped notation "Q26" => (w.alloc (.cells Q02 33))
scoped notation "Q27" => [.int .i64 Q7m, .slice sa Q7w sc, .slice ga Q7v gc, .slice (some ⟨nb, 0, none⟩) Q7f nc, .slice ra Q7h rc]
scoped notation "Q28" => (qzc Q7m Q0b Q0p Q0e Q05 h d tk)
scoped notation "Q2a" => (.slice (some ⟨Q7b, 0, none⟩) l.length l.length)
scoped notation "Q2b" => #[.agg Q06, .agg (qzc Q7m s g n r h d tk).toArray, .int .i64 me, .int .i64 clock]
scoped notation "Q2c" => [.int .i64 x, .int .i64 y, .int .i64 z, .int .i64 u, .int .i64 W.A.camera, .slice sa W.A.slots.length sc, .slice ga W.A.guides.length gc, .slice na W.A.nodes.length nc, .slice ra W.A.vers.length rc, .slice ha Q7s hc, .slice ca Q7y cc, .slice da Q82 dc, .slice ta Q7z tc, .int .i64 W.now]
scoped notation "Q2d" => [.int .i64 xN, .int .i64 y, .int .i64 z, .int .i64 uN, .int .i64 0, .slice (some ⟨sg, 0, none⟩) xN sc, .slice (some ⟨gb, 0, none⟩) uN uN, .slice (some ⟨nb, 0, none⟩) 1 1, .slice (some ⟨vb, 0, none⟩) 1 1]
scoped notation "Q2e" => (.slice (some ⟨hg, 0, none⟩) Q7s hcap)
scoped notation "Q2f" => [.int .i64 0, .int .i64 0, .int .i64 0, .int .i64 0, .int .i64 0, .slice none 0 0, .slice none 0 0, .slice none 0 0, .slice none 0 0, .slice none 0 0, .slice none 0 0, .slice none 0 0, .slice none 0 0, .int .i64 0]
scoped notation "Q2g" => ((w.alloc (.cells Q06 28)).alloc (.cells Q02 33))
scoped notation "Q2h" => #[.int .i64 Q7m, .slice sa Q7w sc, .slice ga Q7v gc, .slice na Q7f nc, .slice (some ⟨rb, 0, none⟩) Q7h rc]
scoped notation "Q2i" => (wdC x y z u W.A.camera (.slice a0 W.A.slots.length c0) (.slice a1 W.A.guides.length c1) (.slice a2 W.A.nodes.length c2) (.slice a3 W.A.vers.length c3) (.slice (some ⟨hb, ho, none⟩) Q7s c4) (.slice a5 Q7y c5) (.slice a6 Q82 c6) (.slice a7 Q7z c7) W.now)
scoped notation "Q2j" => (((((w2.setCell ⟨Q7b + 1, 0, none⟩ (.int .i64 Q7m)).setCell ⟨Q7b + 1, 1, none⟩ Q1c).setCell ⟨Q7b + 1, 2, none⟩ Q1b).setCell ⟨Q7b + 1, 3, none⟩ (.slice (some ⟨nb2, 0, none⟩) A2.nodes.length nc2)).setCell ⟨Q7b + 1, 4, none⟩ Q1d)
scoped notation "Q2k" => (qz9 h 2 A.nodes[m].value 0)
scoped notation "Q2l" => (.slice ra2 (Q7h + 1) rc2)
scoped notation "Q2m" => ((w.alloc (.cells Q04 38)).alloc (.cells Q03 38))
scoped notation "Q2n" => (qzc Q7m (.slice sa2 (qz1m A h d clock).1.slots.length sc2) (.slice ga2 (qz1m A h d clock).1.guides.length gc2) (.slice na2 (qz1m A h d clock).1.nodes.length nc2) (.slice ra2 (qz1m A h d clock).1.vers.length rc2) (qz1m A h d clock).2.1 (qz1m A h d clock).2.2 tk)
scoped notation "Q2o" => (qzc (qzo A h me tk).1.camera (.slice sa2 (qzo A h me tk).1.slots.length sc2) (.slice ga2 (qzo A h me tk).1.guides.length gc2) (.slice na2 (qzo A h me tk).1.nodes.length nc2) (.slice ra2 (qzo A h me tk).1.vers.length rc2) (qzo A h me tk).2.1 d (qzo A h me tk).2.2)
scoped notation "Q2p" => (qzc Q7m Q0b Q0p Q0e Q05 (qz9 h 1 0 0) d tk)
scoped notation "Q2q" => (qzc Q7m (.slice sa2 (qzx x y z u A h).1.slots.length sc2) (.slice ga2 (qzx x y z u A h).1.guides.length gc2) (.slice na2 (qzx x y z u A h).1.nodes.length nc2) (.slice ra2 (qzx x y z u A h).1.vers.length rc2) (qzx x y z u A h).2 d tk)
scoped notation "Q2r" => [.int .i64 Q7m, .slice a0 Q7w c0, .slice a1 Q7v c1, .slice (some ⟨bb, off, none⟩) Q7f c2, .slice a3 Q7h c3]
scoped notation "Q2s" => (qzc (qz2g A h tk me) s' g' n' r' Q1h.2.1 Q1h.2.2.1 Q1h.2.2.2)
scoped notation "Q2t" => (qzc Q7m (.slice sa2 (qz3o y z A h).1.slots.length sc2) (.slice ga2 (qz3o y z A h).1.guides.length gc2) (.slice na2 (qz3o y z A h).1.nodes.length nc2) (.slice ra2 (qz3o y z A h).1.vers.length rc2) (qz3o y z A h).2 d tk)
scoped notation "Q2u" => (hdC (qz9 H' 4 h.out h.sum))
scoped notation "Q2v" => #[.agg Q06, .agg (qzc Q7m s g n r h d tk).toArray]
scoped notation "Q2w" => #[.int .i64 Q7m, s, g, n, r]
scoped notation "Q2x" => (qzc Q7m (.slice sa2 (qz4r A h).1.slots.length sc2) (.slice ga2 (qz4r A h).1.guides.length gc2) (.slice na2 (qz4r A h).1.nodes.length nc2) (.slice ra2 (qz4r A h).1.vers.length rc2) (qz4r A h).2 d tk)
scoped notation "Q2y" => (hdC (qz9 H' 4 (min (h.out + 1) 1000000) (min (h.sum + A.nodes[n].value) 1000000)))
scoped notation "Q2z" => (((w.alloc (.cells Q06 28)).alloc (.cells (Q1f).toArray 59)).alloc (.cells Q01 59))
scoped notation "Q31" => (((w3.setCell ⟨Q7b + 1 + 1, 12, none⟩ (.int .i64 Q7m)).setCell ⟨Q7b + 1 + 1, 13, none⟩ (.int .i64 clk)).setCell ⟨Q7b + 1 + 1, 0, none⟩ (.int .i64 5))
scoped notation "Q32" => #[.int .i64 x, .int .i64 y, .int .i64 z, .int .i64 u, .int .i64 W.A.camera, .slice sa6 W.A.slots.length sc6, .slice ga6 W.A.guides.length gc6, .slice na6 W.A.nodes.length nc6, .slice ra6 W.A.vers.length rc6, .slice (some ⟨hg, 0, none⟩) Q7s hcap, .slice ca Q7y cc, .slice da Q82 dc, .slice ta Q7z tc, .int .i64 (W.now + 1)]
scoped notation "Q33" => (.slice ca2 (Q7y + 1) cc2)
scoped notation "Q34" => [.func (.func 150) #[] #[.pointer (some ⟨Q7b + 1, 0, none⟩)], .func (.func 133) #[] #[], .func (.func 134) #[] #[], .func (.func 135) #[] #[], .func (.func 150) #[] #[.pointer (some ⟨Q7b + 1 + 1, 0, none⟩)], .func (.func 150) #[] #[.pointer (some ⟨Q7b + 1 + 2, 0, none⟩)], .func (.func 136) #[] #[], .func (.func 137) #[] #[]]
scoped notation "Q35" => #[.int .i64 c.proc, .int .i64 c.code, .int .i64 c.key, .int .i64 c.value, .int .i64 c.begin, .int .i64 c.end_, .int .i64 c.reply, .int .i64 c.out, .int .i64 c.sum, .int .i64 c.held]
scoped notation "Q36" => #[.int .i64 Q7m, .slice sa Q7w sc, .slice ga Q7v gc, .slice (some ⟨nb, 0, none⟩) Q7f nc, .slice (some ⟨rb, 0, none⟩) Q7h rc]
scoped notation "Q37" => (qzc Q7m Q0g Q09 Q0c Q0m (qz9 H' 4 h.cam 0) d tk)
scoped notation "Q38" => (.slice ca Q7y cc)
scoped notation "Q39" => (.slice (some ⟨nb2, 0, none⟩) A2.nodes.length nc2)
scoped notation "Q3a" => (.slice (some ⟨bb, off, none⟩) Q7f c2)
scoped notation "Q3b" => ((((w3.setCells (Q7b) 0 Q0q).setCells (Q7b + 1) 0 Q0j).setCells (Q7b + 1 + 1) 0 (hdC hd)))
scoped notation "Q3c" => (qz1f z A h.pred h.predVer A.vers[ck].next false 0)
scoped notation "Q3d" => #[.int .i64 x, .int .i64 y, .int .i64 z, .int .i64 u, .int .i64 W.A.camera, .slice sa W.A.slots.length sc, .slice ga W.A.guides.length gc, .slice na W.A.nodes.length nc, .slice ra W.A.vers.length rc, .slice ha Q7s hc, .slice ca Q7y cc, .slice da Q82 dc, .slice ta Q7z tc, .int .i64 W.now]
scoped notation "Q3e" => (.slice ta Q7z tc)
scoped notation "Q3f" => (.slice da Q82 dc)
scoped notation "Q3g" => (wdC x y z u W.A.camera s g n r hs cs ds ts W.now)
scoped notation "Q3h" => #[.int .i64 x, .int .i64 y, .int .i64 z, .int .i64 u, .int .i64 As.camera, .slice sa sl0 sc, .slice ga gl0 gc, .slice na nl0 nc, .slice ra rl0 rc, .slice (some ⟨hg, 0, none⟩) Q7s hcap, .slice ca2 (Q7y + 1) cc2, .slice da2 (Q82 + 1) dc2, .slice ta Q7z tc, .int .i64 (W.now + 1)]
scoped notation "Q3i" => #[.int .i64 x, .int .i64 y, .int .i64 z, .int .i64 u, .int .i64 As.camera, .slice sa sl0 sc, .slice ga gl0 gc, .slice na nl0 nc, .slice ra rl0 rc, .slice (some ⟨hg, 0, none⟩) Q7s hcap, .slice ca2 (Q7y + 1) cc2, .slice da Q82 dc, .slice ta2 (Q7z + 1) tc2, .int .i64 (W.now + 1)]
scoped notation "Q3j" => (qzc Q7m Q1c Q1b Q1m Q1d (qz9 h 5 0 0) d tk)
scoped notation "Q3k" => (qzc Q7m Q0b Q09 Q0c Q0m (qz9 h 5 0 0) d tk)
scoped notation "Q3l" => #[.int .i64 x, .int .i64 y, .int .i64 z, .int .i64 u, .int .i64 As.camera, .slice sa sl0 sc, .slice ga gl0 gc, .slice na nl0 nc, .slice ra rl0 rc, .slice (some ⟨hg, 0, none⟩) Q7s hcap, .slice ca2 (Q7y + 1) cc2, .slice da Q82 dc, .slice ta Q7z tc, .int .i64 (W.now + 1)]
scoped notation "Q3m" => #[.int .i64 x, .int .i64 y, .int .i64 z, .int .i64 u, .int .i64 As.camera, .slice sa sl0 sc, .slice ga gl0 gc, .slice na nl0 nc, .slice ra rl0 rc, .slice (some ⟨hg, 0, none⟩) Q7s hcap, .slice ca Q7y cc, .slice da2 (Q82 + 1) dc2, .slice ta Q7z tc, .int .i64 (W.now + 1)]
scoped notation "Q3n" => [.int .i64 Q7m, .slice a0 Q7w c0, .slice a1 Q7v c1, .slice (some ⟨bn, on, none⟩) Q7f c2, .slice a3 Q7h c3]
scoped notation "Q3o" => [.int .i64 Q7m, .slice (some ⟨Q7r, 0, none⟩) Q7w Q7w, .slice (some ⟨Q7k, 0, none⟩) Q7v Q7v, .slice (some ⟨Q7x, 0, none⟩) Q7f Q7f, .slice (some ⟨w3.heap.size, 0, none⟩) Q7h Q7h]
scoped notation "Q3p" => (qzc Q7m (.slice sa2 Q7w sc2) (.slice ga2 Q7v gc2) (.slice na2 Q7f nc2) (.slice ra2 Q7h rc2) (qz8l A h) d tk)
scoped notation "Q3q" => (hdC (qz3q A H' A.vers[v].next))
scoped notation "Q3r" => (.cells #[.int .i64 0, .int .i64 0, .int .i64 0, .int .i64 (-1), .int .i64 0, .int .i64 0, .int .i64 0, .int .i64 0, .int .i64 0, .int .i64 (-1), .int .i64 0, .int .i64 0, .int .i64 0, .int .i64 0, .int .i64 0, .int .i64 0, .int .i64 (-1), .int .i64 0, .int .i64 (-1), .int .i64 0, .int .i64 0, .int .i64 0] 53)
scoped notation "Q3s" => #[.int .i64 x, .int .i64 y, .int .i64 z, .int .i64 u, .int .i64 As.camera, .slice sa sl0 sc, .slice ga gl0 gc, .slice na nl0 nc, .slice ra rl0 rc, .slice (some ⟨hg, 0, none⟩) Q7s hcap, .slice ca Q7y cc, .slice da Q82 dc, .slice ta Q7z tc, .int .i64 (W.now + 1)]
scoped notation "Q3t" => (qzc Q7m Q0b Q09 Q0e Q05 h d tk)
scoped notation "Q3u" => (qzc Q7m Q0b Q09 Q0c Q05 h d tk)
scoped notation "Q3v" => (qzc A9.camera (.slice q0 A9.slots.length k0) (.slice q1 A9.guides.length k1) (.slice q2 A9.nodes.length k2) (.slice q3 A9.vers.length k3) h9 d9 false)
scoped notation "Q3w" => (qzc A9.camera (.slice p0 A9.slots.length k0) (.slice p1 A9.guides.length k1) (.slice p2 A9.nodes.length k2) (.slice p3 A9.vers.length k3) h9 d9 false)
scoped notation "Q3x" => (qzc Q7m Q0b Q09 Q0c Q05 (qz57 A h) d tk)
scoped notation "Q3y" => ((w.alloc (.cells Q06 28)).alloc (.cells (Q1f).toArray 59))
scoped notation "Q3z" => (((w.alloc (.cells Q06 28)).alloc (.cells (Q28).toArray 59)).alloc (.cells Q01 59))
scoped notation "Q40" => (.slice (some ⟨bn, on, none⟩) Q7f c2)
scoped notation "Q41" => (qzc Q7m Q0b Q09 Q0e Q05 (onH A h) d tk)
scoped notation "Q42" => (qzc Q7m s' g' n' r' (qzx x y z u A h).2 d tk)
scoped notation "Q43" => (.slice (some ⟨b2, o2, none⟩) Q7h c3)
scoped notation "Q44" => #[.int .i64 En.kind, .int .i64 En.key, .int .i64 En.value, .int .i64 En.stamp, .int .i64 En.clock]
scoped notation "Q45" => (qz1f z A node v next gone kind)
scoped notation "Q46" => (.slice a1 W.A.guides.length c1)
scoped notation "Q47" => (w2.setCell ⟨vb, vo + 2, none⟩ (.int .i64 st))
scoped notation "Q48" => (qz1f z A h.pred h.predVer (vrOf A h.currVer).next false 0)
scoped notation "Q49" => (.slice (some ⟨g, 0, none⟩) n cap)
scoped notation "Q4a" => (.slice a2 W.A.nodes.length c2)
scoped notation "Q4b" => (.slice a0 W.A.slots.length c0)
scoped notation "Q4c" => #[.int .i64 As.camera, .slice sa sl0 sc, .slice ga gl0 gc, .slice na nl0 nc, .slice ra rl0 rc]
scoped notation "Q4d" => [.int .i64 Q7m, .slice sa Q7w sc, .slice ga Q7v gc, .slice na Q7f nc, .slice ra Q7h rc]
scoped notation "Q4e" => (hdC (qz9 H' 4 g.out g.sum))
scoped notation "Q4f" => ((w3.setCell ⟨Q7b + 1 + 1, 11, none⟩ (.int .i64 A.nodes[xk].head)).setCell ⟨Q7b + 1 + 1, 0, none⟩ (.int .i64 3))
scoped notation "Q4g" => ((w.alloc Q0d).alloc (.cells Q00 53))
scoped notation "Q4h" => (.slice a3 W.A.vers.length c3)
scoped notation "Q4i" => (.slice (some ⟨g, 0, none⟩) 0 0)
scoped notation "Q4j" => #[.int .i64 xN, .int .i64 y, .int .i64 z, .int .i64 uN]
scoped notation "Q4k" => #[.int .i64 0, .int .i64 0, .int .i64 0]
scoped notation "Q4l" => [.int .i64 A.vers[v].next, .bool A.vers[v].gone, .int .i64 A.vers[v].stamp, .int .i64 A.vers[v].prev, .int .i64 A.vers[v].kind]
scoped notation "Q4m" => (.slice (some ⟨sg, 0, none⟩) xN sc)
scoped notation "Q4n" => (.slice (some ⟨gb, 0, none⟩) uN uN)
scoped notation "Q4o" => #[.int .i64 0, .int .i64 0, .int .i64 0, .int .i64 0]
scoped notation "Q4p" => (((((w2.setCell ⟨Q7b + 1, 0, none⟩ (.int .i64 Q7m)).setCell ⟨Q7b + 1, 1, none⟩ Q1c).setCell ⟨Q7b + 1, 2, none⟩ Q1b).setCell ⟨Q7b + 1, 3, none⟩ Q1m).setCell ⟨Q7b + 1, 4, none⟩ Q1d)
scoped notation "Q4q" => (qz16 x y z u A h qz21 false me clock)
scoped notation "Q4r" => #[.agg Q02, .agg (hdC h).toArray]
scoped notation "Q4s" => (qzc Q7m Q0u Q0s Q0v Q14 h d tk)
scoped notation "Q4t" => (.slice (some ⟨vb, 0, none⟩) 1 1)
scoped notation "Q4u" => (.slice (some ⟨nb, 0, none⟩) 1 1)
scoped notation "Q4v" => ((w.alloc (.cells Q06 28)).alloc Q0d)
scoped notation "Q4w" => (hdC (qz3q A H' m.next))
scoped notation "Q4x" => #[.int .i64 h.x_, .int .i64 h.ver, .int .i64 h.cam, .int .i64 h.camAt, .int .i64 h.pred, .int .i64 h.predVer, .int .i64 h.curr, .int .i64 h.currVer, .int .i64 h.new_, .int .i64 h.least, .int .i64 h.index, .int .i64 h.round]
scoped notation "Q4y" => (w.alloc (.cells Q06 28))
scoped notation "Q4z" => [.int .i64 As.camera, .slice sa sl0 sc, .slice ga gl0 gc, .slice na nl0 nc, .slice ra rl0 rc]
scoped notation "Q50" => #[.pointer (some ⟨b, 0, none⟩)]
scoped notation "Q51" => (((w3.setCells (Q7b) 0 Q0q).setCells (Q7b + 1) 0 Q0j).setCells (Q7b + 1 + 1) 0 (hdC hd))
scoped notation "Q52" => ((w2.alloc (.cells Q03 38)).setCells Q7x 0 (Q0f).toArray.toList)
scoped notation "Q53" => #[.agg Q06, .agg Q02, .int .i64 me, .agg (hdC h).toArray, .int .i64 clk]
scoped notation "Q54" => #[.agg Q06, .agg Q02, .int .i64 k, .agg (hdC hd).toArray, .int .i64 clk]
scoped notation "Q55" => (.slice a4 Q7s c4)
scoped notation "Q56" => (qzc Q7m Q0g Q09 Q0c Q0m h d tk)
scoped notation "Q57" => (.slice na2 (Q7f + 1) nc2)
scoped notation "Q58" => [.int .i64 Q7m, s, g, n, r]
scoped notation "Q59" => ((((w2.setCell ⟨Q7b + 1, 0, none⟩ (.int .i64 Q7m)).setCell ⟨Q7b + 1, 1, none⟩ Q1c).setCell ⟨Q7b + 1, 2, none⟩ Q1b).setCell ⟨Q7b + 1, 3, none⟩ Q1m)
scoped notation "Q5a" => (.slice (some ⟨hb, ho, none⟩) Q7s c4)
scoped notation "Q5b" => [.int .i64 En.kind, .int .i64 En.key, .int .i64 En.value, .int .i64 En.stamp, .int .i64 En.clock]
scoped notation "Q5c" => (qzc Q7m Q1c Q1b Q39 Q1d (qz9 h 2 A2.nodes[mk].value 0) d tk)
scoped notation "Q5d" => [.int .i64 Q7m, .slice a0 Q7w c0, .slice a1 Q7v c1, .slice (some ⟨bn, on, none⟩) Q7f c2, .slice (some ⟨bb, off, none⟩) Q7h c3]
scoped notation "Q5e" => [.int .i64 c.proc, .int .i64 c.code, .int .i64 c.key, .int .i64 c.value, .int .i64 c.begin, .int .i64 c.end_, .int .i64 c.reply, .int .i64 c.out, .int .i64 c.sum, .int .i64 c.held]
scoped notation "Q5f" => (.slice a7 Q7z c7)
scoped notation "Q5g" => (.slice a6 Q82 c6)
scoped notation "Q5h" => (.slice a5 Q7y c5)
scoped notation "Q5i" => (qzc (Q7m + 1) Q0g Q09 Q0c Q0m (qz9 H' 4 h.cam 0) d true)
scoped notation "Q5j" => (((w1.alloc Q15).alloc (.cells Q0h 33)).alloc (.cells Q00 53))
scoped notation "Q5k" => (wq.setCell ⟨bv, 2, none⟩ (.int .i64 (-1)))
scoped notation "Q5l" => #[.agg (hdC Rr).toArray, .int .i64 cd]
scoped notation "Q5m" => (wdC x y z u W'.A.camera s' g' n' r' hs' cs' ds' ts' W'.now)
scoped notation "Q5n" => (qz6t k h Hn (W.now + 1))
scoped notation "Q5o" => [.int .i64 m.next, .bool m.gone, .int .i64 m.stamp, .int .i64 m.prev, .int .i64 m.kind]
scoped notation "Q5p" => ((w.alloc Q15).alloc (.cells Q0h 33))
scoped notation "Q5q" => (wq.setCell ⟨bv, 2, none⟩ (.int .i64 sa))
scoped notation "Q5r" => (w4.setCells Q7x 0 (ddC (qz9g A h)))
scoped notation "Q5s" => #[.int .i64 Q7m, .slice sa Q7w sc, .slice ga Q7v gc, .slice (some ⟨nb, 0, none⟩) Q7f nc, .slice ra2 (Q7h + 1) rc2]
scoped notation "Q5t" => (qzc Q7m Q0b Q09 Q0e Q05 (onH As h) (qz3p As h) tk)
scoped notation "Q5u" => (qz43 k 0 (Array.replicate ops.size false))
scoped notation "Q5v" => (hdC (qz9 H' 2 A.nodes[n].value 0))
scoped notation "Q5w" => #[.int .i64 W.A.camera, s, g, n, r]
scoped notation "Q5x" => [.int .i64 A.nodes[n].key, .int .i64 A.nodes[n].value, .int .i64 A.nodes[n].head]
scoped notation "Q5y" => (w0.alloc (.cells Q00 53))
scoped notation "Q5z" => (.cells (qzc Q7m s2 g2 n2 r2 h d tk).toArray 59)
scoped notation "Q60" => (.cells (qzc Q7m s1 g1 n1 r1 h d tk).toArray 59)
scoped notation "Q61" => #[.int .i64 (aimI h), .bool false, .int .i64 0, .int .i64 (-1), .int .i64 0]
scoped notation "Q62" => (Q7b + 1 = Q7b + 1 + 1)
scoped notation "Q63" => (.slice (some ⟨hg, 0, none⟩) xN hc)
scoped notation "Q64" => (qzc Q7m Q0g Q09 Q0c Q0m (qz9 H' 4 0 0) d tk)
scoped notation "Q65" => (qz2g A h tk me = Q7m)
scoped notation "Q66" => (.cells (madeCells #[.pointer none] l.length) 177)
scoped notation "Q67" => (.cells (madeCells #[.pointer none] l.length) 149)
scoped notation "Q68" => (Q7b + 1 = Q7b)
scoped notation "Q69" => (qzc Q7m Q0u Q0s Q0v Q1n (qz9 h 7 0 0) d tk)
scoped notation "Q6a" => (qzc Q7m Q0g Q09 Q0c Q0m (qz9 h 6 0 0) d tk)
scoped notation "Q6b" => (.cells #[.int .i64 Q7m, s2, g2, n2, r2] 33)
scoped notation "Q6c" => (.cells #[.int .i64 Q7m, s1, g1, n1, r1] 33)
scoped notation "Q6d" => #[.int .i64 Q7m, .slice sa Q7w sc, .slice ga Q7v gc, .slice na Q7f nc, .slice ra Q7h rc]
scoped notation "Q6e" => (qzc Q7m Q0b Q09 Q0c Q05 (qz57 As H') d tk)
scoped notation "Q6f" => (.slice ta2 (Q7z + 1) tc2)
scoped notation "Q6g" => (.slice da2 (Q82 + 1) dc2)
scoped notation "Q6h" => (w4.setCells Q7b 0 vs)
scoped notation "Q6i" => (qzc Q7m Q0u Q0s Q0v Q1n (useH A H') d tk)
scoped notation "Q6j" => (qz5t wr.heap.size x y z u W a0 a1 a2 a3 a4 a5 a6 a7 c0 c1 c2 c3 c4 c5 c6 c7 k hd wr (Q7l _) V1.small P.is hkl hhd.out hat2)
scoped notation "Q6k" => (w2.alloc (Obj.cells Q10 38))
scoped notation "Q6l" => #[.agg (hdC h).toArray, .int .i64 rp, .int .i64 ot, .int .i64 sm]
scoped notation "Q6m" => (qzc cam s g n r h d tk)
scoped notation "Q6n" => (qz1f z A h.pred h.predVer (newI h) false 1)
scoped notation "Q6o" => (.cells (grC h).toArray 113)
scoped notation "Q6p" => #[.pointer (some ⟨b, 0, none⟩), .int .i64 lo, .int .i64 hi]
scoped notation "Q6q" => (w0.setCell ⟨Q7b + 1, 17, none⟩ (.int .i64 h.ver))
scoped notation "Q6r" => #[.agg Q06, .agg (hdC h).toArray]
scoped notation "Q6s" => (.cells (hdC g).toArray 53)
scoped notation "Q6t" => (.cells (hdC (qz9 h rp ot sm)).toArray 53)
scoped notation "Q6u" => ((wr.alloc (.cells Q24 65)).setCells wr.heap.size 0 (vrC x9))
scoped notation "Q6v" => (w2.setCells Q7k 0 Q1e)
scoped notation "Q6w" => (qza4 base A h d tk _ _ _ _ _ (Q7u hbase S0.but.size) hA' S0.own x y z u hOk R.p0 R.p1 R.c0 R.c1 R.r0 R.r1)
scoped notation "Q6x" => (qz5 (qz5 (qz5 F0 _ _) _ _) _ _)
scoped notation "Q6y" => (qzb8 Q7k A h _ _ _ _ _ _ _ _ _ (Q7l _) hA' S1.is x y z u hOk hv0 hv1 hx0 hx1 hcu ho0 ho1 hs0 hs1)
scoped notation "Q6z" => (w0.alloc (.cells Q17 65))
scoped notation "Q70" => (.cells (madeCells #[Value.int IntKind.i64 0] l.length) 2)
scoped notation "Q71" => (.cells (Q28).toArray 59)
scoped notation "Q72" => #[.pointer (some ⟨b + 2, 0, none⟩)]
scoped notation "Q73" => #[.pointer (some ⟨b + 1, 0, none⟩)]
scoped notation "Q74" => ((w1.alloc Q15).alloc (.cells Q0h 33))
scoped notation "Q75" => (w9.setCell ⟨bh, 5, none⟩ (.int .i64 (W.now + 1)))
scoped notation "Q76" => (qzt H' 4 h.out h.sum _)
scoped notation "Q77" => (qzc Q7m s g n r h d tk)
scoped notation "Q78" => (qzc W.A.camera s g n r h qz21 false)
scoped notation "Q79" => ((w.alloc Q0d).alloc (.cells Q13 57))
scoped notation "Q7a" => (.cells #[.int .i64 next, .bool gone, .int .i64 (-1), .int .i64 A.nodes[k].head, .int .i64 kind] 65)
set_option hygiene true
section
theorem own : ownKnob Tryz.prog.godebug = none := by kernel_rfl
theorem qzgx : laidOutB Tryz.prog = true := by kernel_rfl
def inB (n lo hi : Int) : Bool := decide (lo <= n) && decide (n <= hi)
theorem qz18 (n lo hi : Int) : inB n lo hi = true ↔ lo <= n /\ n <= hi := by simp [inB]
theorem qz7o {n lo hi : Int} (h1 : lo <= n) (h2 : n <= hi) : inB n lo hi = true := (qz18 n lo hi).2 ⟨h1, h2⟩
theorem qzch {n lo hi : Int} (h : ¬ (lo <= n /\ n <= hi)) : inB n lo hi = false := by
 cases e : inB n lo hi
 ·rfl
 ·exact absurd ((qz18 n lo hi).1 e) h
theorem qzl (n lo hi : Int) (w : World) :
  Calls Tryz.prog 105 #[.int .i64 n, .int .i64 lo, .int .i64 hi] w fun e w' => e = .returned (.bool (inB n lo hi)) /\ w' = w := by
 by_cases h1 : lo <= n
 ·by_cases h2 : n <= hi
  ·go_enter Tryz.func105, Tryz.ntmps105
   go_wp2
   go_ret
   exact ⟨by rw [qz7o h1 h2]; rfl, rfl⟩
  ·go_enter Tryz.func105, Tryz.ntmps105
   go_wp2
   go_ret
   exact ⟨by rw [qzch (by omega)]; rfl, rfl⟩
 ·go_enter Tryz.func105, Tryz.ntmps105
  go_wp2
  go_ret
  exact ⟨by rw [qzch (by omega)]; rfl, rfl⟩
theorem qzg (n lo hi : Int) (w : World) :
  Calls Tryz.prog 63 #[.int .i64 n, .int .i64 lo, .int .i64 hi] w fun e w' => e = .returned (.bool (inB n lo hi)) /\ w' = w := by
 by_cases h1 : lo <= n
 ·by_cases h2 : n <= hi
  ·go_enter Tryz.func63, Tryz.ntmps63
   go_wp2
   go_ret
   exact ⟨by rw [qz7o h1 h2]; rfl, rfl⟩
  ·go_enter Tryz.func63, Tryz.ntmps63
   go_wp2
   go_ret
   exact ⟨by rw [qzch (by omega)]; rfl, rfl⟩
 ·go_enter Tryz.func63, Tryz.ntmps63
  go_wp2
  go_ret
  exact ⟨by rw [qzch (by omega)]; rfl, rfl⟩
theorem qz3s (n : Int) (w : World) :
  Calls Tryz.prog 144 #[.int .i64 n] w fun e w' => e = .returned (.bool (inB n 0 63)) /\ w' = w := by
 go_enter Tryz.func144, Tryz.ntmps144
 go_wp2_with (go_at_call 105; refine (qzl _ _ _ _).mono ?_; rintro e w' ⟨rfl, rfl⟩)
 go_ret
 exact ⟨rfl, rfl⟩
theorem qzs (n : Int) (w : World) :
  Calls Tryz.prog 123 #[.int .i64 n] w fun e w' => e = .returned (.bool (inB n 0 63)) /\ w' = w := by
 go_enter Tryz.func123, Tryz.ntmps123
 go_wp2_with (go_at_call 63; refine (qzg _ _ _ _).mono ?_; rintro e w' ⟨rfl, rfl⟩)
 go_ret
 exact ⟨rfl, rfl⟩
def qz42 (a b c d : Int) : Bool := inB a 1 8 && inB b 1 60 && inB c 1 400 && inB d 1 8
theorem qz2h (a b c d : Int) : qz42 a b c d = true ↔ (1 <= a /\ a <= 8) /\ (1 <= b /\ b <= 60) /\ (1 <= c /\ c <= 400) /\ (1 <= d /\ d <= 8) := by
 unfold qz42
 simp only [Bool.and_eq_true, qz18]
 constructor
 ·rintro ⟨⟨⟨h1, h2⟩, h3⟩, h4⟩
  exact ⟨h1, h2, h3, h4⟩
 ·rintro ⟨h1, h2, h3, h4⟩
  exact ⟨⟨⟨h1, h2⟩, h3⟩, h4⟩
theorem qz6v (a b c d : Int) (w : World) :
  Calls Tryz.prog 103 #[.agg #[.int .i64 a, .int .i64 b, .int .i64 c, .int .i64 d]] w fun e w' => e = .returned (.bool (qz42 a b c d)) /\ Below Q7b w w' := by
 cases h1 : inB a 1 8
 ·have hp : qz42 a b c d = false := by simp [qz42, h1]
  go_enter Tryz.func103, Tryz.ntmps103
  go_wp2_with (go_at_call 105; refine (qzl _ _ _ _).mono ?_; rintro e w' ⟨rfl, rfl⟩)
  go_ret
  exact ⟨by rw [hp]; rfl, (Q7g _ _).alloc (Q7l _) _⟩
 ·cases h2 : inB b 1 60
  ·have hp : qz42 a b c d = false := by simp [qz42, h1, h2]
   go_enter Tryz.func103, Tryz.ntmps103
   go_wp2_with (go_at_call 105; refine (qzl _ _ _ _).mono ?_; rintro e w' ⟨rfl, rfl⟩)
   go_ret
   exact ⟨by rw [hp]; rfl, (Q7g _ _).alloc (Q7l _) _⟩
  ·cases h3 : inB c 1 400
   ·have hp : qz42 a b c d = false := by simp [qz42, h1, h2, h3]
    go_enter Tryz.func103, Tryz.ntmps103
    go_wp2_with (go_at_call 105; refine (qzl _ _ _ _).mono ?_; rintro e w' ⟨rfl, rfl⟩)
    go_ret
    exact ⟨by rw [hp]; rfl, (Q7g _ _).alloc (Q7l _) _⟩
   ·cases h4 : inB d 1 8
    ·have hp : qz42 a b c d = false := by simp [qz42, h1, h2, h3, h4]
     go_enter Tryz.func103, Tryz.ntmps103
     go_wp2_with (go_at_call 105; refine (qzl _ _ _ _).mono ?_; rintro e w' ⟨rfl, rfl⟩)
     go_ret
     exact ⟨by rw [hp]; rfl, (Q7g _ _).alloc (Q7l _) _⟩
    ·have hp : qz42 a b c d = true := by simp [qz42, h1, h2, h3, h4]
     go_enter Tryz.func103, Tryz.ntmps103
     go_wp2_with (go_at_call 105; refine (qzl _ _ _ _).mono ?_; rintro e w' ⟨rfl, rfl⟩)
     go_ret
     exact ⟨by rw [hp]; rfl, (Q7g _ _).alloc (Q7l _) _⟩
theorem qz22 (a b c d : Int) (w : World) :
  Calls Tryz.prog 78 #[.agg #[.int .i64 a, .int .i64 b, .int .i64 c, .int .i64 d]] w fun e w' => e = .returned (.bool (qz42 a b c d)) /\ Below Q7b w w' := by
 cases h1 : inB a 1 8
 ·have hp : qz42 a b c d = false := by simp [qz42, h1]
  go_enter Tryz.func78, Tryz.ntmps78
  go_wp2_with (go_at_call 63; refine (qzg _ _ _ _).mono ?_; rintro e w' ⟨rfl, rfl⟩)
  go_ret
  exact ⟨by rw [hp]; rfl, (Q7g _ _).alloc (Q7l _) _⟩
 ·cases h2 : inB b 1 60
  ·have hp : qz42 a b c d = false := by simp [qz42, h1, h2]
   go_enter Tryz.func78, Tryz.ntmps78
   go_wp2_with (go_at_call 63; refine (qzg _ _ _ _).mono ?_; rintro e w' ⟨rfl, rfl⟩)
   go_ret
   exact ⟨by rw [hp]; rfl, (Q7g _ _).alloc (Q7l _) _⟩
  ·cases h3 : inB c 1 400
   ·have hp : qz42 a b c d = false := by simp [qz42, h1, h2, h3]
    go_enter Tryz.func78, Tryz.ntmps78
    go_wp2_with (go_at_call 63; refine (qzg _ _ _ _).mono ?_; rintro e w' ⟨rfl, rfl⟩)
    go_ret
    exact ⟨by rw [hp]; rfl, (Q7g _ _).alloc (Q7l _) _⟩
   ·cases h4 : inB d 1 8
    ·have hp : qz42 a b c d = false := by simp [qz42, h1, h2, h3, h4]
     go_enter Tryz.func78, Tryz.ntmps78
     go_wp2_with (go_at_call 63; refine (qzg _ _ _ _).mono ?_; rintro e w' ⟨rfl, rfl⟩)
     go_ret
     exact ⟨by rw [hp]; rfl, (Q7g _ _).alloc (Q7l _) _⟩
    ·have hp : qz42 a b c d = true := by simp [qz42, h1, h2, h3, h4]
     go_enter Tryz.func78, Tryz.ntmps78
     go_wp2_with (go_at_call 63; refine (qzg _ _ _ _).mono ?_; rintro e w' ⟨rfl, rfl⟩)
     go_ret
     exact ⟨by rw [hp]; rfl, (Q7g _ _).alloc (Q7l _) _⟩
theorem qzhr {W w1 : World} (hb : Below W.heap.size W w1) : (∀ b o, b < W.heap.size -> w1.cell? ⟨b, o, none⟩ = W.cell? ⟨b, o, none⟩) /\ (∀ b o, b < W.heap.size -> w1.frozen? ⟨b, o, none⟩ = W.frozen? ⟨b, o, none⟩) :=
 ⟨fun b o h => hb.cell (p := ⟨b, o, none⟩) h, fun b o h => hb.frozen (p := ⟨b, o, none⟩) h⟩
def qz4g (W : World) (b : Nat) (x y z u : Int) : Prop :=
 W.cell? ⟨b, 0, none⟩ = some (.int .i64 x) /\ W.cell? ⟨b, 1, none⟩ = some (.int .i64 y) /\ W.cell? ⟨b, 2, none⟩ = some (.int .i64 z) /\ W.cell? ⟨b, 3, none⟩ = some (.int .i64 u)
theorem qz1w (w : World) (x y z u : Int) (T : TypeId) : qz4g (w.alloc (.cells Q06 T)) Q7b x y z u := by
 refine ⟨?_, ?_, ?_, ?_⟩ <;> simp
theorem qz4g.below {W w1 : World} {b : Nat} {x y z u : Int} (h : qz4g W b x y z u) (hb : Below W.heap.size W w1) (hlt : b < W.heap.size) : qz4g w1 b x y z u := by
 obtain ⟨hc, _⟩ := qzhr hb
 obtain ⟨h0, h1, h2, h3⟩ := h
 exact ⟨(hc b 0 hlt).trans h0, (hc b 1 hlt).trans h1, (hc b 2 hlt).trans h2, (hc b 3 hlt).trans h3⟩
def qzfp (a b c d n : Int) : Bool := qz42 a b c d && inB n 0 (a - 1)
theorem qzdj (x y z u n : Int) (w : World) :
  Calls Tryz.prog 58 #[.agg Q06, .int .i64 n] w fun e w' => e = .returned (.bool (qzfp x y z u n)) /\ Below Q7b w w' := by
 have P0 := qz1w w x y z u 28
 cases h : qz42 x y z u
 ·have hp : qzfp x y z u n = false := by simp [qzfp, h]
  go_enter Tryz.func58, Tryz.ntmps58
  go_wp2_with fail
  refine (qz6v _ _ _ _ _).mono ?_
  rintro e w1 ⟨rfl, hb1⟩
  go_wp2
  go_ret
  exact ⟨by rw [hp]; rfl, ((Q7g _ _).alloc (Q7l _) _).trans (hb1.mono (by simp))⟩
 ·have hp : qzfp x y z u n = inB n 0 (x - 1) := by simp [qzfp, h]
  have hr := (qz2h x y z u).1 h
  have hx1 : 1 <= x := hr.1.1
  have hx2 : x <= 8 := hr.1.2
  clear hr
  go_enter Tryz.func58, Tryz.ntmps58
  go_wp2_with fail
  refine (qz6v _ _ _ _ _).mono ?_
  rintro e w1 ⟨rfl, hb1⟩
  obtain ⟨c0, c1, c2, c3⟩ := P0.below hb1 (by simp)
  go_wp2_with fail
  refine (qzl _ _ _ _).mono ?_
  rintro e w2 ⟨rfl, rfl⟩
  go_wp2
  go_ret
  exact ⟨by rw [hp]; rfl, ((Q7g _ _).alloc (Q7l _) _).trans (hb1.mono (by simp))⟩
theorem qzgo {k u : Int} (h0 : 0 <= k) (h1 : k <= 63) (h2 : 1 <= u) (h3 : u <= 8) : 0 <= k * u /\ k * u <= 504 := by
 constructor
 ·exact Int.mul_nonneg h0 (by omega)
 ·have a : k * u <= 63 * u := Int.mul_le_mul_of_nonneg_right h1 (by omega)
  omega
def qz4s (x y z u k : Int) : Int := if qz42 x y z u && inB k 0 63 then k * u / 64 else -1
def qz4m (x y z u k : Int) : Int := if qz42 x y z u && inB k 0 63 then k * u / 64 - 1 else -1
theorem qzbf {x y z u k : Int} (h1 : qz42 x y z u = true) (h2 : inB k 0 63 = true) : qz4s x y z u k = k * u / 64 := by simp [qz4s, h1, h2]
theorem qzed {x y z u k : Int} (h1 : qz42 x y z u = true) (h2 : inB k 0 63 = true) : qz4m x y z u k = k * u / 64 - 1 := by simp [qz4m, h1, h2]
theorem qzdo {x y z u k : Int} (h : (qz42 x y z u && inB k 0 63) = false) : qz4s x y z u k = -1 := by simp only [qz4s, h]; rfl
theorem qzd7 {x y z u k : Int} (h : (qz42 x y z u && inB k 0 63) = false) : qz4m x y z u k = -1 := by simp only [qz4m, h]; rfl
theorem qzbm {x y z u k : Int} (h1 : qz42 x y z u = true) (h2 : inB k 0 63 = true) : 0 <= k /\ k <= 63 /\ 1 <= u /\ u <= 8 := by
 have a := (qz2h x y z u).1 h1
 have b := (qz18 k 0 63).1 h2
 exact ⟨b.1, b.2, a.2.2.2.1, a.2.2.2.2⟩
theorem qz5h (x y z u k : Int) (w : World) :
  Calls Tryz.prog 170 #[.agg Q06, .int .i64 k] w fun e w' => e = .returned (.int .i64 (qz4s x y z u k)) /\ Below Q7b w w' := by
 have P0 := qz1w w x y z u 28
 cases h1 : qz42 x y z u
 ·have hv : qz4s x y z u k = -1 := qzdo (by simp [h1])
  go_enter Tryz.func170, Tryz.ntmps170
  go_wp2_with fail
  refine (qz22 _ _ _ _ _).mono ?_
  rintro e w1 ⟨rfl, hb1⟩
  go_wp2
  go_ret
  exact ⟨by rw [hv]; rfl, ((Q7g _ _).alloc (Q7l _) _).trans (hb1.mono (by simp))⟩
 ·cases h2 : inB k 0 63
  ·have hv : qz4s x y z u k = -1 := qzdo (by simp [h2])
   go_enter Tryz.func170, Tryz.ntmps170
   go_wp2_with fail
   refine (qz22 _ _ _ _ _).mono ?_
   rintro e w1 ⟨rfl, hb1⟩
   go_wp2_with (go_at_call 123; refine (qzs _ _).mono ?_; rintro e w' ⟨rfl, rfl⟩)
   go_ret
   exact ⟨by rw [hv]; rfl, ((Q7g _ _).alloc (Q7l _) _).trans (hb1.mono (by simp))⟩
  ·obtain ⟨b0, b1, b2, b3⟩ := qzbm h1 h2
   obtain ⟨m0, m1⟩ := qzgo b0 b1 b2 b3
   have Hv : Hid (qz4s x y z u k = k * u / 64) := qzbf h1 h2
   go_enter Tryz.func170, Tryz.ntmps170
   go_wp2_with fail
   refine (qz22 _ _ _ _ _).mono ?_
   rintro e w1 ⟨rfl, hb1⟩
   have hz1 := hb1.size
   simp at hz1
   obtain ⟨c0, c1, c2, c3⟩ := P0.below hb1 (by simp)
   go_wp2_with (go_at_call 123; refine (qzs _ _).mono ?_; rintro e w' ⟨rfl, rfl⟩)
   go_ret
   exact ⟨by rw [Hv.out]; rfl, ((Q7g _ _).alloc (Q7l _) _).trans (hb1.mono (by simp))⟩
theorem qz84 (x y z u k : Int) (w : World) :
  Calls Tryz.prog 175 #[.agg Q06, .int .i64 k] w fun e w' => e = .returned (.int .i64 (qz4m x y z u k)) /\ Below Q7b w w' := by
 have P0 := qz1w w x y z u 28
 cases h1 : qz42 x y z u
 ·have hv : qz4m x y z u k = -1 := qzd7 (by simp [h1])
  go_enter Tryz.func175, Tryz.ntmps175
  go_wp2_with fail
  refine (qz22 _ _ _ _ _).mono ?_
  rintro e w1 ⟨rfl, hb1⟩
  go_wp2
  go_ret
  exact ⟨by rw [hv]; rfl, ((Q7g _ _).alloc (Q7l _) _).trans (hb1.mono (by simp))⟩
 ·cases h2 : inB k 0 63
  ·have hv : qz4m x y z u k = -1 := qzd7 (by simp [h2])
   go_enter Tryz.func175, Tryz.ntmps175
   go_wp2_with fail
   refine (qz22 _ _ _ _ _).mono ?_
   rintro e w1 ⟨rfl, hb1⟩
   go_wp2_with (go_at_call 123; refine (qzs _ _).mono ?_; rintro e w' ⟨rfl, rfl⟩)
   go_ret
   exact ⟨by rw [hv]; rfl, ((Q7g _ _).alloc (Q7l _) _).trans (hb1.mono (by simp))⟩
  ·obtain ⟨b0, b1, b2, b3⟩ := qzbm h1 h2
   obtain ⟨m0, m1⟩ := qzgo b0 b1 b2 b3
   have Hv : Hid (qz4m x y z u k = k * u / 64 - 1) := qzed h1 h2
   go_enter Tryz.func175, Tryz.ntmps175
   go_wp2_with fail
   refine (qz22 _ _ _ _ _).mono ?_
   rintro e w1 ⟨rfl, hb1⟩
   have hz1 := hb1.size
   simp at hz1
   obtain ⟨c0, c1, c2, c3⟩ := P0.below hb1 (by simp)
   go_wp2_with (go_at_call 123; refine (qzs _ _).mono ?_; rintro e w' ⟨rfl, rfl⟩)
   refine (qz5h _ _ _ _ _ _).mono ?_
   rintro e w2 ⟨rfl, hb2⟩
   rw [qzbf h1 h2]
   go_wp2
   go_ret
   exact ⟨by rw [Hv.out]; rfl, (((Q7g _ _).alloc (Q7l _) _).trans (hb1.mono (by simp))).trans (hb2.mono (by omega))⟩
end
section
theorem qz9t (n : Int) : 0 <= bits .and .u64 n 16777215 /\ bits .and .u64 n 16777215 <= 16777215 := by
 have h127 : (BitVec.ofInt 64 16777215).toNat = 2 ^ 24 - 1 := by decide
 have key : (BitVec.ofInt 64 n &&& BitVec.ofInt 64 16777215).toNat = (n % ((2 ^ 64 : Nat) : Int)).toNat % 2 ^ 24 := by
  rw [BitVec.toNat_and, BitVec.toNat_ofInt, h127, Nat.and_two_pow_sub_one_eq_mod]
 have e : bits .and .u64 n 16777215 = IntKind.u64.wrap ((BitVec.ofInt 64 n &&& BitVec.ofInt 64 16777215).toNat : Nat) := rfl
 rw [e, key]
 have w : ∀ m : Int, IntKind.u64.wrap m = m % 18446744073709551616 := fun m => by simp [IntKind.wrap, IntKind.bits, IntKind.signed]
 rw [w]
 omega
theorem qz8u (n : Int) : 0 <= bits .and .i64 n 255 /\ bits .and .i64 n 255 <= 255 := by
 have h127 : (BitVec.ofInt 64 255).toNat = 2 ^ 8 - 1 := by decide
 have key : (BitVec.ofInt 64 n &&& BitVec.ofInt 64 255).toNat = (n % ((2 ^ 64 : Nat) : Int)).toNat % 2 ^ 8 := by
  rw [BitVec.toNat_and, BitVec.toNat_ofInt, h127, Nat.and_two_pow_sub_one_eq_mod]
 have e : bits .and .i64 n 255 = IntKind.i64.wrap ((BitVec.ofInt 64 n &&& BitVec.ofInt 64 255).toNat : Nat) := rfl
 rw [e, key, IntKind.wrap_i64]
 omega
theorem qzdr (n : Int) : 0 <= bits .and .i64 n 1073741823 /\ bits .and .i64 n 1073741823 <= 1073741823 := by
 have h127 : (BitVec.ofInt 64 1073741823).toNat = 2 ^ 30 - 1 := by decide
 have key : (BitVec.ofInt 64 n &&& BitVec.ofInt 64 1073741823).toNat = (n % ((2 ^ 64 : Nat) : Int)).toNat % 2 ^ 30 := by
  rw [BitVec.toNat_and, BitVec.toNat_ofInt, h127, Nat.and_two_pow_sub_one_eq_mod]
 have e : bits .and .i64 n 1073741823 = IntKind.i64.wrap ((BitVec.ofInt 64 n &&& BitVec.ofInt 64 1073741823).toNat : Nat) := rfl
 rw [e, key, IntKind.wrap_i64]
 omega
end
section
open Go.RowKit
structure Only (b : Nat) (w w' : World) : Prop where
 os : w'.os = w.os
 tape : w'.tape = w.tape
 output : w'.output = w.output
 size : Q7b <= w'.heap.size
 block : ∀ k, k < Q7b -> k ≠ b -> w'.heap[k]? = w.heap[k]?
theorem Only.refl (b : Nat) (w : World) : Only b w w := ⟨rfl, rfl, rfl, Q7l _, fun _ _ _ => rfl⟩
theorem Only.trans {b : Nat} {x y z : World} (h : Only b x y) (k : Only b y z) : Only b x z :=
 ⟨k.os.trans h.os, k.tape.trans h.tape, k.output.trans h.output, Q7u h.size k.size, fun i hi hb => (k.block i (Q7o hi h.size) hb).trans (h.block i hi hb)⟩
theorem Only.alloc {b : Nat} {x w : World} (h : Only b x w) (o : Obj) : Only b x (w.alloc o) :=
 h.trans ⟨rfl, rfl, rfl, by simp, fun k hk _ => Below.heap_alloc _ _ _ hk⟩
theorem Only.setCell {b : Nat} {x w : World} (h : Only b x w) {p : Addr} (hp : p.block = b ∨ x.heap.size <= p.block) (u : Value) : Only b x (w.setCell p u) :=
 ⟨h.os, h.tape, h.output, by simpa [World.setCell] using h.size, fun k hk hb => (Below.heap_setCell _ _ _ _ (by omega)).trans (h.block k hk hb)⟩
theorem Only.of_below {b : Nat} {w w' : World} (h : Below Q7b w w') : Only b w w' := ⟨h.os, h.tape, h.output, h.size, fun k hk _ => h.block k hk⟩
theorem Only.below {b B : Nat} {w w' : World} (h : Only b w w') (hb : B <= b) (hB : B <= Q7b) : Below B w w' := ⟨h.os, h.tape, h.output, h.size, fun k hk => h.block k (by omega) (by omega)⟩
theorem Only.cell {b : Nat} {w w' : World} (h : Only b w w') {p : Addr} (h1 : p.block < Q7b) (h2 : p.block ≠ b) : w'.cell? p = w.cell? p := World.cell?_of_block (w := w) (h.block p.block h1 h2)
theorem Only.frozen {b : Nat} {w w' : World} (h : Only b w w') {p : Addr} (h1 : p.block < Q7b) (h2 : p.block ≠ b) : w'.frozen? p = w.frozen? p := World.frozen?_of_block (w := w) (h.block p.block h1 h2)
theorem qzi (b : Nat) : ∀ (vs : List Value) (o : Nat) (w : World), Only b w (w.setCells b o vs)
 | [], _, w => Only.refl b w
 | v :: vs, o, w => ((Only.refl b w).setCell (p := ⟨b, o, none⟩) (Or.inl rfl) v).trans (qzi b vs (o + 1) (w.setCell ⟨b, o, none⟩ v))
structure But (S : Nat -> Prop) (w w' : World) : Prop where
 os : w'.os = w.os
 tape : w'.tape = w.tape
 output : w'.output = w.output
 size : Q7b <= w'.heap.size
 block : ∀ k, k < Q7b -> ¬ S k -> w'.heap[k]? = w.heap[k]?
theorem But.trans {S : Nat -> Prop} {x y z : World} (h : But S x y) (k : But S y z) : But S x z :=
 ⟨k.os.trans h.os, k.tape.trans h.tape, k.output.trans h.output, Q7u h.size k.size, fun i hi hb => (k.block i (Q7o hi h.size) hb).trans (h.block i hi hb)⟩
theorem But.of_only {S : Nat -> Prop} {b : Nat} {w w' : World} (h : Only b w w') (hb : S b) : But S w w' := ⟨h.os, h.tape, h.output, h.size, fun k hk hn => h.block k hk (fun e => hn (e ▸ hb))⟩
theorem But.of_below {S : Nat -> Prop} {w w' : World} (h : Below Q7b w w') : But S w w' := ⟨h.os, h.tape, h.output, h.size, fun k hk _ => h.block k hk⟩
theorem But.mono {S S' : Nat -> Prop} {w w' : World} (h : But S w w') (hS : ∀ k, S k -> S' k) : But S' w w' := ⟨h.os, h.tape, h.output, h.size, fun k hk hn => h.block k hk (fun e => hn (hS k e))⟩
theorem But.below {S : Nat -> Prop} {B : Nat} {w w' : World} (h : But S w w') (hB : B <= Q7b) (hS : ∀ k, S k -> B <= k) : Below B w w' := ⟨h.os, h.tape, h.output, h.size, fun k hk => h.block k (by omega) (fun e => by have := hS k e; omega)⟩
theorem But.cell {S : Nat -> Prop} {w w' : World} (h : But S w w') {p : Addr} (h1 : p.block < Q7b) (h2 : ¬ S p.block) : w'.cell? p = w.cell? p := World.cell?_of_block (w := w) (h.block p.block h1 h2)
theorem But.frozen {S : Nat -> Prop} {w w' : World} (h : But S w w') {p : Addr} (h1 : p.block < Q7b) (h2 : ¬ S p.block) : w'.frozen? p = w.frozen? p := World.frozen?_of_block (w := w) (h.block p.block h1 h2)
theorem But.range {S : Nat -> Prop} {w w' : World} (h : But S w w') {b o : Nat} {cs : List Value} (R : w.rangeAt b o cs) (h1 : b < Q7b) (h2 : ¬ S b) : w'.rangeAt b o cs := fun j v hv => (h.cell (p := ⟨b, o + j, none⟩) h1 h2).trans (R j v hv)
theorem But.there {S : Nat -> Prop} {w w' : World} (h : But S w w') {b o n : Nat} (T : w.there b o n) (h1 : b < Q7b) (h2 : ¬ S b) : w'.there b o n := fun j hj => by rw [h.cell (p := ⟨b, o + j, none⟩) h1 h2, h.frozen (p := ⟨b, o + j, none⟩) h1 h2]; exact T j hj
end
section
def qz1p (B : Nat) (w : World) (a : Option Addr) (len : Nat) : Prop :=
 ∀ j, j < len -> ∃ bb off v, a = some ⟨bb, off, none⟩ /\ bb < B /\ w.cell? ⟨bb, off + j, none⟩ = some (.int .u8 v) /\ 0 <= v /\ v <= 255
theorem qz1p.below {B : Nat} {w w' : World} {a : Option Addr} {len : Nat} (h : qz1p B w a len) (hb : Below B w w') : qz1p B w' a len := by
 intro j hj
 obtain ⟨bb, off, v, h1, h2, h3, h4⟩ := h j hj
 exact ⟨bb, off, v, h1, h2, (hb.cell (p := ⟨bb, off + j, none⟩) h2).trans h3, h4⟩
structure qz20 (k : IntKind) (w : World) (b : Nat) (a : Option Addr) (len cap : Nat) (i h : Int) : Prop where
 c0 : w.cell? ⟨b, 0, none⟩ = some (.slice a len cap)
 c1 : w.cell? ⟨b, 1, none⟩ = some (.int .i64 i)
 c2 : w.cell? ⟨b, 2, none⟩ = some (.int k h)
 f1 : w.frozen? ⟨b, 1, none⟩ = false
 f2 : w.frozen? ⟨b, 2, none⟩ = false
 lo : 0 <= i
 hi : i <= len
 blk : b < Q7b
theorem qz20.set2 {k : IntKind} {w : World} {b : Nat} {a : Option Addr} {len cap : Nat} {i h : Int} (D : qz20 k w b a len cap i h) (h' : Int) : qz20 k (w.setCell ⟨b, 2, none⟩ (.int k h')) b a len cap i h' := by
 obtain ⟨c0, c1, c2, f1, f2, lo, hi, blk⟩ := D
 exact ⟨(World.cell?_setCell_other _ _ _ _ (by simp)).trans c0, (World.cell?_setCell_other _ _ _ _ (by simp)).trans c1, World.cell?_setCell_same _ _ _ c2, (World.frozen?_setCell _ _ _ _).trans f1, (World.frozen?_setCell _ _ _ _).trans f2, lo, hi, by rw [World.size_setCell]; exact blk⟩
theorem qz20.set1 {k : IntKind} {w : World} {b : Nat} {a : Option Addr} {len cap : Nat} {i h : Int} (D : qz20 k w b a len cap i h) (hi' : i + 1 <= len) : qz20 k (w.setCell ⟨b, 1, none⟩ (.int .i64 (i + 1))) b a len cap (i + 1) h := by
 obtain ⟨c0, c1, c2, f1, f2, lo, hi, blk⟩ := D
 exact ⟨(World.cell?_setCell_other _ _ _ _ (by simp)).trans c0, World.cell?_setCell_same _ _ _ c1, (World.cell?_setCell_other _ _ _ _ (by simp)).trans c2, (World.frozen?_setCell _ _ _ _).trans f1, (World.frozen?_setCell _ _ _ _).trans f2, by omega, hi', by rw [World.size_setCell]; exact blk⟩
theorem qz20.drewN {k : IntKind} {w : World} {b : Nat} {a : Option Addr} {len cap : Nat} {i h : Int} (D : qz20 k w b a len cap i h) (m : Nat) : qz20 k (w.drewN m) b a len cap i h := by
 obtain ⟨c0, c1, c2, f1, f2, lo, hi, blk⟩ := D
 exact ⟨c0, c1, c2, f1, f2, lo, hi, blk⟩
theorem qz20.only {k : IntKind} {w w' : World} {b c : Nat} {a : Option Addr} {len cap : Nat} {i h : Int} (D : qz20 k w b a len cap i h) (hO : Only c w w') (hne : b ≠ c) : qz20 k w' b a len cap i h := by
 obtain ⟨c0, c1, c2, f1, f2, lo, hi, blk⟩ := D
 exact ⟨(hO.cell (p := ⟨b, 0, none⟩) blk hne).trans c0, (hO.cell (p := ⟨b, 1, none⟩) blk hne).trans c1, (hO.cell (p := ⟨b, 2, none⟩) blk hne).trans c2, (hO.frozen (p := ⟨b, 1, none⟩) blk hne).trans f1, (hO.frozen (p := ⟨b, 2, none⟩) blk hne).trans f2, lo, hi, Q7o blk hO.size⟩
theorem qz20.below {k : IntKind} {w w' : World} {b : Nat} {a : Option Addr} {len cap : Nat} {i h : Int} (D : qz20 k w b a len cap i h) (hb : Below Q7b w w') : qz20 k w' b a len cap i h := by
 obtain ⟨c0, c1, c2, f1, f2, lo, hi, blk⟩ := D
 exact ⟨(hb.cell (p := ⟨b, 0, none⟩) blk).trans c0, (hb.cell (p := ⟨b, 1, none⟩) blk).trans c1, (hb.cell (p := ⟨b, 2, none⟩) blk).trans c2, (hb.frozen (p := ⟨b, 1, none⟩) blk).trans f1, (hb.frozen (p := ⟨b, 2, none⟩) blk).trans f2, lo, hi, Q7o blk hb.size⟩
theorem Only.drewN {b : Nat} {x w : World} (h : Only b x w) (m : Nat) : Only b x (w.drewN m) := ⟨h.os, h.tape, h.output, h.size, h.block⟩
theorem qz4k {n : Int} (x : Int) (hn : 1 <= n) : 0 <= x % n /\ x % n < n :=
 ⟨Int.emod_nonneg x (by omega), Int.emod_lt_of_pos x (by omega)⟩
theorem qzh3 (B b : Nat) (a : Option Addr) (len cap : Nat) (i h n : Int) (w : World) (hB : B <= b) (hlen : len <= 4096) (D : qz20 .u64 w b a len cap i h) (C : qz1p B w a len) (hn1 : 1 <= n) (hn2 : n <= 1000) :
  Calls Tryz.prog 28 #[.pointer (some ⟨b, 0, none⟩), .int .i64 n] w fun e w' => ∃ r i' h', e = .returned (.int .i64 r) /\ 0 <= r /\ r < n /\ qz20 .u64 w' b a len cap i' h' /\ Only b w w' := by
 have D0 := (show Hid _ from D)
 obtain ⟨c0, c1, c2, f1, f2, lo, hi, blk⟩ := D
 by_cases hlt : i < len
 ·obtain ⟨bb, off, v, rfl, hbb, hcv, v0, v1⟩ := C i.toNat (by omega)
  obtain ⟨iN, rfl⟩ := Int.eq_ofNat_of_zero_le lo
  simp only [Int.toNat_natCast] at hcv
  have hcv2 : ∀ h1 : Int, (w.setCell ⟨b, 2, none⟩ (.int .u64 h1)).cell? ⟨bb, off + iN, none⟩ = some (.int .u8 v) := fun h1 => (World.cell?_setCell_other _ _ _ _ (by intro e; have := congrArg Addr.block e; simp at this; omega)).trans hcv
  clear C
  go_enter Tryz.func28, Tryz.ntmps28
  go_wp2
  generalize IntKind.u64.wrap (IntKind.u64.wrap (h * 6364136223846793005) + 1442695040888963407) = h1
  have hm := qz9t (h1 / 8589934592)
  generalize bits BinOp.and IntKind.u64 (h1 / 8589934592) 16777215 = x1 at *
  obtain ⟨hm1, hm2⟩ := hm
  have hx : wrap64 x1 = x1 := by unfold wrap64; omega
  rw [hx]
  clear hx
  go_quiet (fail)
  go_wp2
  go_quiet (fail)
  go_wp2
  go_ret
  exact ⟨_, iN + 1, h1, rfl, (qz4k _ hn1).1, (qz4k _ hn1).2, (((D0.out.set2 h1).drewN _).set1 (by omega)), (((Only.refl b w).setCell (Or.inl rfl) _).drewN _).setCell (Or.inl rfl) _⟩
 ·clear C
  go_enter Tryz.func28, Tryz.ntmps28
  go_wp2
  generalize IntKind.u64.wrap (IntKind.u64.wrap (h * 6364136223846793005) + 1442695040888963407) = h1
  have hm := qz9t (h1 / 8589934592)
  generalize bits BinOp.and IntKind.u64 (h1 / 8589934592) 16777215 = x1 at *
  obtain ⟨hm1, hm2⟩ := hm
  have hx : wrap64 x1 = x1 := by unfold wrap64; omega
  rw [hx]
  clear hx
  go_quiet (fail)
  go_wp2
  go_ret
  exact ⟨_, i, h1, rfl, (qz4k _ hn1).1, (qz4k _ hn1).2, (D0.out.set2 h1).drewN nq, ((Only.refl b w).setCell (Or.inl rfl) _).drewN nq⟩
theorem qz20.alloc_new (k : IntKind) (w : World) (a : Option Addr) (len cap : Nat) (h : Int) (T : TypeId) : qz20 k (w.alloc (.cells #[.slice a len cap, .int .i64 0, .int k h] T)) Q7b a len cap 0 h := by
 refine ⟨?_, ?_, ?_, ?_, ?_, by omega, by omega, by simp⟩ <;> simp
theorem qzfm (a : Option Addr) (len cap : Nat) (w : World) : Calls Tryz.prog 5 #[.slice a len cap] w fun e w' => e = .returned (.bool (decide (4096 < (len : Int)))) /\ w' = w := by
 go_enter Tryz.func5, Tryz.ntmps5
 go_wp2
 go_ret
 exact ⟨rfl, rfl⟩
theorem qzex (a : Option Addr) (len cap : Nat) (w : World) (hlen : len <= 4096) (C : qz1p Q7b w a len) :
  Calls Tryz.prog 41 #[.slice a len cap] w fun e w' => e = .returned (.pointer (some ⟨Q7b, 0, none⟩)) /\ (∃ h, qz20 .i64 w' Q7b a len cap 0 h) /\ Below Q7b w w' := by
 go_enter Tryz.func41, Tryz.ntmps41
 go_wp2
 go_loop [3, 4] (fun hh i => ∃ (k : Nat) (x : Int), k <= len /\ i = .int .i64 k /\ hh = .int .i64 x /\ 0 <= x /\ x <= 1073741823) (fun _ i => len - (intOf i).toNat)
 case atStart => exact ⟨0, _, Nat.zero_le _, rfl, rfl, by omega, by omega⟩
 case round =>
  obtain ⟨k, x, hk, rfl, rfl, hx0, hx1⟩ := hrel
  by_cases hlt : k < len
  ·obtain ⟨bb, off, v, rfl, hbb, hcv, v0, v1⟩ := C k hlt
   clear C
   go_wp2
   have hm := qzdr (x * 193 + v + 11)
   go_round
   case rel => exact ⟨k + 1, _, by omega, by go_num, rfl, hm.1, hm.2⟩
   case measure => simp [intOf]; omega
  ·go_wp2
   go_ret
   exact ⟨rfl, ⟨x, qz20.alloc_new _ _ _ _ _ _ _⟩, (Q7g _ _).alloc (Q7l _) _⟩
theorem qz58 (B b : Nat) (a : Option Addr) (len cap : Nat) (i h : Int) (w : World) (hB : B <= b) (hlen : len <= 4096) (D : qz20 .i64 w b a len cap i h) (C : qz1p B w a len) :
  Calls Tryz.prog 87 Q50 w fun e w' => ∃ r i' h', e = .returned (.int .i64 r) /\ 0 <= r /\ r <= 255 /\ qz20 .i64 w' b a len cap i' h' /\ Only b w w' := by
 have D0 := (show Hid _ from D)
 obtain ⟨c0, c1, c2, f1, f2, lo, hi, blk⟩ := D
 by_cases hlt : i < len
 ·obtain ⟨bb, off, v, rfl, hbb, hcv, v0, v1⟩ := C i.toNat (by omega)
  obtain ⟨iN, rfl⟩ := Int.eq_ofNat_of_zero_le lo
  simp only [Int.toNat_natCast] at hcv
  have hcv2 : ∀ h1 : Int, (w.setCell ⟨b, 2, none⟩ (.int .i64 h1)).cell? ⟨bb, off + iN, none⟩ = some (.int .u8 v) := fun h1 => (World.cell?_setCell_other _ _ _ _ (by intro e; have := congrArg Addr.block e; simp at this; omega)).trans hcv
  clear C
  go_enter Tryz.func87, Tryz.ntmps87
  go_wp2
  generalize wrap64 (wrap64 (h * 6364136223846793005) + 1442695040888963407) = h1
  go_quiet (fail)
  go_wp2
  have hm := qz8u (bits BinOp.xor IntKind.i64 (h1 / 8589934592) (h1 / 35184372088832))
  generalize bits BinOp.and IntKind.i64 (bits BinOp.xor IntKind.i64 (h1 / 8589934592) (h1 / 35184372088832)) 255 = x1 at *
  obtain ⟨hm1, hm2⟩ := hm
  go_quiet (fail)
  go_wp2
  go_quiet (fail)
  go_wp2
  have hm := qz8u (x1 + v)
  go_ret
  exact ⟨_, iN + 1, h1, rfl, hm.1, hm.2, (((D0.out.set2 h1).drewN _).set1 (by omega)), (((Only.refl b w).setCell (Or.inl rfl) _).drewN _).setCell (Or.inl rfl) _⟩
 ·clear C
  go_enter Tryz.func87, Tryz.ntmps87
  go_wp2
  generalize wrap64 (wrap64 (h * 6364136223846793005) + 1442695040888963407) = h1
  go_quiet (fail)
  go_wp2
  have hm := qz8u (bits BinOp.xor IntKind.i64 (h1 / 8589934592) (h1 / 35184372088832))
  generalize bits BinOp.and IntKind.i64 (bits BinOp.xor IntKind.i64 (h1 / 8589934592) (h1 / 35184372088832)) 255 = x1 at *
  obtain ⟨hm1, hm2⟩ := hm
  go_quiet (fail)
  go_wp2
  go_ret
  exact ⟨_, i, h1, rfl, hm1, hm2, ((D0.out.set2 h1).drewN _).drewN _, (((Only.refl b w).setCell (Or.inl rfl) _).drewN _).drewN _⟩
theorem qz13 (B b : Nat) (a : Option Addr) (len cap : Nat) (i h n : Int) (w : World) (hB : B <= b) (hlen : len <= 4096) (D : qz20 .i64 w b a len cap i h) (C : qz1p B w a len) (hn1 : 1 <= n) (hn2 : n <= 4000000) :
  Calls Tryz.prog 44 #[.pointer (some ⟨b, 0, none⟩), .int .i64 n] w fun e w' => ∃ r i' h', e = .returned (.int .i64 r) /\ 0 <= r /\ r < n /\ qz20 .i64 w' b a len cap i' h' /\ qz1p B w' a len /\ Only b w w' := by
 have blk := D.blk
 by_cases hs : n <= 256
 ·go_enter Tryz.func44, Tryz.ntmps44
  go_wp2_with fail
  refine (qz58 B b a len cap i h w hB hlen D C).mono ?_
  rintro e w1 ⟨r, i1, h1, rfl, r0, r1, D1, O1⟩
  go_wp2
  go_ret
  exact ⟨_, i1, h1, rfl, (qz4k _ hn1).1, (qz4k _ hn1).2, D1, C.below (O1.below hB (by omega)), O1⟩
 ·go_enter Tryz.func44, Tryz.ntmps44
  go_wp2_with fail
  refine (qz58 B b a len cap i h w hB hlen D C).mono ?_
  rintro e w1 ⟨r1, i1, h1, rfl, r10, r11, D1, O1⟩
  have C1 := C.below (O1.below hB (by omega))
  go_wp2_with fail
  refine (qz58 B b a len cap i1 h1 w1 hB hlen D1 C1).mono ?_
  rintro e w2 ⟨r2, i2, h2, rfl, r20, r21, D2, O2⟩
  have C2 := C1.below (O2.below hB (by have := D1.blk; omega))
  go_wp2_with fail
  refine (qz58 B b a len cap i2 h2 w2 hB hlen D2 C2).mono ?_
  rintro e w3 ⟨r3, i3, h3, rfl, r30, r31, D3, O3⟩
  have C3 := C2.below (O3.below hB (by have := D2.blk; omega))
  go_wp2_with fail
  refine (qz58 B b a len cap i3 h3 w3 hB hlen D3 C3).mono ?_
  rintro e w4 ⟨r4, i4, h4, rfl, r40, r41, D4, O4⟩
  have C4 := C3.below (O4.below hB (by have := D3.blk; omega))
  go_wp2
  go_ret
  exact ⟨_, i4, h4, rfl, (qz4k _ hn1).1, (qz4k _ hn1).2, D4, C4, ((O1.trans O2).trans O3).trans O4⟩
theorem qz4u (B b : Nat) (a : Option Addr) (len cap : Nat) (i h n : Int) (w : World) (hB : B <= b) (hlen : len <= 4096) (D : qz20 .i64 w b a len cap i h) (C : qz1p B w a len) (hn1 : 1 <= n) (hn2 : n <= 4000000) :
  Calls Tryz.prog 43 #[.pointer (some ⟨b, 0, none⟩), .int .i64 n] w fun e w' => ∃ (r : Bool) (i' h' : Int), e = .returned (.bool r) /\ qz20 .i64 w' b a len cap i' h' /\ qz1p B w' a len /\ Only b w w' := by
 go_enter Tryz.func43, Tryz.ntmps43
 go_wp2_with fail
 refine (qz13 B b a len cap i h n w hB hlen D C hn1 hn2).mono ?_
 rintro e w1 ⟨r, i1, h1, rfl, r0, r1, D1, C1, O1⟩
 go_wp2
 go_ret
 exact ⟨_, i1, h1, rfl, D1, C1, O1⟩
theorem qz92 (x y : Int) (w : World) : Calls Tryz.prog 39 #[.int .i64 x, .int .i64 y] w fun e w' => e = .returned (.int .i64 (min x y)) /\ w' = w := by
 by_cases h : x < y
 ·go_enter Tryz.func39, Tryz.ntmps39
  go_wp2
  go_ret
  exact ⟨by rw [show min x y = x by omega]; rfl, rfl⟩
 ·go_enter Tryz.func39, Tryz.ntmps39
  go_wp2
  go_ret
  exact ⟨by rw [show min x y = y by omega]; rfl, rfl⟩
end
end Go.Proofs.YthjkdnlmopafkaaGreat
