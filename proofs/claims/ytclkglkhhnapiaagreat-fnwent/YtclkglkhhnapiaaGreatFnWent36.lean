/-
  What the law's proof goes by, part 37.
-/
import Derived.Test.YtclkglkhhnapiaaGreatFnWent00
import Derived.Test.YtclkglkhhnapiaaGreatFnWent31
import Derived.Test.YtclkglkhhnapiaaGreatFnWent32
import Derived.Test.YtclkglkhhnapiaaGreatFnWent33
import Derived.Test.YtclkglkhhnapiaaGreatFnWent34
namespace Go.Proofs.YtclkglkhhnapiaaGreat
open Go.ChangeShapes Go.WideShapes Go.ChangeAt Go.RowKit
set_option maxRecDepth 100000
set_option maxHeartbeats 16000000
set_option linter.unusedVariables false
set_option linter.unusedSimpArgs false
set_option linter.unnecessarySimpa false
set_option linter.unusedSectionVars false
section
attribute [local go_sem ↓] Go.wp_at_zero Go.wp_at_succ
theorem qzak (B : Nat) (x y z u : Int) (W : Wd) (a0 a1 a2 a3 a4 a5 a6 a7 : Option Addr) (c0 c1 c2 c3 c4 c5 c6 c7 : Nat) (k : Nat) (h : Hd) (w : World) (hB : B <= w.heap.size) (I : WdIs B w (.slice a0 W.A.slots.length c0) (.slice a1 W.A.guides.length c1) (.slice a2 W.A.nodes.length c2) (.slice a3 W.A.vers.length c3) (.slice a4 W.hands.length c4) (.slice a5 W.calls.length c5) (.slice a6 W.deeds.length c6) (.slice a7 W.ticks.length c7) W) (V : WInv x y z u W) (hn : W.now <= 3999) (hk : k < W.hands.length) (hkh : W.hands[k] = h) :
  Calls Tryz.prog 119 #[.agg Q08, .int .i64 (k : Int)] w fun e w' => ∃ s g n r hs cs ds ts W' is, e = .returned (.tuple #[.agg (wdC x y z u W'.A.camera s g n r hs cs ds ts W'.now).toArray, .bool is]) /\ qz77 w.heap.size w' s g n r hs cs ds ts W' /\ WInv x y z u W' /\ W'.now <= W.now + 1 /\ (h.at_ = 0 -> W' = W) /\ (h.at_ ≠ 0 -> W' = qz67 x y z u W k h) /\ Below w.heap.size w w' := by
 have hxr := V.plan.1
 have hW := V.small
 have hnw := V.nw
 have hin : inB (k : Int) 0 (x - 1) = true := qz52 (by omega) (by have := V.hl; omega)
 have X0 := World.rangeAt_alloc (qz6 w Q13 59) (.cells Q03 59)
 have F0 := qz8 (w.alloc (.cells Q08 59)) Q03 59 14 (by decide)
 have K0 := ((Below.refl w.heap.size w).alloc (Nat.le_refl _) (.cells Q08 59)).alloc (by simp) (.cells Q03 59)
 have hz0 : w.heap.size + 1 < ((w.alloc (.cells Q08 59)).alloc (.cells Q03 59)).heap.size := by simp
 simp only [World.size_alloc] at F0
 have I0 := I.below (K0.mono hB)
 go_enter Tryz.func119, Tryz.ntmps119
 go_wp2_with (refine wpList_load_mid rfl 59 (.tmp 2) rfl (w.heap.size) 0 ?l1x Q13 _ ?l1c Tryz.underlying59 rfl qzh ?_)
 try (case l1x => rfl)
 try (case l1c => exact X0)
 change Calls Tryz.prog _ _ ((w.alloc (.cells Q08 59)).alloc (.cells Q03 59)) _
 generalize hw0 : (w.alloc (.cells Q08 59)).alloc (.cells Q03 59) = w0 at *
 clear hw0 I
 have hB0 : B <= w0.heap.size := Nat.le_trans hB K0.size
 refine (qz5t B x y z u W a0 a1 a2 a3 a4 a5 a6 a7 c0 c1 c2 c3 c4 c5 c6 c7 w0 hB0 hW I0 (V.right (by omega))).mono ?_
 rintro e w1 ⟨rfl, b0⟩
 have X1 := qz0 X0 b0 (by omega)
 have F1 := qz2 F0 b0 (by omega)
 have K1 := K0.trans (b0.mono (by omega))
 have I1 := I0.below (b0.mono hB0)
 have hz1 := Nat.lt_of_lt_of_le hz0 b0.size
 have hB1 := Nat.le_trans hB0 b0.size
 clear X0 F0 K0 I0 hz0 hB0 b0
 have y0 : w1.cell? ⟨w.heap.size, 0, none⟩ = some (.int .i64 x) := by simpa using X1 0 (.int .i64 x) rfl
 go_wp2_with (first | (go_at_call 61; refine (qze _ _ _ _).mono ?_; rintro e w' ⟨rfl, hw⟩; obtain rfl := hw.symm) | (refine wpList_load_mid rfl 59 (.tmp 2) rfl (w.heap.size) 0 ?l2x Q13 _ ?l2c Tryz.underlying59 rfl qzh ?_))
 try (case l2x => rfl)
 try (case l2c => exact X1)
 clear y0
 by_cases hat : h.at_ = 0
 case pos =>
  refine (qz5c B x y z u W a0 a1 a2 a3 a4 a5 a6 a7 c0 c1 c2 c3 c4 c5 c6 c7 k h w1 hB1 hW I1 hk hkh hat).mono ?_
  rintro e w2 ⟨rfl, b1⟩
  have X2 := qz0 X1 b1 (by omega)
  have F2 := qz2 F1 b1 (by omega)
  have K2 := K1.trans (b1.mono (by omega))
  have I2 := I1.below (b1.mono hB1)
  have hz2 := Nat.lt_of_lt_of_le hz1 b1.size
  have hB2 := Nat.le_trans hB1 b1.size
  clear X1 F1 K1 I1 hz1 hB1 b1
  have hset : (w2.alloc (.cells Q03 59)).setCells w2.heap.size 0 (Q08 : Array Value).toList = w2.alloc (.cells Q08 59) := qzy w2 59 Q13 [] Q2b rfl
  have FA := qz8 w2 Q03 59 14 (by decide)
  have b2 := (Below.refl w2.heap.size w2).alloc (Nat.le_refl _) (.cells Q08 59)
  go_upto_region 4 with (refine wpList_store_mid rfl 59 (.tmp 6) (.tmp 25) rfl w2.heap.size 0 Q08 ?sx ?sy ?st qzh (by simp [Value.oneCell']) ?_; rw [hset])
  try (case sx => rfl)
  try (case sy => rfl)
  try (case st => exact FA)
  clear hset FA
  generalize hw3 : w2.alloc (.cells Q08 59) = w3 at *
  clear hw3
  have X3 := qz0 X2 b2 (by omega)
  have F3 := qz2 F2 b2 (by omega)
  have K3 := K2.trans (b2.mono (by omega))
  have I3 := I2.below (b2.mono hB2)
  have hz3 := Nat.lt_of_lt_of_le hz2 b2.size
  have hB3 := Nat.le_trans hB2 b2.size
  clear X2 F2 K2 I2 hz2 hB2 b2
  have hlen := V.ar
  go_wp2_with (refine wpList_load_mid rfl 59 (.tmp 2) rfl (w.heap.size) 0 ?l3x Q13 _ ?l3c Tryz.underlying59 rfl qzh ?_)
  try (case l3x => rfl)
  try (case l3c => exact X3)
  have hl4 := qz2j (V.right (by omega)).ar
  have hl5 := V.ar.sl
  have hl6 := V.ar.gl
  refine (qz5x B x y z u W a0 a1 a2 a3 a4 a5 a6 a7 c0 c1 c2 c3 c4 c5 c6 c7 w3 hB3 (by omega) I3 (by omega) (by omega) (by omega) (by omega)).mono ?_
  rintro e w4 ⟨s, g, n, r, hs, cs, ds, ts, rfl, Oa, b3⟩
  have F4 := qz2 F3 b3 (by omega)
  have K4 := K3.trans (b3.mono (by omega))
  have z4 := b3.size
  clear X3 F3 I3
  obtain ⟨sa, sc', rfl⟩ := qzg Oa.ar.rs
  obtain ⟨ga, gc', rfl⟩ := qzg Oa.ar.rg
  obtain ⟨na, nc', rfl⟩ := qzg Oa.ar.rn
  obtain ⟨ra, rc', rfl⟩ := qzg Oa.ar.rr
  obtain ⟨ha, hc', rfl⟩ := qzg Oa.h
  obtain ⟨ca, cc', rfl⟩ := qzg Oa.c
  obtain ⟨da, dc', rfl⟩ := qzg Oa.d
  obtain ⟨ta, tc', rfl⟩ := qzg Oa.t
  go_wp2_with (refine wpList_store_mid rfl 59 (.tmp 4) (.tmp 35) rfl (w.heap.size + 1) 0 (Q1x).toArray ?tx ?ty ?tt qzh (by simp [wdC, Value.oneCell']) ?_)
  try (case tx => rfl)
  try (case ty => rfl)
  try (case tt => exact F4)
  have hO := qzj (w.heap.size + 1) Q1x 0 w4
  refine bodyPost_ret (v := .tuple #[.agg (Q1x).toArray, .bool false]) ?_ rfl ⟨_, _, _, _, _, _, _, _, W, false, rfl, (Oa.only hO (by omega)).lo (by omega), V, by omega, fun _ => rfl, fun hne => absurd hat hne, Below.setCells (by omega) _ _ _ K4⟩
  exact qzf Tryz.results119 _ _ (w.heap.size + 1) 0 rfl Q1x _ (World.rangeAt_setCells_same _ _ _ _ F4) Tryz.underlying59 rfl qzh
 have hrd := V.ready hk
 rw [hkh] at hrd
 have hf0 := (V.hp k hk).f0
 rw [hkh] at hf0
 have h1 : 1 <= h.at_ := by omega
 have V2 := V.step hk (by rw [hkh]; exact h1) (by omega)
 rw [hkh] at V2
 refine (qz5v B x y z u W a0 a1 a2 a3 a4 a5 a6 a7 c0 c1 c2 c3 c4 c5 c6 c7 k h w1 hB1 hW I1 hk hkh (V.right (by omega)).ar hrd h1 (by omega) (by omega) (by omega)).mono ?_
 rintro e w2 ⟨s, g, n, r, hs, cs, ds, ts, rfl, Oa, b1⟩
 have hnow : (qz67 x y z u W k h).now = W.now + 1 := rfl
 rw [<- hnow]
 have hWs : Hid (qz67 x y z u W k h = qz67 x y z u W k h) := rfl
 obtain ⟨W2, hW2⟩ : ∃ W2, W2 = qz67 x y z u W k h := ⟨_, rfl⟩
 rw [<- hW2] at Oa V2 hnow ⊢
 have hnH : Hid (W2.now = W.now + 1) := hnow
 have hWH : Hid (W2 = qz67 x y z u W k h) := hW2
 clear hnow hW2
 have F2 := qz2 F1 b1 (by omega)
 have K2 := K1.trans (b1.mono (by omega))
 have z2 := b1.size
 clear X1 F1 I1 hWs
 obtain ⟨sa, sc', rfl⟩ := qzg Oa.ar.rs
 obtain ⟨ga, gc', rfl⟩ := qzg Oa.ar.rg
 obtain ⟨na, nc', rfl⟩ := qzg Oa.ar.rn
 obtain ⟨ra, rc', rfl⟩ := qzg Oa.ar.rr
 obtain ⟨ha, hc', rfl⟩ := qzg Oa.h
 obtain ⟨ca, cc', rfl⟩ := qzg Oa.c
 obtain ⟨da, dc', rfl⟩ := qzg Oa.d
 obtain ⟨ta, tc', rfl⟩ := qzg Oa.t
 have FA := qz8 w2 Q03 59 14 (by decide)
 have b2 : Below w2.heap.size w2 ((w2.alloc (.cells Q03 59)).setCells w2.heap.size 0 (Q0g).toArray.toList) := Below.setCells (Nat.le_refl _) _ _ _ ((Below.refl _ _).alloc (Nat.le_refl _) _)
 have R3 : ((w2.alloc (.cells Q03 59)).setCells w2.heap.size 0 (Q0g).toArray.toList).rangeAt w2.heap.size 0 Q0g := World.rangeAt_setCells_same _ _ _ _ FA
 have F3 := qz2 F2 b2 (by omega)
 have K3 := K2.trans (b2.mono (by omega))
 have O3 := Oa.below b2
 have z3 : w2.heap.size < ((w2.alloc (.cells Q03 59)).setCells w2.heap.size 0 (Q0g).toArray.toList).heap.size := by rw [qzl]; simp
 clear b2 Oa F2 K2
 go_wp2_with (first | (refine wpList_store_mid rfl 59 (.tmp 6) (.tmp 25) rfl w2.heap.size 0 (Q0g).toArray ?ux ?uy ?ut qzh (by simp [wdC, Value.oneCell']) ?_; all_goals (have tkA : True := trivial)) | (clear tkA; refine qz1q _ ?_))
 try (case ux => rfl)
 try (case uy => rfl)
 try (case ut => exact FA)
 show wpList _ _ _ _ _ ((w2.alloc (.cells Q03 59)).setCells w2.heap.size 0 (Q0g).toArray.toList)
 clear FA
 generalize hw3 : (w2.alloc (.cells Q03 59)).setCells w2.heap.size 0 (Q0g).toArray.toList = w3 at *
 show wpList _ _ _ _ _ w3
 clear hw3
 have hn2 : W2.now <= 4000 := by rw [hnH.out]; omega
 go_wp2_with (refine qz12 ?vw 59 (.tmp 6) rfl w2.heap.size 0 ?vx Q0g _ ?vc Tryz.underlying59 rfl qzh ?_)
 try (case vw => first | rfl | kernel_rfl)
 try (case vx => rfl)
 try (case vc => exact R3)
 refine (qz5t w3.heap.size x y z u W2 sa ga na ra ha ca da ta sc' gc' nc' rc' hc' cc' dc' tc' w3 (Nat.le_refl _) V2.small O3.is (V2.right hn2)).mono ?_
 rintro e w4 ⟨rfl, b3⟩
 have R4 := qz0 R3 b3 (by omega)
 have F4 := qz2 F3 b3 (by omega)
 have K4 := K3.trans (b3.mono (by omega))
 have O4 := O3.below b3
 have z4 := b3.size
 clear R3 F3 K3 O3 b3
 go_wp2_with (first | (refine wpList_load_mid rfl 59 (.tmp 6) rfl (w2.heap.size) 0 ?l5x Q0g _ ?l5c Tryz.underlying59 rfl qzh ?_) | (refine wpList_store_mid rfl 59 (.tmp 4) (.tmp 36) rfl (w.heap.size + 1) 0 (Q0g).toArray ?px ?py ?pt qzh (by simp [wdC, Value.oneCell']) ?_))
 try (case l5x => rfl)
 try (case l5c => exact R4)
 try (case px => rfl)
 try (case py => rfl)
 try (case pt => exact F4)
 have hO := qzj (w.heap.size + 1) Q0g 0 w4
 refine bodyPost_ret (v := .tuple #[.agg (Q0g).toArray, .bool true]) ?_ rfl ⟨_, _, _, _, _, _, _, _, W2, true, rfl, (O4.only hO (by omega)).lo (by omega), V2, (by have := hnH.out; omega), fun e0 => absurd e0 hat, fun _ => hWH.out, Below.setCells (by omega) _ _ _ K4⟩
 exact qzf Tryz.results119 _ _ (w.heap.size + 1) 0 rfl Q0g _ (World.rangeAt_setCells_same _ _ _ _ F4) Tryz.underlying59 rfl qzh
end
section
theorem qz4o {P : Program} {l : List Oper} {Q : Exit -> Act -> World -> Prop} {id : Nat} {a0 : Act} {w0 : World} (k : Nat) (hm : P.follows .mixedOrders = true)
  (J : (Nat -> Bool) -> World -> Prop) (hJ0 : J (fun _ => false) { w0 with drawn := w0.drawn + 1 }) (G : (Nat -> Bool) -> Nat -> Value -> World -> Prop) (hT : qzdr l.toArray k (l.length - k) = true) (hL : qzei l.toArray = true) (hBk : qzct l.toArray k = true) (hg : (l.take k).all (fun o => o.guard.isNone) = true)
  (hdst0 : dstB l.toArray a0.tmps.size = true)
  (step : ∀ (i : Nat) (o : Oper), i < k -> l[i]? = some o -> ∀ (L : Nat -> Bool) (a : Act) (w : World), L i = false -> (∀ j, L j = true -> j < k) -> (∀ j o', l[j]? = some o' -> L j = true -> ∀ e ∈ o'.after, Region.binds .any e = true -> L e.on = true) -> J L w -> (∀ t, qz9e l.toArray t = true -> a.eval (.tmp t) = a0.tmps.getD t undef) ->
   (∀ e ∈ o.after, Region.binds .any e = true -> ∀ d, qz3u l.toArray e.on = some d -> L e.on = true /\ G L e.on (a.eval (.tmp d)) w) ->
   ∀ K : Act -> World -> Prop, (∀ v w', G (onAt L i) i v w' -> J (onAt L i) w' -> (∀ j v', j ≠ i -> L j = true -> G L j v' w -> G (onAt L i) j v' w') -> K (a.put o.dst v) w') -> o.wp P a w K Q)
  (final : ∀ (L : Nat -> Bool) vs w', (∀ i, i < k -> L i = true) -> J L w' -> (∀ i, i < k -> G L i (vs i) w') ->
   wpList P l.toArray Q (l.drop k) (laid l.toArray vs Q1k (List.range l.toArray.size) a0) w') :
  (Code.region id l.toArray true).wp P Q a0 w0 := by
 have hdst := qzck hdst0
 have L := qz8o hL
 have hBack : ∀ i, i < k -> ∀ o, l.toArray[i]? = some o -> ∀ e ∈ o.after, Region.binds .any e = true -> e.on < i := fun i hi o ho => qzcr hBk i hi o ho
 simp only [qzdr, Bool.and_eq_true, beq_iff_eq] at hT
 obtain ⟨⟨hkm, hw⟩, hseq⟩ := hT
 have hsl : l.toArray.size = l.length := by simp
 have hkl : k <= l.length := by omega
 refine wp_region_any hm ?_
 have key : ∀ (c : Nat) (listed : Array Bool) (vs : Nat -> Value) (w : World), qz5g listed <= c + (l.length - k) -> listed.size = l.toArray.size -> qz4y .any l.toArray listed -> (∀ j, k <= j -> listed.getD j false = false) -> J (fun j => listed.getD j false) w ->
   (∀ i, i < l.toArray.size -> listed.getD i false = true -> G (fun j => listed.getD j false) i (vs i) w) ->
   wpAny P .any l.toArray Q (c + (l.length - k)) listed (laid l.toArray vs listed (List.range l.toArray.size) a0) w := by
  intro c
  induction c with
  | zero =>
   intro listed vs w hf hs hc htail hb hG
   by_cases hall : ∀ i, i < k -> listed.getD i false = true
   ·have he : listed = qz3s k 0 (Array.replicate l.toArray.size false) := by
     apply Array.ext
     ·rw [qz2l, hs]; simp
     ·intro i h1 h2
      have g := qz33 k 0 (Array.replicate l.toArray.size false) i (by simp; omega)
      have g1 : Q1k[i] = (Q1k).getD i false := qz41 _ _ h2
      have g2 : listed[i] = listed.getD i false := by simp [h1]
      rw [g1, g2, g]
      by_cases c : i < k
      ·rw [if_pos (by omega), hall i c]
      ·have hio : i < l.length := by omega
       rw [if_neg (by omega), htail i (by omega)]
       simp [hio]
    have hfin := final (fun j => listed.getD j false) vs w hall hb (fun i hi => hG i (by omega) (hall i hi))
    rw [<- he] at hfin
    have := qz1u (P := P) (md := .any) (Q := Q) 0 (l.drop k) k listed _ w (fun j => by simp) (by rw [he]; simpa using hseq) hfin
    simpa using this
   ·exfalso
    simp only [Classical.not_forall] at hall
    obtain ⟨i, hi, hu⟩ := hall
    have := qz4m (m := l.length - k) (by omega) htail hi (by simpa using hu)
    omega
  | succ c ih =>
   intro listed vs w hf hs hc htail hb hG
   by_cases hall : ∀ i, i < k -> listed.getD i false = true
   ·have he : listed = qz3s k 0 (Array.replicate l.toArray.size false) := by
     apply Array.ext
     ·rw [qz2l, hs]; simp
     ·intro i h1 h2
      have g := qz33 k 0 (Array.replicate l.toArray.size false) i (by simp; omega)
      have g1 : Q1k[i] = (Q1k).getD i false := qz41 _ _ h2
      have g2 : listed[i] = listed.getD i false := by simp [h1]
      rw [g1, g2, g]
      by_cases c : i < k
      ·rw [if_pos (by omega), hall i c]
      ·have hio : i < l.length := by omega
       rw [if_neg (by omega), htail i (by omega)]
       simp [hio]
    have hfin := final (fun j => listed.getD j false) vs w hall hb (fun i hi => hG i (by omega) (hall i hi))
    rw [<- he] at hfin
    have := qz1u (P := P) (md := .any) (Q := Q) (c + 1) (l.drop k) k listed _ w (fun j => by simp) (by rw [he]; simpa using hseq) hfin
    rw [show c + 1 + (l.length - k) = (l.drop k).length + (c + 1) by simp; omega]
    exact this
   simp only [Classical.not_forall] at hall
   obtain ⟨i1, hi1, hu1⟩ := hall
   have hu1' : listed.getD i1 false = false := by simpa using hu1
   have hu1'' : listed.getD i1 true = false := by
    have : i1 < listed.size := by omega
    simpa [this] using hu1'
   have hex : ∃ i, i < k /\ i ∈ Region.ready .any l.toArray listed := by
    apply Classical.byContradiction
    intro hno
    have : ∀ n i, i < n -> i < k -> listed.getD i false = true := by
     intro n
     induction n with
     | zero => intro i hi; omega
     | succ n ihn =>
      intro i hi hik
      rcases Nat.lt_or_ge i n with h | h
      ·exact ihn i h hik
      ·have hin : i = n := by omega
       subst hin
       cases hq : listed.getD i false with
       | true => rfl
       | false =>
        exfalso
        apply hno
        refine ⟨i, hik, mem_ready.2 ⟨?_, ?_⟩⟩
        ·have : i < listed.size := by omega
         simpa [this] using hq
        ·have hil : i < l.toArray.size := by omega
         refine ⟨l.toArray[i], by simp, fun e he hbd => ?_⟩
         exact ihn e.on (hBack i hik _ (by simp) e he hbd) (Nat.lt_trans (hBack i hik _ (by simp) e he hbd) hik)
    have h9 := this (i1 + 1) i1 (by omega) hi1
    rw [hu1'] at h9
    cases h9
   rw [show c + 1 + (l.length - k) = (c + (l.length - k)) + 1 by omega]
   obtain ⟨i0, hi0, hr0⟩ := hex
   refine ⟨fun h0 => (by rw [h0] at hr0; cases hr0), ?_⟩
   intro i hi
   have hik := qz3n hw hc hi1 hu1'' hi
   obtain ⟨h0, o, ho, hall⟩ := mem_ready.1 hi
   have hi' : i < l.toArray.size := (Array.getElem?_eq_some_iff.1 ho).1
   have hlt : i < listed.size := by omega
   have h1 : listed.getD i false = false := by simpa [hlt] using h0
   have ho' : l[i]? = some o := by simpa using ho
   have hguard : o.guard = none := by
    have := (List.all_eq_true.1 hg) o (List.mem_of_getElem? (i := i) (by rw [List.getElem?_take]; simp [hik, ho']))
    simpa using this
   have hnd : (List.range l.toArray.size).Nodup := List.nodup_range
   have hlt' : ∀ e ∈ o.after, Region.binds .any e = true -> ∀ d, qz3u l.toArray e.on = some d -> e.on < l.toArray.size /\ listed.getD e.on false = true /\ (laid l.toArray vs listed (List.range l.toArray.size) a0).eval (.tmp d) = vs e.on := by
    intro e he hbd d hd
    have hel := hall e he hbd
    have hes : e.on < l.toArray.size := by
     rcases Nat.lt_or_ge e.on l.toArray.size with h | h
     ·exact h
     ·simp only [qz3u, Array.getElem?_eq_none h] at hd
      cases hd
    exact ⟨hes, hel, qz5b L vs listed e.on d hd hel _ _ hnd (List.mem_range.2 hes) (hdst _ _ hd)⟩
   have hstep := step i o hik ho' (fun j => listed.getD j false) (laid l.toArray vs listed (List.range l.toArray.size) a0) w h1 (fun j hj => by
     rcases Nat.lt_or_ge j k with h | h
     ·exact h
     ·have := htail j h; rw [this] at hj; cases hj) (fun j o' ho' hj e he hbd => hc j o' (by simpa using ho') hj e he hbd) hb
    (fun t ht => qz3a l.toArray vs listed t _ _ (fun k _ => qz6w ht k))
    (fun e he hbd d hd => by
     obtain ⟨h2, h3, h4⟩ := hlt' e he hbd d hd
     rw [h4]
     exact ⟨h3, hG e.on h2 h3⟩)
   have hwn : Region.wanted o (yielded l.toArray (laid l.toArray vs listed (List.range l.toArray.size) a0).tmps) = true := by simp [Region.wanted, hguard]
   unfold wpOp
   simp only [ho, hwn, if_true]
   refine Or.inl (hstep _ ?_)
   intro v w' hGi hb' hkp
   have hLn : (fun j => (listed.setIfInBounds i true).getD j false) = onAt (fun j => listed.getD j false) i := by
    funext j
    unfold onAt
    by_cases hji : j = i
    ·subst hji
     rw [if_pos rfl]
     simp [hlt]
    ·rw [if_neg hji]
     exact getD_set_ne false (Ne.symm hji)
   have hd' : o.dst = qz3u l.toArray i := by simp only [qz3u, ho, Option.bind_some]
   rw [hd', qz5e L vs listed i v hlt h1 _ _ hnd (List.mem_range.2 hi')]
   refine ih _ _ _ (by have := qz4p hlt h1; omega) (by simpa using hs) (hc.set hi) (fun j hj => by rw [getD_set_ne false (by omega)]; exact htail j hj) (by rw [hLn]; exact hb') ?_
   intro j hj hjl
   rw [hLn]
   by_cases hji : j = i
   ·subst hji
    simp only [upd, if_true]
    exact hGi
   ·rw [getD_set_ne false (Ne.symm hji)] at hjl
    simp only [upd, hji, if_false]
    exact hkp j _ hji hjl (hG j hj hjl)
 have hgf : ∀ i, (Array.replicate l.toArray.size false).getD i false = false := by
  intro i
  rcases Nat.lt_or_ge i l.toArray.size with h | h
  ·simp at h; simp [h]
  ·simp at h; simp [h]
 have h0 : laid l.toArray (fun _ => undef) (Array.replicate l.toArray.size false) (List.range l.toArray.size) a0 = a0 := by
  have : ∀ (q : List Nat) (a : Act), laid l.toArray (fun _ => undef) (Array.replicate l.toArray.size false) q a = a := by
   intro q
   induction q with
   | nil => intro a; rfl
   | cons i q ih =>
    intro a
    simp only [laid]
    rw [hgf i]
    simpa using ih a
  exact this _ _
 have hk := key k (Array.replicate l.toArray.size false) (fun _ => undef) { w0 with drawn := w0.drawn + 1 } (by unfold qz5g; simp; omega) (by simp) (fun j o _ hj => by rw [hgf j] at hj; cases hj) (fun j _ => hgf j) (by have e : (fun j => (Array.replicate l.toArray.size false).getD j false) = fun _ => false := funext hgf; rw [e]; exact hJ0) (fun i hi h => by rw [hgf i] at h; cases h)
 rw [h0, show k + (l.length - k) = l.toArray.size by simp; omega] at hk
 exact hk
theorem qzda {P : Program} {op : Oper} {a : Act} {w w' : World} {K : Act -> World -> Prop} {Q : Exit -> Act -> World -> Prop}
  (he : (execOp a.eval op).run P w = .ok .skip w') (h : K (a.put op.dst undef) w') : op.wp P a w K Q := by
 unfold Oper.wp
 rw [he]
 exact h
end
end Go.Proofs.YtclkglkhhnapiaaGreat
