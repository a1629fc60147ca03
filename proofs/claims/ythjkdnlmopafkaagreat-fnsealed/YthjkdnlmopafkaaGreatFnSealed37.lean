/-
  What the law's proof goes by, part 38.
-/
import Derived.Test.YthjkdnlmopafkaaGreatFnSealed00
import Derived.Test.YthjkdnlmopafkaaGreatFnSealed32
import Derived.Test.YthjkdnlmopafkaaGreatFnSealed33
import Derived.Test.YthjkdnlmopafkaaGreatFnSealed34
import Derived.Test.YthjkdnlmopafkaaGreatFnSealed35
namespace Go.Proofs.YthjkdnlmopafkaaGreat
open Go.ChangeShapes Go.WideShapes Go.ChangeAt Go.RowKit
set_option maxRecDepth 100000
set_option maxHeartbeats 16000000
set_option linter.unusedVariables false
set_option linter.unusedSimpArgs false
set_option linter.unnecessarySimpa false
set_option linter.unusedSectionVars false
section
attribute [local go_sem ↓] Go.wp_at_zero Go.wp_at_succ
theorem qzcc (B : Nat) (x y z u : Int) (W : Wd) (a0 a1 a2 a3 a4 a5 a6 a7 : Option Addr) (c0 c1 c2 c3 c4 c5 c6 c7 : Nat) (k : Nat) (h : Hd) (w : World) (hB : B <= Q7b) (I : WdIs B w Q4b Q46 Q4a Q4h Q55 Q5h Q5g Q5f W) (V : WInv x y z u W) (hn : W.now <= 3999) (hk : k < Q7s) (hkh : W.hands[k] = h) :
  Calls Tryz.prog 73 #[.agg Q08, .int .i64 (k : Int)] w fun e w' => ∃ s g n r hs cs ds ts W' is, e = .returned (.tuple #[.agg (wdC x y z u W'.A.camera s g n r hs cs ds ts W'.now).toArray, .bool is]) /\ qz83 Q7b w' s g n r hs cs ds ts W' /\ WInv x y z u W' /\ W'.now <= W.now + 1 /\ (h.at_ = 0 -> W' = W) /\ (h.at_ ≠ 0 -> W' = qz6u x y z u W k h) /\ Below Q7b w w' := by
 have hxr := V.plan.1
 have hW := V.small
 have hnw := V.nw
 have hin : inB (k : Int) 0 (x - 1) = true := qz7o (by omega) (by have := V.hl; omega)
 have X0 := Q7n (qz6 w Q12 38) (.cells Q03 38)
 have F0 := qza (w.alloc (.cells Q08 38)) Q03 38 14 (by decide)
 have K0 := ((Q7g Q7b w).alloc (Q7l _) (.cells Q08 38)).alloc (by simp) (.cells Q03 38)
 have hz0 : Q7b + 1 < ((w.alloc (.cells Q08 38)).alloc (.cells Q03 38)).heap.size := by simp
 simp only [World.size_alloc] at F0
 have I0 := I.below (K0.mono hB)
 go_enter Tryz.func73, Tryz.ntmps73
 go_wp2_with (refine Q7j rfl 38 (.tmp 2) rfl (Q7b) 0 ?l1x Q12 _ ?l1c Q83 rfl qzj ?_)
 try (case l1x => rfl)
 try (case l1c => exact X0)
 change Calls Tryz.prog _ _ ((w.alloc (.cells Q08 38)).alloc (.cells Q03 38)) _
 generalize hw0 : (w.alloc (.cells Q08 38)).alloc (.cells Q03 38) = w0 at *
 clear hw0 I
 have hB0 : B <= Q7r := Q7u hB K0.size
 refine (qz6g B x y z u W a0 a1 a2 a3 a4 a5 a6 a7 c0 c1 c2 c3 c4 c5 c6 c7 w0 hB0 hW I0 (V.right (by omega))).mono ?_
 rintro e w1 ⟨rfl, b0⟩
 have X1 := qz0 X0 b0 (by omega)
 have F1 := qz2 F0 b0 (by omega)
 have K1 := K0.trans (b0.mono (by omega))
 have I1 := I0.below (b0.mono hB0)
 have hz1 := Q7o hz0 b0.size
 have hB1 := Q7u hB0 b0.size
 clear X0 F0 K0 I0 hz0 hB0 b0
 have y0 : w1.cell? ⟨Q7b, 0, none⟩ = some (.int .i64 x) := by simpa using X1 0 (.int .i64 x) rfl
 go_wp2_with (first | (go_at_call 63; refine (qzg _ _ _ _).mono ?_; rintro e w' ⟨rfl, hw⟩; obtain rfl := hw.symm) | (refine Q7j rfl 38 (.tmp 2) rfl (Q7b) 0 ?l2x Q12 _ ?l2c Q83 rfl qzj ?_))
 try (case l2x => rfl)
 try (case l2c => exact X1)
 clear y0
 by_cases hat : h.at_ = 0
 case pos =>
  refine (qz5t B x y z u W a0 a1 a2 a3 a4 a5 a6 a7 c0 c1 c2 c3 c4 c5 c6 c7 k h w1 hB1 hW I1 hk hkh hat).mono ?_
  rintro e w2 ⟨rfl, b1⟩
  have X2 := qz0 X1 b1 (by omega)
  have F2 := qz2 F1 b1 (by omega)
  have K2 := K1.trans (b1.mono (by omega))
  have I2 := I1.below (b1.mono hB1)
  have hz2 := Q7o hz1 b1.size
  have hB2 := Q7u hB1 b1.size
  clear X1 F1 K1 I1 hz1 hB1 b1
  have hset : (w2.alloc (.cells Q03 38)).setCells Q7x 0 (Q08 : Array Value).toList = w2.alloc (.cells Q08 38) := qz10 w2 38 Q12 [] Q2f rfl
  have FA := qza w2 Q03 38 14 (by decide)
  have b2 := (Q7g Q7x w2).alloc (Q7l _) (.cells Q08 38)
  go_upto_region 4 with (refine wpList_store_mid rfl 38 (.tmp 6) (.tmp 25) rfl w2.heap.size 0 Q08 ?sx ?sy ?st qzj (by simp [Value.oneCell']) ?_; rw [hset])
  try (case sx => rfl)
  try (case sy => rfl)
  try (case st => exact FA)
  clear hset FA
  generalize hw3 : w2.alloc (.cells Q08 38) = w3 at *
  clear hw3
  have X3 := qz0 X2 b2 (by omega)
  have F3 := qz2 F2 b2 (by omega)
  have K3 := K2.trans (b2.mono (by omega))
  have I3 := I2.below (b2.mono hB2)
  have hz3 := Q7o hz2 b2.size
  have hB3 := Q7u hB2 b2.size
  clear X2 F2 K2 I2 hz2 hB2 b2
  have hlen := V.ar
  go_wp2_with (refine Q7j rfl 38 (.tmp 2) rfl (Q7b) 0 ?l3x Q12 _ ?l3c Q83 rfl qzj ?_)
  try (case l3x => rfl)
  try (case l3c => exact X3)
  have hl4 := qz2m (V.right (by omega)).ar
  have hl5 := V.ar.sl
  have hl6 := V.ar.gl
  refine (qz6k B x y z u W a0 a1 a2 a3 a4 a5 a6 a7 c0 c1 c2 c3 c4 c5 c6 c7 w3 hB3 (by omega) I3 (by omega) (by omega) (by omega) (by omega)).mono ?_
  rintro e w4 ⟨s, g, n, r, hs, cs, ds, ts, rfl, Oa, b3⟩
  have F4 := qz2 F3 b3 (by omega)
  have K4 := K3.trans (b3.mono (by omega))
  have z4 := b3.size
  clear X3 F3 I3
  obtain ⟨sa, sc', rfl⟩ := qzh Oa.ar.rs
  obtain ⟨ga, gc', rfl⟩ := qzh Oa.ar.rg
  obtain ⟨na, nc', rfl⟩ := qzh Oa.ar.rn
  obtain ⟨ra, rc', rfl⟩ := qzh Oa.ar.rr
  obtain ⟨ha, hc', rfl⟩ := qzh Oa.h
  obtain ⟨ca, cc', rfl⟩ := qzh Oa.c
  obtain ⟨da, dc', rfl⟩ := qzh Oa.d
  obtain ⟨ta, tc', rfl⟩ := qzh Oa.t
  go_wp2_with (refine wpList_store_mid rfl 38 (.tmp 4) (.tmp 35) rfl (w.heap.size + 1) 0 (Q1z).toArray ?tx ?ty ?tt qzj (by simp [wdC, Value.oneCell']) ?_)
  try (case tx => rfl)
  try (case ty => rfl)
  try (case tt => exact F4)
  have hO := qzi (Q7b + 1) Q1z 0 w4
  refine bodyPost_ret (v := .tuple #[.agg (Q1z).toArray, .bool false]) ?_ rfl ⟨_, _, _, _, _, _, _, _, W, false, rfl, (Oa.only hO (by omega)).lo (by omega), V, by omega, fun _ => rfl, fun hne => absurd hat hne, Below.setCells (by omega) _ _ _ K4⟩
  exact qzk Tryz.results73 _ _ (Q7b + 1) 0 rfl Q1z _ (Q7c _ _ _ _ F4) Q83 rfl qzj
 have hrd := V.ready hk
 rw [hkh] at hrd
 have hf0 := (V.hp k hk).f0
 rw [hkh] at hf0
 have h1 : 1 <= h.at_ := by omega
 have V2 := V.step hk (by rw [hkh]; exact h1) (by omega)
 rw [hkh] at V2
 refine (qz6h B x y z u W a0 a1 a2 a3 a4 a5 a6 a7 c0 c1 c2 c3 c4 c5 c6 c7 k h w1 hB1 hW I1 hk hkh (V.right (by omega)).ar hrd h1 (by omega) (by omega) (by omega)).mono ?_
 rintro e w2 ⟨s, g, n, r, hs, cs, ds, ts, rfl, Oa, b1⟩
 have hnow : (qz6u x y z u W k h).now = W.now + 1 := rfl
 rw [<- hnow]
 have hWs : Hid (qz6u x y z u W k h = qz6u x y z u W k h) := rfl
 obtain ⟨W2, hW2⟩ : ∃ W2, W2 = qz6u x y z u W k h := ⟨_, rfl⟩
 rw [<- hW2] at Oa V2 hnow ⊢
 have hnH : Hid (W2.now = W.now + 1) := hnow
 have hWH : Hid (W2 = qz6u x y z u W k h) := hW2
 clear hnow hW2
 have F2 := qz2 F1 b1 (by omega)
 have K2 := K1.trans (b1.mono (by omega))
 have z2 := b1.size
 clear X1 F1 I1 hWs
 obtain ⟨sa, sc', rfl⟩ := qzh Oa.ar.rs
 obtain ⟨ga, gc', rfl⟩ := qzh Oa.ar.rg
 obtain ⟨na, nc', rfl⟩ := qzh Oa.ar.rn
 obtain ⟨ra, rc', rfl⟩ := qzh Oa.ar.rr
 obtain ⟨ha, hc', rfl⟩ := qzh Oa.h
 obtain ⟨ca, cc', rfl⟩ := qzh Oa.c
 obtain ⟨da, dc', rfl⟩ := qzh Oa.d
 obtain ⟨ta, tc', rfl⟩ := qzh Oa.t
 have FA := qza w2 Q03 38 14 (by decide)
 have b2 : Below Q7x w2 Q52 := Below.setCells (Q7l _) _ _ _ ((Q7g _ _).alloc (Q7l _) _)
 have R3 : (Q52).rangeAt Q7x 0 Q0f := Q7c _ _ _ _ FA
 have F3 := qz2 F2 b2 (by omega)
 have K3 := K2.trans (b2.mono (by omega))
 have O3 := Oa.below b2
 have z3 : Q7x < (Q52).heap.size := by rw [qzn]; simp
 clear b2 Oa F2 K2
 go_wp2_with (first | (refine wpList_store_mid rfl 38 (.tmp 6) (.tmp 25) rfl w2.heap.size 0 (Q0f).toArray ?ux ?uy ?ut qzj (by simp [wdC, Value.oneCell']) ?_; all_goals (have tkA : True := trivial)) | (clear tkA; refine qz1q _ ?_))
 try (case ux => rfl)
 try (case uy => rfl)
 try (case ut => exact FA)
 show wpList _ _ _ _ _ Q52
 clear FA
 generalize hw3 : (w2.alloc (.cells Q03 38)).setCells Q7x 0 (Q0f).toArray.toList = w3 at *
 show wpList _ _ _ _ _ w3
 clear hw3
 have hn2 : W2.now <= 4000 := by rw [hnH.out]; omega
 go_wp2_with (refine qz11 ?vw 38 (.tmp 6) rfl Q7x 0 ?vx Q0f _ ?vc Q83 rfl qzj ?_)
 try (case vw => first | rfl | kernel_rfl)
 try (case vx => rfl)
 try (case vc => exact R3)
 refine (qz6g w3.heap.size x y z u W2 sa ga na ra ha ca da ta sc' gc' nc' rc' hc' cc' dc' tc' w3 (Q7l _) V2.small O3.is (V2.right hn2)).mono ?_
 rintro e w4 ⟨rfl, b3⟩
 have R4 := qz0 R3 b3 (by omega)
 have F4 := qz2 F3 b3 (by omega)
 have K4 := K3.trans (b3.mono (by omega))
 have O4 := O3.below b3
 have z4 := b3.size
 clear R3 F3 K3 O3 b3
 go_wp2_with (first | (refine wpList_load_mid rfl 38 (.tmp 6) rfl (w2.heap.size) 0 ?l5x Q0f _ ?l5c Tryz.underlying38 rfl qzj ?_) | (refine wpList_store_mid rfl 38 (.tmp 4) (.tmp 36) rfl (w.heap.size + 1) 0 (Q0f).toArray ?px ?py ?pt qzj (by simp [wdC, Value.oneCell']) ?_))
 try (case l5x => rfl)
 try (case l5c => exact R4)
 try (case px => rfl)
 try (case py => rfl)
 try (case pt => exact F4)
 have hO := qzi (Q7b + 1) Q0f 0 w4
 refine bodyPost_ret (v := .tuple #[.agg (Q0f).toArray, .bool true]) ?_ rfl ⟨_, _, _, _, _, _, _, _, W2, true, rfl, (O4.only hO (by omega)).lo (by omega), V2, (by have := hnH.out; omega), fun e0 => absurd e0 hat, fun _ => hWH.out, Below.setCells (by omega) _ _ _ K4⟩
 exact qzk Tryz.results73 _ _ (Q7b + 1) 0 rfl Q0f _ (Q7c _ _ _ _ F4) Q83 rfl qzj
end
section
theorem qz6a {P : Program} {l : List Oper} {Q : Exit -> Act -> World -> Prop} {id : Nat} {a0 : Act} {w0 : World} (k : Nat) (hm : P.follows .mixedOrders = true)
  (J : (Nat -> Bool) -> World -> Prop) (hJ0 : J (fun _ => false) { w0 with drawn := w0.drawn + 1 }) (G : (Nat -> Bool) -> Nat -> Value -> World -> Prop) (hT : qzfh l.toArray k (l.length - k) = true) (hL : qzf1 l.toArray = true) (hBk : qzd2 l.toArray k = true) (hg : (l.take k).all (fun o => o.guard.isNone) = true)
  (hdst0 : dstB l.toArray a0.tmps.size = true)
  (step : ∀ (i : Nat) (o : Oper), i < k -> l[i]? = some o -> ∀ (L : Nat -> Bool) (a : Act) (w : World), L i = false -> (∀ j, L j = true -> j < k) -> (∀ j o', l[j]? = some o' -> L j = true -> ∀ e ∈ o'.after, Region.binds .any e = true -> L e.on = true) -> J L w -> (∀ t, qz8x l.toArray t = true -> a.eval (.tmp t) = a0.tmps.getD t undef) ->
   (∀ e ∈ o.after, Region.binds .any e = true -> ∀ d, qz3h l.toArray e.on = some d -> L e.on = true /\ G L e.on (a.eval (.tmp d)) w) ->
   ∀ K : Act -> World -> Prop, (∀ v w', G (onAt L i) i v w' -> J (onAt L i) w' -> (∀ j v', j ≠ i -> L j = true -> G L j v' w -> G (onAt L i) j v' w') -> K (a.put o.dst v) w') -> o.wp P a w K Q)
  (final : ∀ (L : Nat -> Bool) vs w', (∀ i, i < k -> L i = true) -> J L w' -> (∀ i, i < k -> G L i (vs i) w') ->
   wpList P l.toArray Q (l.drop k) (laid l.toArray vs Q1l (List.range Q7q) a0) w') :
  (Code.region id l.toArray true).wp P Q a0 w0 := by
 have hdst := qzbb hdst0
 have L := qz7a hL
 have hBack : ∀ i, i < k -> ∀ o, l.toArray[i]? = some o -> ∀ e ∈ o.after, Region.binds .any e = true -> e.on < i := fun i hi o ho => qzdm hBk i hi o ho
 simp only [qzfh, Bool.and_eq_true, beq_iff_eq] at hT
 obtain ⟨⟨hkm, hw⟩, hseq⟩ := hT
 have hsl : Q7q = l.length := by simp
 have hkl : k <= l.length := by omega
 refine wp_region_any hm ?_
 have key : ∀ (c : Nat) (listed : Array Bool) (vs : Nat -> Value) (w : World), qz52 listed <= c + (l.length - k) -> listed.size = Q7q -> qz5c .any l.toArray listed -> (∀ j, k <= j -> listed.getD j false = false) -> J (fun j => listed.getD j false) w ->
   (∀ i, i < Q7q -> listed.getD i false = true -> G (fun j => listed.getD j false) i (vs i) w) ->
   wpAny P .any l.toArray Q (c + (l.length - k)) listed (laid l.toArray vs listed (List.range Q7q) a0) w := by
  intro c
  induction c with
  | zero =>
   intro listed vs w hf hs hc htail hb hG
   by_cases hall : ∀ i, i < k -> listed.getD i false = true
   ·have he : listed = qz43 k 0 (Array.replicate Q7q false) := by
     apply Array.ext
     ·rw [qz2n, hs]; simp
     ·intro i h1 h2
      have g := qz37 k 0 (Array.replicate Q7q false) i (by simp; omega)
      have g1 : Q1l[i] = (Q1l).getD i false := qz4e _ _ h2
      have g2 : listed[i] = listed.getD i false := by simp [h1]
      rw [g1, g2, g]
      by_cases c : i < k
      ·rw [if_pos (by omega), hall i c]
      ·have hio : i < l.length := by omega
       rw [if_neg (by omega), htail i (by omega)]
       simp [hio]
    have hfin := final (fun j => listed.getD j false) vs w hall hb (fun i hi => hG i (by omega) (hall i hi))
    rw [<- he] at hfin
    have := qz23 (P := P) (md := .any) (Q := Q) 0 (l.drop k) k listed _ w (fun j => by simp) (by rw [he]; simpa using hseq) hfin
    simpa using this
   ·exfalso
    simp only [Classical.not_forall] at hall
    obtain ⟨i, hi, hu⟩ := hall
    have := qz4t (m := l.length - k) (by omega) htail hi (by simpa using hu)
    omega
  | succ c ih =>
   intro listed vs w hf hs hc htail hb hG
   by_cases hall : ∀ i, i < k -> listed.getD i false = true
   ·have he : listed = qz43 k 0 (Array.replicate Q7q false) := by
     apply Array.ext
     ·rw [qz2n, hs]; simp
     ·intro i h1 h2
      have g := qz37 k 0 (Array.replicate Q7q false) i (by simp; omega)
      have g1 : Q1l[i] = (Q1l).getD i false := qz4e _ _ h2
      have g2 : listed[i] = listed.getD i false := by simp [h1]
      rw [g1, g2, g]
      by_cases c : i < k
      ·rw [if_pos (by omega), hall i c]
      ·have hio : i < l.length := by omega
       rw [if_neg (by omega), htail i (by omega)]
       simp [hio]
    have hfin := final (fun j => listed.getD j false) vs w hall hb (fun i hi => hG i (by omega) (hall i hi))
    rw [<- he] at hfin
    have := qz23 (P := P) (md := .any) (Q := Q) (c + 1) (l.drop k) k listed _ w (fun j => by simp) (by rw [he]; simpa using hseq) hfin
    rw [show c + 1 + (l.length - k) = (l.drop k).length + (c + 1) by simp; omega]
    exact this
   simp only [Classical.not_forall] at hall
   obtain ⟨i1, hi1, hu1⟩ := hall
   have hu1' : listed.getD i1 false = false := by simpa using hu1
   have hu1'' : listed.getD i1 true = false := by
    have : i1 < listed.size := by omega
    simpa [this] using hu1'
   have hex : ∃ i, i < k /\ i ∈ Region.ready .any l.toArray listed := by
    apply Classical.byContradiction
    intro hno
    have : ∀ n i, i < n -> i < k -> listed.getD i false = true := by
     intro n
     induction n with
     | zero => intro i hi; omega
     | succ n ihn =>
      intro i hi hik
      rcases Nat.lt_or_ge i n with h | h
      ·exact ihn i h hik
      ·have hin : i = n := by omega
       subst hin
       cases hq : listed.getD i false with
       | true => rfl
       | false =>
        exfalso
        apply hno
        refine ⟨i, hik, mem_ready.2 ⟨?_, ?_⟩⟩
        ·have : i < listed.size := by omega
         simpa [this] using hq
        ·have hil : i < Q7q := by omega
         refine ⟨l.toArray[i], by simp, fun e he hbd => ?_⟩
         exact ihn e.on (hBack i hik _ (by simp) e he hbd) (Nat.lt_trans (hBack i hik _ (by simp) e he hbd) hik)
    have h9 := this (i1 + 1) i1 (by omega) hi1
    rw [hu1'] at h9
    cases h9
   rw [show c + 1 + (l.length - k) = (c + (l.length - k)) + 1 by omega]
   obtain ⟨i0, hi0, hr0⟩ := hex
   refine ⟨fun h0 => (by rw [h0] at hr0; cases hr0), ?_⟩
   intro i hi
   have hik := qz40 hw hc hi1 hu1'' hi
   obtain ⟨h0, o, ho, hall⟩ := mem_ready.1 hi
   have hi' : i < Q7q := (Array.getElem?_eq_some_iff.1 ho).1
   have hlt : i < listed.size := by omega
   have h1 : listed.getD i false = false := by simpa [hlt] using h0
   have ho' : l[i]? = some o := by simpa using ho
   have hguard : o.guard = none := by
    have := (List.all_eq_true.1 hg) o (List.mem_of_getElem? (i := i) (by rw [List.getElem?_take]; simp [hik, ho']))
    simpa using this
   have hnd : (List.range Q7q).Nodup := List.nodup_range
   have hlt' : ∀ e ∈ o.after, Region.binds .any e = true -> ∀ d, qz3h l.toArray e.on = some d -> e.on < Q7q /\ listed.getD e.on false = true /\ (laid l.toArray vs listed (List.range Q7q) a0).eval (.tmp d) = vs e.on := by
    intro e he hbd d hd
    have hel := hall e he hbd
    have hes : e.on < Q7q := by
     rcases Nat.lt_or_ge e.on Q7q with h | h
     ·exact h
     ·simp only [qz3h, Array.getElem?_eq_none h] at hd
      cases hd
    exact ⟨hes, hel, qz51 L vs listed e.on d hd hel _ _ hnd (List.mem_range.2 hes) (hdst _ _ hd)⟩
   have hstep := step i o hik ho' (fun j => listed.getD j false) (laid l.toArray vs listed (List.range Q7q) a0) w h1 (fun j hj => by
     rcases Nat.lt_or_ge j k with h | h
     ·exact h
     ·have := htail j h; rw [this] at hj; cases hj) (fun j o' ho' hj e he hbd => hc j o' (by simpa using ho') hj e he hbd) hb
    (fun t ht => qz2v l.toArray vs listed t _ _ (fun k _ => qz5r ht k))
    (fun e he hbd d hd => by
     obtain ⟨h2, h3, h4⟩ := hlt' e he hbd d hd
     rw [h4]
     exact ⟨h3, hG e.on h2 h3⟩)
   have hwn : Region.wanted o (yielded l.toArray (laid l.toArray vs listed (List.range Q7q) a0).tmps) = true := by simp [Region.wanted, hguard]
   unfold wpOp
   simp only [ho, hwn, if_true]
   refine Or.inl (hstep _ ?_)
   intro v w' hGi hb' hkp
   have hLn : (fun j => (listed.setIfInBounds i true).getD j false) = onAt (fun j => listed.getD j false) i := by
    funext j
    unfold onAt
    by_cases hji : j = i
    ·subst hji
     rw [if_pos rfl]
     simp [hlt]
    ·rw [if_neg hji]
     exact getD_set_ne false (Ne.symm hji)
   have hd' : o.dst = qz3h l.toArray i := by simp only [qz3h, ho, Option.bind_some]
   rw [hd', qz4x L vs listed i v hlt h1 _ _ hnd (List.mem_range.2 hi')]
   refine ih _ _ _ (by have := qz3f hlt h1; omega) (by simpa using hs) (hc.set hi) (fun j hj => by rw [getD_set_ne false (by omega)]; exact htail j hj) (by rw [hLn]; exact hb') ?_
   intro j hj hjl
   rw [hLn]
   by_cases hji : j = i
   ·subst hji
    simp only [upd, if_true]
    exact hGi
   ·rw [getD_set_ne false (Ne.symm hji)] at hjl
    simp only [upd, hji, if_false]
    exact hkp j _ hji hjl (hG j hj hjl)
 have hgf : ∀ i, (Array.replicate Q7q false).getD i false = false := by
  intro i
  rcases Nat.lt_or_ge i Q7q with h | h
  ·simp at h; simp [h]
  ·simp at h; simp [h]
 have h0 : laid l.toArray (fun _ => undef) (Array.replicate Q7q false) (List.range Q7q) a0 = a0 := by
  have : ∀ (q : List Nat) (a : Act), laid l.toArray (fun _ => undef) (Array.replicate Q7q false) q a = a := by
   intro q
   induction q with
   | nil => intro a; rfl
   | cons i q ih =>
    intro a
    simp only [laid]
    rw [hgf i]
    simpa using ih a
  exact this _ _
 have hk := key k (Array.replicate Q7q false) (fun _ => undef) { w0 with drawn := w0.drawn + 1 } (by unfold qz52; simp; omega) (by simp) (fun j o _ hj => by rw [hgf j] at hj; cases hj) (fun j _ => hgf j) (by have e : (fun j => (Array.replicate Q7q false).getD j false) = fun _ => false := funext hgf; rw [e]; exact hJ0) (fun i hi h => by rw [hgf i] at h; cases h)
 rw [h0, show k + (l.length - k) = l.toArray.size by simp; omega] at hk
 exact hk
theorem qzej {P : Program} {op : Oper} {a : Act} {w w' : World} {K : Act -> World -> Prop} {Q : Exit -> Act -> World -> Prop}
  (he : (execOp a.eval op).run P w = .ok .skip w') (h : K (a.put op.dst undef) w') : op.wp P a w K Q := by
 unfold Oper.wp
 rw [he]
 exact h
end
end Go.Proofs.YthjkdnlmopafkaaGreat
