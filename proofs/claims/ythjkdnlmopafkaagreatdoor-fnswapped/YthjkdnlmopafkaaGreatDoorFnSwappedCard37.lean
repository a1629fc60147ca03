/-
  What the law's proof goes by, part 38.
-/
import Derived.Test.YthjkdnlmopafkaaGreatDoorFnSwappedCard00
import Derived.Test.YthjkdnlmopafkaaGreatDoorFnSwappedCard06
import Derived.Test.YthjkdnlmopafkaaGreatDoorFnSwappedCard13
import Derived.Test.YthjkdnlmopafkaaGreatDoorFnSwappedCard34
import Derived.Test.YthjkdnlmopafkaaGreatDoorFnSwappedCard35
namespace Go.Proofs.YthjkdnlmopafkaaGreatDoor
open Go.ChangeShapes Go.WideShapes Go.ChangeAt Go.RowKit
set_option maxRecDepth 100000
set_option maxHeartbeats 16000000
set_option linter.unusedVariables false
set_option linter.unusedSimpArgs false
set_option linter.unnecessarySimpa false
set_option linter.unusedSectionVars false
section
theorem qz3q {P : Program} {l : List Oper} {Q : Exit -> Act -> World -> Prop} {id : Nat} {a0 : Act} {w0 : World} (k : Nat) (hm : P.follows .mixedOrders = true)
  (J : (Nat -> Bool) -> World -> Prop) (hJ0 : J (fun _ => false) { w0 with drawn := w0.drawn + 1 }) (G : (Nat -> Bool) -> Nat -> Value -> World -> Prop) (hT : qze2 l.toArray k (l.length - k) = true) (hL : qze1 l.toArray = true) (hBk : qzca l.toArray k = true) (hg : (l.take k).all (fun o => o.guard.isNone) = true)
  (hdst0 : dstB l.toArray a0.tmps.size = true)
  (step : ∀ (i : Nat) (o : Oper), i < k -> l[i]? = some o -> ∀ (L : Nat -> Bool) (a : Act) (w : World), L i = false -> (∀ j, L j = true -> j < k) -> (∀ j o', l[j]? = some o' -> L j = true -> ∀ e ∈ o'.after, Region.binds .any e = true -> L e.on = true) -> J L w -> (∀ t, qz7m l.toArray t = true -> a.eval (.tmp t) = a0.tmps.getD t undef) ->
   (∀ e ∈ o.after, Region.binds .any e = true -> ∀ d, qz2v l.toArray e.on = some d -> L e.on = true /\ G L e.on (a.eval (.tmp d)) w) ->
   ∀ K : Act -> World -> Prop, (∀ v w', G (onAt L i) i v w' -> J (onAt L i) w' -> (∀ j v', j ≠ i -> L j = true -> G L j v' w -> G (onAt L i) j v' w') -> K (a.put o.dst v) w') -> o.wp P a w K Q)
  (final : ∀ (L : Nat -> Bool) vs w', (∀ i, i < k -> L i = true) -> J L w' -> (∀ i, i < k -> G L i (vs i) w') ->
   wpList P l.toArray Q (l.drop k) (laid l.toArray vs Q15 (List.range Q70) a0) w') :
  (Code.region id l.toArray true).wp P Q a0 w0 := by
 have hdst := qz9b hdst0
 have L := qz67 hL
 have hBack : ∀ i, i < k -> ∀ o, l.toArray[i]? = some o -> ∀ e ∈ o.after, Region.binds .any e = true -> e.on < i := fun i hi o ho => qzbm hBk i hi o ho
 simp only [qze2, Bool.and_eq_true, beq_iff_eq] at hT
 obtain ⟨⟨hkm, hw⟩, hseq⟩ := hT
 have hsl : Q70 = l.length := by simp
 have hkl : k <= l.length := by omega
 refine wp_region_any hm ?_
 have key : ∀ (c : Nat) (listed : Array Bool) (vs : Nat -> Value) (w : World), qz4c listed <= c + (l.length - k) -> listed.size = Q70 -> qz4r .any l.toArray listed -> (∀ j, k <= j -> listed.getD j false = false) -> J (fun j => listed.getD j false) w ->
   (∀ i, i < Q70 -> listed.getD i false = true -> G (fun j => listed.getD j false) i (vs i) w) ->
   wpAny P .any l.toArray Q (c + (l.length - k)) listed (laid l.toArray vs listed (List.range Q70) a0) w := by
  intro c
  induction c with
  | zero =>
   intro listed vs w hf hs hc htail hb hG
   by_cases hall : ∀ i, i < k -> listed.getD i false = true
   ·have he : listed = qz3c k 0 (Array.replicate Q70 false) := by
     apply Array.ext
     ·rw [qz28, hs]; simp
     ·intro i h1 h2
      have g := qz2p k 0 (Array.replicate Q70 false) i (by simp; omega)
      have g1 : Q15[i] = (Q15).getD i false := qz3o _ _ h2
      have g2 : listed[i] = listed.getD i false := by simp [h1]
      rw [g1, g2, g]
      by_cases c : i < k
      ·rw [if_pos (by omega), hall i c]
      ·have hio : i < l.length := by omega
       rw [if_neg (by omega), htail i (by omega)]
       simp [hio]
    have hfin := final (fun j => listed.getD j false) vs w hall hb (fun i hi => hG i (by omega) (hall i hi))
    rw [<- he] at hfin
    have := qz1m (P := P) (md := .any) (Q := Q) 0 (l.drop k) k listed _ w (fun j => by simp) (by rw [he]; simpa using hseq) hfin
    simpa using this
   ·exfalso
    simp only [Classical.not_forall] at hall
    obtain ⟨i, hi, hu⟩ := hall
    have := qz40 (m := l.length - k) (by omega) htail hi (by simpa using hu)
    omega
  | succ c ih =>
   intro listed vs w hf hs hc htail hb hG
   by_cases hall : ∀ i, i < k -> listed.getD i false = true
   ·have he : listed = qz3c k 0 (Array.replicate Q70 false) := by
     apply Array.ext
     ·rw [qz28, hs]; simp
     ·intro i h1 h2
      have g := qz2p k 0 (Array.replicate Q70 false) i (by simp; omega)
      have g1 : Q15[i] = (Q15).getD i false := qz3o _ _ h2
      have g2 : listed[i] = listed.getD i false := by simp [h1]
      rw [g1, g2, g]
      by_cases c : i < k
      ·rw [if_pos (by omega), hall i c]
      ·have hio : i < l.length := by omega
       rw [if_neg (by omega), htail i (by omega)]
       simp [hio]
    have hfin := final (fun j => listed.getD j false) vs w hall hb (fun i hi => hG i (by omega) (hall i hi))
    rw [<- he] at hfin
    have := qz1m (P := P) (md := .any) (Q := Q) (c + 1) (l.drop k) k listed _ w (fun j => by simp) (by rw [he]; simpa using hseq) hfin
    rw [show c + 1 + (l.length - k) = (l.drop k).length + (c + 1) by simp; omega]
    exact this
   simp only [Classical.not_forall] at hall
   obtain ⟨i1, hi1, hu1⟩ := hall
   have hu1' : listed.getD i1 false = false := by simpa using hu1
   have hu1'' : listed.getD i1 true = false := by
    have : i1 < listed.size := by omega
    simpa [this] using hu1'
   have hex : ∃ i, i < k /\ i ∈ Region.ready .any l.toArray listed := by
    apply Classical.byContradiction
    intro hno
    have : ∀ n i, i < n -> i < k -> listed.getD i false = true := by
     intro n
     induction n with
     | zero => intro i hi; omega
     | succ n ihn =>
      intro i hi hik
      rcases Nat.lt_or_ge i n with h | h
      ·exact ihn i h hik
      ·have hin : i = n := by omega
       subst hin
       cases hq : listed.getD i false with
       | true => rfl
       | false =>
        exfalso
        apply hno
        refine ⟨i, hik, mem_ready.2 ⟨?_, ?_⟩⟩
        ·have : i < listed.size := by omega
         simpa [this] using hq
        ·have hil : i < Q70 := by omega
         refine ⟨l.toArray[i], by simp, fun e he hbd => ?_⟩
         exact ihn e.on (hBack i hik _ (by simp) e he hbd) (Nat.lt_trans (hBack i hik _ (by simp) e he hbd) hik)
    have h9 := this (i1 + 1) i1 (by omega) hi1
    rw [hu1'] at h9
    cases h9
   rw [show c + 1 + (l.length - k) = (c + (l.length - k)) + 1 by omega]
   obtain ⟨i0, hi0, hr0⟩ := hex
   refine ⟨fun h0 => (by rw [h0] at hr0; cases hr0), ?_⟩
   intro i hi
   have hik := qz37 hw hc hi1 hu1'' hi
   obtain ⟨h0, o, ho, hall⟩ := mem_ready.1 hi
   have hi' : i < Q70 := (Array.getElem?_eq_some_iff.1 ho).1
   have hlt : i < listed.size := by omega
   have h1 : listed.getD i false = false := by simpa [hlt] using h0
   have ho' : l[i]? = some o := by simpa using ho
   have hguard : o.guard = none := by
    have := (List.all_eq_true.1 hg) o (List.mem_of_getElem? (i := i) (by rw [List.getElem?_take]; simp [hik, ho']))
    simpa using this
   have hnd : (List.range Q70).Nodup := List.nodup_range
   have hlt' : ∀ e ∈ o.after, Region.binds .any e = true -> ∀ d, qz2v l.toArray e.on = some d -> e.on < Q70 /\ listed.getD e.on false = true /\ (laid l.toArray vs listed (List.range Q70) a0).eval (.tmp d) = vs e.on := by
    intro e he hbd d hd
    have hel := hall e he hbd
    have hes : e.on < Q70 := by
     rcases Nat.lt_or_ge e.on Q70 with h | h
     ·exact h
     ·simp only [qz2v, Array.getElem?_eq_none h] at hd
      cases hd
    exact ⟨hes, hel, qz43 L vs listed e.on d hd hel _ _ hnd (List.mem_range.2 hes) (hdst _ _ hd)⟩
   have hstep := step i o hik ho' (fun j => listed.getD j false) (laid l.toArray vs listed (List.range Q70) a0) w h1 (fun j hj => by
     rcases Nat.lt_or_ge j k with h | h
     ·exact h
     ·have := htail j h; rw [this] at hj; cases hj) (fun j o' ho' hj e he hbd => hc j o' (by simpa using ho') hj e he hbd) hb
    (fun t ht => qz21 l.toArray vs listed t _ _ (fun k _ => qz4s ht k))
    (fun e he hbd d hd => by
     obtain ⟨h2, h3, h4⟩ := hlt' e he hbd d hd
     rw [h4]
     exact ⟨h3, hG e.on h2 h3⟩)
   have hwn : Region.wanted o (yielded l.toArray (laid l.toArray vs listed (List.range Q70) a0).tmps) = true := by simp [Region.wanted, hguard]
   unfold wpOp
   simp only [ho, hwn, if_true]
   refine Or.inl (hstep _ ?_)
   intro v w' hGi hb' hkp
   have hLn : (fun j => (listed.setIfInBounds i true).getD j false) = onAt (fun j => listed.getD j false) i := by
    funext j
    unfold onAt
    by_cases hji : j = i
    ·subst hji
     rw [if_pos rfl]
     simp [hlt]
    ·rw [if_neg hji]
     exact getD_set_ne false (Ne.symm hji)
   have hd' : o.dst = qz2v l.toArray i := by simp only [qz2v, ho, Option.bind_some]
   rw [hd', qz4d L vs listed i v hlt h1 _ _ hnd (List.mem_range.2 hi')]
   refine ih _ _ _ (by have := qz2w hlt h1; omega) (by simpa using hs) (hc.set hi) (fun j hj => by rw [getD_set_ne false (by omega)]; exact htail j hj) (by rw [hLn]; exact hb') ?_
   intro j hj hjl
   rw [hLn]
   by_cases hji : j = i
   ·subst hji
    simp only [upd, if_true]
    exact hGi
   ·rw [getD_set_ne false (Ne.symm hji)] at hjl
    simp only [upd, hji, if_false]
    exact hkp j _ hji hjl (hG j hj hjl)
 have hgf : ∀ i, (Array.replicate Q70 false).getD i false = false := by
  intro i
  rcases Nat.lt_or_ge i Q70 with h | h
  ·simp at h; simp [h]
  ·simp at h; simp [h]
 have h0 : laid l.toArray (fun _ => undef) (Array.replicate Q70 false) (List.range Q70) a0 = a0 := by
  have : ∀ (q : List Nat) (a : Act), laid l.toArray (fun _ => undef) (Array.replicate Q70 false) q a = a := by
   intro q
   induction q with
   | nil => intro a; rfl
   | cons i q ih =>
    intro a
    simp only [laid]
    rw [hgf i]
    simpa using ih a
  exact this _ _
 have hk := key k (Array.replicate Q70 false) (fun _ => undef) { w0 with drawn := w0.drawn + 1 } (by unfold qz4c; simp; omega) (by simp) (fun j o _ hj => by rw [hgf j] at hj; cases hj) (fun j _ => hgf j) (by have e : (fun j => (Array.replicate Q70 false).getD j false) = fun _ => false := funext hgf; rw [e]; exact hJ0) (fun i hi h => by rw [hgf i] at h; cases h)
 rw [h0, show k + (l.length - k) = l.toArray.size by simp; omega] at hk
 exact hk
theorem qz83 {L : Nat -> Bool} {i m : Nat} (h : i ≠ m) (hm : onAt L i m = true) : L m = true := by
 simp only [onAt] at hm
 rwa [if_neg (fun e => h e.symm)] at hm
end
section
theorem Below.drawn1 (w : World) : Below Q6o w { w with drawn := w.drawn + 1 } := ⟨rfl, rfl, rfl, Q6v _, fun _ _ => rfl⟩
theorem qz1t.ge {base : Nat} {w : World} {s g n r : Value} {A : Ar} (O : qz1t base w s g n r A) (q : Nat) (h : OwnB s g n r q) : base <= q := by
 rcases h with e | e | e | e
 ·exact qz1g O.rs e
 ·exact qz1g O.rg e
 ·exact qz1g O.rn e
 ·exact qz1g O.rr e
theorem qz1t.farB {base c : Nat} {w w' : World} {s g n r : Value} {A : Ar} (O : qz1t base w s g n r A) (hb : Only c w w') (hne : ∀ q, OwnB s g n r q -> q ≠ c) : qz1t base w' s g n r A :=
 ⟨qzm O.rs hb (fun j e => hne j (Or.inl e)), qzm O.rg hb (fun j e => hne j (Or.inr (Or.inl e))), qzm O.rn hb (fun j e => hne j (Or.inr (Or.inr (Or.inl e)))), qzm O.rr hb (fun j e => hne j (Or.inr (Or.inr (Or.inr e)))), O.ne⟩
theorem qz1f.but {k : IntKind} {S : Nat -> Prop} {w w' : World} {b : Nat} {a : Option Addr} {len cap : Nat} {i h : Int} (D : qz1f k w b a len cap i h) (hb : But S w w') (hne : ¬ S b) : qz1f k w' b a len cap i h := by
 obtain ⟨c0, c1, c2, f1, f2, lo, hi, blk⟩ := D
 exact ⟨(hb.cell (p := ⟨b, 0, none⟩) blk hne).trans c0, (hb.cell (p := ⟨b, 1, none⟩) blk hne).trans c1, (hb.cell (p := ⟨b, 2, none⟩) blk hne).trans c2, (hb.frozen (p := ⟨b, 1, none⟩) blk hne).trans f1, (hb.frozen (p := ⟨b, 2, none⟩) blk hne).trans f2, lo, hi, Q72 blk hb.size⟩
theorem qz88 {b : Nat} {S : Nat -> Prop} {x w w' : World} (h : Only b x w) (k : But S w w') (hS : ∀ q, q < x.heap.size -> q ≠ b -> ¬ S q) : Only b x w' :=
 ⟨k.os.trans h.os, k.tape.trans h.tape, k.output.trans h.output, Q77 h.size k.size, fun q hq hn => (k.block q (Q72 hq h.size) (hS q hq hn)).trans (h.block q hq hn)⟩
theorem qz3r (w : World) (q k : Nat) (v : Value) : Only q w (w.setCell ⟨q, k, none⟩ v) := (Only.refl q w).setCell (p := ⟨q, k, none⟩) (Or.inl rfl) v
theorem qz1t.slot {base gb c : Nat} {w : World} {g n r : Value} {A : Ar} (O : qz1t base w (.slice (some ⟨gb, 0, none⟩) Q74 c) g n r A) (k : Nat) (hk : k < Q74) (m : Int) : qz1t base (w.setCell ⟨gb, k, none⟩ (.int .i64 m)) (.slice (some ⟨gb, 0, none⟩) Q74 c) g n r { A with slots := A.slots.set k m } := by
 have h1 := qz58 O.rs k (by omega) (.int .i64 m)
 have h2 := qz2u (f := intC) (sz := 1) (fun _ => rfl) A.slots k hk 0 (by decide) m (.int .i64 m) rfl
 simp only [Nat.mul_one, Nat.add_zero] at h2
 rw [<- h2] at h1
 have OO := qz3r w gb k (.int .i64 m)
 refine ⟨?_, qzm O.rg OO (fun j e h => by subst h; exact O.ne _ rfl e), qzm O.rn OO (fun j e h => by subst h; exact qz2b O.rs O.rn (by decide) _ rfl e), qzm O.rr OO (fun j e h => by subst h; exact qz2b O.rs O.rr (by decide) _ rfl e), O.ne⟩
 simpa using h1
theorem qz1t.gde {base gb c : Nat} {w : World} {s n r : Value} {A : Ar} (O : qz1t base w s (.slice (some ⟨gb, 0, none⟩) Q75 c) n r A) (k : Nat) (hk : k < Q75) (m : Int) : qz1t base (w.setCell ⟨gb, k, none⟩ (.int .i64 m)) s (.slice (some ⟨gb, 0, none⟩) Q75 c) n r { A with guides := A.guides.set k m } := by
 have h1 := qz58 O.rg k (by omega) (.int .i64 m)
 have h2 := qz2u (f := intC) (sz := 1) (fun _ => rfl) A.guides k hk 0 (by decide) m (.int .i64 m) rfl
 simp only [Nat.mul_one, Nat.add_zero] at h2
 rw [<- h2] at h1
 have OO := qz3r w gb k (.int .i64 m)
 refine ⟨qzm O.rs OO (fun j e h => by subst h; exact O.ne _ e rfl), ?_, qzm O.rn OO (fun j e h => by subst h; exact qz2b O.rg O.rn (by decide) _ rfl e), qzm O.rr OO (fun j e h => by subst h; exact qz2b O.rg O.rr (by decide) _ rfl e), O.ne⟩
 simpa using h1
theorem qz1t.nde {base gb c : Nat} {w : World} {s g r : Value} {A : Ar} (O : qz1t base w s g (.slice (some ⟨gb, 0, none⟩) Q6q c) r A) (k : Nat) (hk : k < Q6q) (j : Nat) (hj : j < 3) (m : Int) (X : Nd) (hX : ndC X = (ndC A.nodes[k]).set j (.int .i64 m)) : qz1t base (w.setCell ⟨gb, k * 3 + j, none⟩ (.int .i64 m)) s g (.slice (some ⟨gb, 0, none⟩) Q6q c) r { A with nodes := A.nodes.set k X } := by
 have h1 := qz58 O.rn (k * 3 + j) (by omega) (.int .i64 m)
 rw [<- qz2u (f := ndC) (sz := 3) (fun _ => rfl) A.nodes k hk j hj X (.int .i64 m) hX] at h1
 have OO := qz3r w gb (k * 3 + j) (.int .i64 m)
 refine ⟨qzm O.rs OO (fun i e h => by subst h; exact qz2b O.rn O.rs (by decide) _ rfl e), qzm O.rg OO (fun i e h => by subst h; exact qz2b O.rn O.rg (by decide) _ rfl e), ?_, qzm O.rr OO (fun i e h => by subst h; exact qz2b O.rn O.rr (by decide) _ rfl e), O.ne⟩
 simpa using h1
theorem qz1t.vrs {base gb c : Nat} {w : World} {s g n : Value} {A : Ar} (O : qz1t base w s g n (.slice (some ⟨gb, 0, none⟩) Q6r c) A) (k : Nat) (hk : k < Q6r) (j : Nat) (hj : j < 5) (m : Int) (X : Vr) (hX : vrC X = (vrC A.vers[k]).set j (.int .i64 m)) : qz1t base (w.setCell ⟨gb, k * 5 + j, none⟩ (.int .i64 m)) s g n (.slice (some ⟨gb, 0, none⟩) Q6r c) { A with vers := A.vers.set k X } := by
 have h1 := qz58 O.rr (k * 5 + j) (by omega) (.int .i64 m)
 rw [<- qz2u (f := vrC) (sz := 5) (fun _ => rfl) A.vers k hk j hj X (.int .i64 m) hX] at h1
 have OO := qz3r w gb (k * 5 + j) (.int .i64 m)
 refine ⟨qzm O.rs OO (fun i e h => by subst h; exact qz2b O.rr O.rs (by decide) _ rfl e), qzm O.rg OO (fun i e h => by subst h; exact qz2b O.rr O.rg (by decide) _ rfl e), qzm O.rn OO (fun i e h => by subst h; exact qz2b O.rr O.rn (by decide) _ rfl e), ?_, O.ne⟩
 simpa using h1
def qzcz (A : Ar) : Prop := Q74 <= 9 /\ Q75 <= 8 /\ (1 <= Q6q /\ Q6q <= 60) /\ (1 <= Q6r /\ Q6r <= 400)
structure Any2 (B b b2 b3 b4 b5 : Nat) (w wr : World) (a : Option Addr) (len cap : Nat) (x y z u : Int) (s g n r : Value) (A : Ar) : Prop where
 dice : ∃ i h, qz1f .i64 wr b a len cap i h
 bytes : qz17 B wr a len
 row : wr.rangeAt b5 0 Q2t
 th : wr.there b5 0 5
 pl : wr.rangeAt b4 0 Q0n
 r2 : wr.there b2 0 4
 r3 : wr.there b3 0 5
 own : qz1t Q6o wr s g n r A
 far : ∀ q, OwnB s g n r q -> q ≠ b2 /\ q ≠ b3 /\ q ≠ b4 /\ q ≠ b5
 only : Only b w wr
 lo : Q6o <= b2 /\ b2 < b3 /\ b3 < b4 /\ b4 < b5 /\ b5 < wr.heap.size
 sm : qzcz A
section
variable {B b b2 b3 b4 b5 : Nat} {w wr w' : World} {a : Option Addr} {len cap : Nat} {x y z u : Int} {s g n r : Value} {A : Ar}
theorem Any2.draw (P : Any2 B b b2 b3 b4 b5 w wr a len cap x y z u s g n r A) (hbw : b < Q6o) {i' h' : Int} (D' : qz1f .i64 w' b a len cap i' h') (C' : qz17 B w' a len) (O' : Only b wr w') : Any2 B b b2 b3 b4 b5 w w' a len cap x y z u s g n r A := by
 have l := P.lo
 have hz := O'.size
 exact ⟨⟨i', h', D'⟩, C', qzh P.row O' (by omega) (by omega), qzj P.th O' (by omega) (by omega), qzh P.pl O' (by omega) (by omega), qzj P.r2 O' (by omega) (by omega), qzj P.r3 O' (by omega) (by omega), P.own.only O' hbw, P.far, P.only.trans O', by omega, P.sm⟩
theorem Any2.drew1 (P : Any2 B b b2 b3 b4 b5 w wr a len cap x y z u s g n r A) (hB : B <= b) : Any2 B b b2 b3 b4 b5 w { wr with drawn := wr.drawn + 1 } a len cap x y z u s g n r A := by
 obtain ⟨i, h, Dd⟩ := P.dice
 have O := P.own.below (Below.drawn1 wr)
 exact ⟨⟨i, h, Dd.below (Below.drawn1 wr)⟩, P.bytes.below ((Below.drawn1 wr).mono (by have := Dd.blk; omega)), P.row, P.th, P.pl, P.r2, P.r3, O, P.far, P.only.trans (Only.of_below (Below.drawn1 wr)), P.lo, P.sm⟩
theorem Any2.elem (P : Any2 B b b2 b3 b4 b5 w wr a len cap x y z u s g n r A) (hB : B <= b) (hbw : b < Q6o) {q k : Nat} {v : Value} {A' : Ar} (hq : OwnB s g n r q) (hc : A'.camera = Q6w) (hs : qzcz A') (own' : qz1t Q6o (wr.setCell ⟨q, k, none⟩ v) s g n r A') : Any2 B b b2 b3 b4 b5 w (wr.setCell ⟨q, k, none⟩ v) a len cap x y z u s g n r A' := by
 have l := P.lo
 have O' := qz3r wr q k v
 have hz := O'.size
 have f := P.far q hq
 have hl := P.own.ge q hq
 obtain ⟨i, h, Dd⟩ := P.dice
 exact ⟨⟨i, h, Dd.only O' (by omega)⟩, P.bytes.below (O'.below (by omega) (by have := Dd.blk; omega)), by rw [hc]; exact qzh P.row O' (by omega) (by omega), qzj P.th O' (by omega) (by omega), qzh P.pl O' (by omega) (by omega), qzj P.r2 O' (by omega) (by omega), qzj P.r3 O' (by omega) (by omega), own', P.far, qz5v P.only O' hl, by omega, hs⟩
theorem Any2.cam (P : Any2 B b b2 b3 b4 b5 w wr a len cap x y z u s g n r A) (hB : B <= b) (hbw : b < Q6o) (m : Int) : Any2 B b b2 b3 b4 b5 w (wr.setCell ⟨b5, 0, none⟩ (.int .i64 m)) a len cap x y z u s g n r { A with camera := m } := by
 have l := P.lo
 have O' := qz3r wr b5 0 (.int .i64 m)
 have hz := O'.size
 obtain ⟨i, h, Dd⟩ := P.dice
 have R := qz3g (p := []) (h := .int .i64 Q6w) (q := [s, g, n, r]) (b := b5) (o := 0) P.row (.int .i64 m)
 exact ⟨⟨i, h, Dd.only O' (by omega)⟩, P.bytes.below (O'.below (by omega) (by have := Dd.blk; omega)), R, qz2 P.th _ _, qzh P.pl O' (by omega) (by omega), qzj P.r2 O' (by omega) (by omega), qzj P.r3 O' (by omega) (by omega), by have o := P.own.farB O' (fun q e => (P.far q e).2.2.2); exact ⟨o.rs, o.rg, o.rn, o.rr, o.ne⟩, P.far, qz5v P.only O' (by omega), by omega, P.sm⟩
theorem Any2.slots {s' : Value} {v : Int} (P : Any2 B b b2 b3 b4 b5 w wr a len cap x y z u s g n r A) (hB : B <= b) (hbw : b < Q6o) (own' : w'.ownsRow Q6o 2 1 s' (Q74 + 1) (qz8 intC (A.slots ++ [v]))) (hb : But (fun q => Value.ownBlock s = some q) wr w') (hat : ∀ q, s'.ownBlock = some q -> s.ownBlock = some q ∨ wr.heap.size <= q) (hs : Q74 <= 8) : Any2 B b b2 b3 b4 b5 w (w'.setCell ⟨b5, 1, none⟩ s') a len cap x y z u s' g n r { A with slots := A.slots ++ [v] } := by
 have l := P.lo
 have O' := qz3r w' b5 1 s'
 have hz := O'.size
 have hzb := hb.size
 have hw := P.only.size
 have hsl : ∀ q, s.ownBlock = some q -> Q6o <= q /\ q ≠ b2 /\ q ≠ b3 /\ q ≠ b4 /\ q ≠ b5 := fun q e => ⟨qz1g P.own.rs e, P.far q (Or.inl e)⟩
 obtain ⟨i, h, Dd⟩ := P.dice
 have hd := Dd.blk
 have nb : ∀ c, c < Q6o ∨ c = b2 ∨ c = b3 ∨ c = b4 ∨ c = b5 -> ¬ (s.ownBlock = some c) := fun c hc e => by have := hsl c e; omega
 have BB : Below Q6o wr w' := ⟨hb.os, hb.tape, hb.output, hb.size, fun k hk => hb.block k (by omega) (nb k (Or.inl hk))⟩
 have R := qz3g (p := [.int .i64 Q6w]) (h := s) (q := [g, n, r]) (b := b5) (o := 0) (hb.range P.row (by omega) (nb b5 (by simp))) s'
 have f' : ∀ q, OwnB s' g n r q -> q ≠ b2 /\ q ≠ b3 /\ q ≠ b4 /\ q ≠ b5 := fun q e => by
  rcases e with e | e | e | e
  ·rcases hat q e with h | h
   ·exact P.far q (Or.inl h)
   ·omega
  ·exact P.far q (Or.inr (Or.inl e))
  ·exact P.far q (Or.inr (Or.inr (Or.inl e)))
  ·exact P.far q (Or.inr (Or.inr (Or.inr e)))
 have og := qz1x P.own.rg hb (fun j e h => P.own.ne j h e)
 have on' := qz1x P.own.rn hb (fun j e h => qz2b P.own.rn P.own.rs (by decide) j e h)
 have or' := qz1x P.own.rr hb (fun j e h => qz2b P.own.rr P.own.rs (by decide) j e h)
 have ne' : ∀ q, s'.ownBlock = some q -> g.ownBlock ≠ some q := fun q e eg => by
  rcases hat q e with h | h
  ·exact P.own.ne q h eg
  ·have := qz2d P.own.rg eg; omega
 have oo : qz1t Q6o w' s' g n r { A with slots := A.slots ++ [v] } := ⟨by simpa using own', og, on', or', ne'⟩
 exact ⟨⟨i, h, ((Dd.but hb (nb b (Or.inl hbw))).only O' (by omega))⟩, (P.bytes.below (BB.mono (by omega))).below (O'.below (by omega) (by omega)), R, qz2 (hb.there P.th (by omega) (nb b5 (by simp))) _ _, qzh (hb.range P.pl (by omega) (nb b4 (by simp))) O' (by omega) (by omega), qzj (hb.there P.r2 (by omega) (nb b2 (by simp))) O' (by omega) (by omega), qzj (hb.there P.r3 (by omega) (nb b3 (by simp))) O' (by omega) (by omega), oo.farB O' (fun q e => (f' q e).2.2.2), f', qz5v (qz88 P.only hb (fun q hq hn => nb q (Or.inl hq))) O' (by omega), by omega, ⟨by simp; omega, P.sm.2⟩⟩
end
structure qz8d (n1 n2 : Nat) (B b : Nat) (wr : World) (a : Option Addr) (len cap : Nat) (p q bp ba : Nat) (x y z u : Int) (c : Int) (s g n r : Value) (L : Nat -> Bool) (V : World) : Prop where
 dice : ∃ i h, qz1f .i64 V b a len cap i h
 bytes : qz17 B V a len
 k1 : V.rangeAt bp 0 Q0n
 k2 : V.rangeAt ba 0 [.int .i64 c, s, g, n, r]
 k6 : V.there p 0 4
 k7 : V.there q 0 5
 k9 : L n1 = true -> V.rangeAt p 0 Q0n
 k10 : L n2 = true -> V.rangeAt q 0 [.int .i64 c, s, g, n, r]
 k12 : But (fun c => c = p ∨ c = q ∨ c = b) wr V
 lo : (B <= p /\ B <= q /\ B <= b) /\ p ≠ q /\ p ≠ b /\ q ≠ b /\ p ≠ bp /\ p ≠ ba /\ q ≠ bp /\ q ≠ ba /\ b ≠ bp /\ b ≠ ba /\ p < wr.heap.size /\ q < wr.heap.size /\ bp < wr.heap.size /\ ba < wr.heap.size /\ B <= wr.heap.size
 ne : n1 ≠ n2
section
variable {n1 n2 : Nat} {B b : Nat} {wr : World} {a : Option Addr} {len cap : Nat} {p q bp ba : Nat} {x y z u c : Int} {s g n r : Value} {L : Nat -> Bool} {V V' : World}
theorem qz8d.on (J : qz8d n1 n2 B b wr a len cap p q bp ba x y z u c s g n r L V) (i : Nat) (h1 : i ≠ n1) (h2 : i ≠ n2) : qz8d n1 n2 B b wr a len cap p q bp ba x y z u c s g n r (onAt L i) V :=
 ⟨J.dice, J.bytes, J.k1, J.k2, J.k6, J.k7, fun h => J.k9 (qz83 h1 h), fun h => J.k10 (qz83 h2 h), J.k12, J.lo, J.ne⟩
theorem qz8d.draw (J : qz8d n1 n2 B b wr a len cap p q bp ba x y z u c s g n r L V) (i : Nat) (h1 : i ≠ n1) (h2 : i ≠ n2) {i' h' : Int} (D' : qz1f .i64 V' b a len cap i' h') (C' : qz17 B V' a len) (O' : Only b V V') : qz8d n1 n2 B b wr a len cap p q bp ba x y z u c s g n r (onAt L i) V' := by
 have l := J.lo
 have hz := J.k12.size
 exact ⟨⟨i', h', D'⟩, C', qzh J.k1 O' (by omega) (by omega), qzh J.k2 O' (by omega) (by omega), qzj J.k6 O' (by omega) (by omega), qzj J.k7 O' (by omega) (by omega), fun h => qzh (J.k9 (qz83 h1 h)) O' (by omega) (by omega), fun h => qzh (J.k10 (qz83 h2 h)) O' (by omega) (by omega), J.k12.trans (But.of_only O' (Or.inr (Or.inr rfl))), l, J.ne⟩
theorem qz8d.st0 (J : qz8d n1 n2 B b wr a len cap p q bp ba x y z u c s g n r L V) : qz8d n1 n2 B b wr a len cap p q bp ba x y z u c s g n r (onAt L n1) (V.setCells p 0 Q0n) := by
 have l := J.lo
 have hz := J.k12.size
 have O' := qze p Q0n 0 V
 obtain ⟨i', h', Dd⟩ := J.dice
 have nn := J.ne
 exact ⟨⟨i', h', Dd.only O' (by omega)⟩, J.bytes.below (O'.below (by omega) (by omega)), Q7d J.k1 _ _ _ (Or.inl (by omega)), Q7d J.k2 _ _ _ (Or.inl (by omega)), Q7f J.k6 _ _ _, Q7f J.k7 _ _ _, fun _ => Q6u _ _ _ _ J.k6, fun h => Q7d (J.k10 (qz83 (by omega) h)) _ _ _ (Or.inl (by omega)), J.k12.trans (But.of_only O' (Or.inl rfl)), l, J.ne⟩
theorem qz8d.st1 (J : qz8d n1 n2 B b wr a len cap p q bp ba x y z u c s g n r L V) : qz8d n1 n2 B b wr a len cap p q bp ba x y z u c s g n r (onAt L n2) (V.setCells q 0 [.int .i64 c, s, g, n, r]) := by
 have l := J.lo
 have hz := J.k12.size
 have O' := qze q [.int .i64 c, s, g, n, r] 0 V
 obtain ⟨i', h', Dd⟩ := J.dice
 have nn := J.ne
 exact ⟨⟨i', h', Dd.only O' (by omega)⟩, J.bytes.below (O'.below (by omega) (by omega)), Q7d J.k1 _ _ _ (Or.inl (by omega)), Q7d J.k2 _ _ _ (Or.inl (by omega)), Q7f J.k6 _ _ _, Q7f J.k7 _ _ _, fun h => Q7d (J.k9 (qz83 (by omega) h)) _ _ _ (Or.inl (by omega)), fun _ => Q6u _ _ _ _ J.k7, J.k12.trans (But.of_only O' (Or.inr (Or.inl rfl))), l, J.ne⟩
end
theorem qz2h {P : Program} {ops : Array Oper} {rest : List Oper} {o : Oper} {a : Act} {w w' : World} {Q : Exit -> Act -> World -> Prop} (hg : o.guard = none) (he : (execOp a.eval o).run P w = .ok .skip w') (h : wpList P ops Q rest (a.put o.dst undef) w') : wpList P ops Q (o :: rest) a w :=
 wpList_plain hg fun _ hK => by
  unfold Oper.wp
  rw [he]
  exact hK _ _ h
theorem qz7v (ops : Array Oper) (vs : Nat -> Value) (listed : Array Bool) : ∀ (l : List Nat) (a : Act), (laid ops vs listed l a).defers = a.defers
 | [], a => rfl
 | i :: l, a => by
  simp only [laid]
  rw [qz7v ops vs listed l]
  split
  ·cases qz2v ops i <;> rfl
  ·rfl
theorem qzbv {P : Program} {fn : Func} {p q : Tmp} {t1 t2 : TypeId} (h : fn.results = #[.cell p t1, .cell q t2]) (tmps : Array Value) (w : World) (b1 b2 : Nat) (h1 : tmps.getD p undef = .pointer (some ⟨b1, 0, none⟩)) (h2 : tmps.getD q undef = .pointer (some ⟨b2, 0, none⟩))
  (c1 c2 : List Value) (d1 d2 : TypeDesc) (r1 : w.rangeAt b1 0 c1) (r2 : w.rangeAt b2 0 c2) (u1 : P.underlying t1 = some d1) (k1 : d1.isRow = true) (i1 : (P.info? t1).map (·.size) = some c1.length) (u2 : P.underlying t2 = some d2) (k2 : d2.isRow = true) (i2 : (P.info? t2).map (·.size) = some c2.length) :
  (results fn tmps).run P w = .ok (.tuple #[.agg c1.toArray, .agg c2.toArray]) w := by
 have l1 := run_loadVar_mid (P := P) w b1 0 t1 c1 d1 r1 u1 k1 i1
 have l2 := run_loadVar_mid (P := P) w b2 0 t2 c2 d2 r2 u2 k2 i2
 rw [Array.getD_eq_getD_getElem?] at h1 h2
 simp [results, h, h1, h2, asAddr, Result.andThen, l1, l2]
end
end Go.Proofs.YthjkdnlmopafkaaGreatDoor
