/-
  What the law's proof goes by, part 41.
-/
import Derived.Laws.CopyOwn
import Derived.Laws.IdiomCopy
import Derived.Laws.MakeOwn
import Derived.Test.YthjkdnlmopafkaaGreatFnSealed00
import Derived.Test.YthjkdnlmopafkaaGreatFnSealed01
import Derived.Test.YthjkdnlmopafkaaGreatFnSealed03
import Derived.Test.YthjkdnlmopafkaaGreatFnSealed39
namespace Go.Proofs.YthjkdnlmopafkaaGreat
open Go.ChangeShapes Go.WideShapes Go.ChangeAt Go.RowKit
set_option maxRecDepth 100000
set_option maxHeartbeats 16000000
set_option linter.unusedVariables false
set_option linter.unusedSimpArgs false
set_option linter.unnecessarySimpa false
set_option linter.unusedSectionVars false
section
attribute [local go_sem ↓] Go.wp_at_zero Go.wp_at_succ
def qzf0 (w : World) (e : Ending) (w' : World) : Prop := ∃ (x y z u : Int) (A : Ar) (a0 a1 a2 a3 : Option Addr) (c0 c1 c2 c3 : Nat) (k : Int) (hd : Hd) (clk : Int), e = .returned (.tuple Q54) /\ A.size <= 1000000 /\ (1 <= x /\ x <= 8) /\ Q7f <= 60 /\ Q7h <= 400 /\ qzv w'.heap.size w' Q0u Q0s Q0v Q14 A /\ (∀ q, qz90 A Q0u Q0s Q0v Q14 q -> Q7b <= q) /\ Below Q7b w w'
theorem qz79 (a : Option Addr) (len cap : Nat) (w : World) (hlen : len <= 4096) (C : qz1p Q7b w a len) :
  Calls Tryz.prog 21 #[.slice a len cap] w fun e w' => qzf0 w e w' := by
 have RP := Q80 (Q80 (qza w Q4o 28 4 (by decide)) (.cells Q0h 33)) (.cells Q00 53)
 have RA := Q80 (qza (w.alloc Q15) Q0h 33 5 (by decide)) (.cells Q00 53)
 have RH := qza Q5p Q00 53 22 (by decide)
 have al0 := (((Q7g Q7b w).alloc (Q7l _) Q15).alloc (by simp) (.cells Q0h 33)).alloc (by simp; omega) (.cells Q00 53)
 have hz0 : ((Q5p).alloc (.cells Q00 53)).heap.size = Q7b + 1 + 1 + 1 := by simp
 simp only [World.size_alloc] at RA RH
 go_enter Tryz.func21, Tryz.ntmps21
 go_upto_region 1 with fail
 generalize hw0 : (Q5p).alloc (.cells Q00 53) = w0 at *
 clear hw0
 have C0 := C.below al0
 go_wp2_with fail
 refine (qzex a len cap w0 hlen (C0.weaken (by omega))).mono ?_
 rintro e w1 ⟨rfl, ⟨h1, D1⟩, b1⟩
 have RP1 := qz2 RP b1 (by omega)
 have RA1 := qz2 RA b1 (by omega)
 have RH1 := qz2 RH b1 (by omega)
 have C1 := C0.below (b1.mono (by omega))
 have K1 := al0.trans (b1.mono (by omega))
 have hb1 := D1.blk
 have hlb : Q7b + 1 + 1 < Q7r := by omega
 generalize Q7r = b at *
 clear RP RA RH C0 al0 C b1 hz0
 go_wp2_with fail
 refine (qz3r Q7b b a len cap 0 h1 2 5 w1 (by omega) hlen D1 C1 (by omega) (by omega) (by omega)).mono ?_
 rintro e w2 ⟨r, i2, h2, rfl, r0, r1, D2, C2, O2⟩
 have hz2 := O2.size
 have RP2 := qz15 RP1 O2 (by omega) (by omega)
 have RA2 := qz15 RA1 O2 (by omega) (by omega)
 have RH2 := qz15 RH1 O2 (by omega) (by omega)
 have K2 := K1.trans (O2.below (by omega) (by omega))
 clear RP1 RA1 RH1 K1 D1 C1 O2
 go_wp2_with fail
 refine (qza3 Q7b b a len cap i2 h2 r r w2 (by omega) hlen D2 C2 (by omega) (by omega) (by omega)).mono ?_
 rintro e w3 ⟨x, y, z, u, A, a0, a1, a2, a3, c0, c1, c2, c3, k, hd, clk, rfl, hAs, hx, hnl, hvl, I3, far3, ⟨i3, h3, D3⟩, C3, O3⟩
 have hz3 := O3.size
 have T1 := qz15 RP2 O3 (by omega) (by omega)
 have T2 := qz15 RA2 O3 (by omega) (by omega)
 have T3 := qz15 RH2 O3 (by omega) (by omega)
 have K3 := K2.trans (O3.below (by omega) (by omega))
 have T2' := Q81 T2 (Q7b) 0 Q0q
 have T3' := Q81 (Q81 T3 (Q7b) 0 Q0q) (Q7b + 1) 0 Q0j
 have k1 : (Q3b).rangeAt (Q7b) 0 Q0q := Q7t (Q7t (Q7c _ _ _ _ T1) _ _ _ (Or.inl (by omega))) _ _ _ (Or.inl (by omega))
 have k2 : (Q3b).rangeAt (Q7b + 1) 0 Q0j := Q7t (Q7c _ _ _ _ T2') _ _ _ (Or.inl (by omega))
 have k3 : (Q3b).rangeAt (Q7b + 1 + 1) 0 (hdC hd) := Q7c _ _ _ _ T3'
 have F3 : ∀ q, qz90 A Q0u Q0s Q0v Q14 q -> Q7b <= q /\ b < q := fun q e => by have := far3 q e; omega
 have BT : But (fun c => c = Q7b ∨ c = Q7b + 1 ∨ c = Q7b + 1 + 1) w3 Q51 := ((But.of_only (qzi (Q7b) Q0q 0 w3) (Or.inl rfl)).trans (But.of_only (qzi (Q7b + 1) Q0j 0 _) (Or.inr (Or.inl rfl)))).trans (But.of_only (qzi (Q7b + 1 + 1) (hdC hd) 0 _) (Or.inr (Or.inr rfl)))
 have I6 : qzv (Q3b).heap.size Q51 Q0u Q0s Q0v Q14 A := (I3.butN BT (Q7l _) (fun q e h => by have := F3 q e; omega)).weaken BT.size
 have K6 := K3.trans (BT.below (by omega) (fun q hq => by omega))
 have farV : ∀ q, qz90 A Q0u Q0s Q0v Q14 q -> Q7b <= q := fun q e => (F3 q e).1
 clear RP2 RA2 RH2 K2 D2 C2 D3 C3 O3 BT F3 far3 I3 K3
 go_wp2_with (first | (refine wpList_store_mid rfl 28 (.tmp 2) (.tmp 17) rfl (w.heap.size) 0 Q06 ?s1x ?s1y ?s1t qz3g (by simp [Value.oneCell']) ?_; all_goals (have tkA : True := trivial)) | (clear tkA; refine qz1q _ ?_))
 try (case s1x => rfl)
 try (case s1y => rfl)
 try (case s1t => exact T1)
 show wpList _ _ _ _ _ _
 refine Q7e rfl 33 (.tmp 3) (.tmp 18) rfl (Q7b + 1) 0 Q02 rfl rfl T2' qz2x (by simp [Value.oneCell']) ?_
 go_wp2_with (first | (refine Q7e rfl 53 (.tmp 5) (.tmp 20) rfl (Q7b + 1 + 1) 0 (hdC hd).toArray ?s3x ?s3y ?s3t (qz7 hd) (qzd hd) ?_; all_goals (have tkB : True := trivial)) | (clear tkB; refine qz1q _ ?_))
 try (case s3x => rfl)
 try (case s3y => rfl)
 try (case s3t => exact T3')
 clear T1 T2 T3 T2' T3'
 generalize Q51 = w6 at *
 refine bodyPost_ret (v := .tuple #[.agg (Q06 : Array Value), .agg Q02, .int .i64 k, .agg (hdC hd).toArray, .int .i64 clk]) ?_ rfl ⟨x, y, z, u, A, a0, a1, a2, a3, c0, c1, c2, c3, k, hd, clk, rfl, hAs, hx, hnl, hvl, I6, farV, K6⟩
 exact qz5p Tryz.results21 _ w6 (Q7b) (Q7b + 1) (Q7b + 1 + 1) rfl rfl rfl Q0q Q0j (hdC hd) _ _ _ k1 k2 k3 Tryz.underlying28 rfl qz3g Tryz.underlying33 rfl qz2x Q7d rfl (qz1 hd)
end
section
attribute [local go_sem ↓] Go.wp_at_zero Go.wp_at_succ
structure Ptrs {α : Type} (B : Nat) (w : World) (f : α -> List Value) (ps : List Addr) (l : List α) : Prop where
 len : ps.length = l.length
 at' : ∀ i (h : i < l.length), ∃ b o, ps[i]? = some ⟨b, o, none⟩ /\ b < B /\ w.rangeAt b o (f l[i])
def ptrC (p : Addr) : List Value := [.pointer (some p)]
def qzb9 {α : Type} (B : Nat) (w : World) (v : Value) (f : α -> List Value) (l : List α) : Prop :=
 ∃ ps, qzq B w v l.length (qzf ptrC ps) /\ Ptrs B w f ps l
theorem Ptrs.below {α : Type} {B : Nat} {w w' : World} {f : α -> List Value} {ps : List Addr} {l : List α} (h : Ptrs B w f ps l) (hb : Below B w w') : Ptrs B w' f ps l :=
 ⟨h.len, fun i hi => by obtain ⟨b, o, h1, h2, h3⟩ := h.at' i hi; exact ⟨b, o, h1, h2, qz0 h3 hb h2⟩⟩
theorem qzb9.below {α : Type} {B : Nat} {w w' : World} {v : Value} {f : α -> List Value} {l : List α} (h : qzb9 B w v f l) (hb : Below B w w') : qzb9 B w' v f l := by
 obtain ⟨ps, h1, h2⟩ := h
 exact ⟨ps, h1.below hb, h2.below hb⟩
structure qza5 (B : Nat) (w : World) (cb : Nat) (s g n r : Value) (A : Ar) : Prop where
 row : w.rangeAt cb 0 Q58
 blk : cb < B
 s : qzq B w s Q7w (qzf intC A.slots)
 g : qzq B w g Q7v (qzf intC A.guides)
 n : qzb9 B w n ndC A.nodes
 r : qzb9 B w r vrC A.vers
theorem qza5.below {B : Nat} {w w' : World} {cb : Nat} {s g n r : Value} {A : Ar} (h : qza5 B w cb s g n r A) (hb : Below B w w') : qza5 B w' cb s g n r A :=
 ⟨qz0 h.row hb h.blk, h.blk, h.s.below hb, h.g.below hb, h.n.below hb, h.r.below hb⟩
end
section
def Blk (w : World) (b : Nat) (t : TypeId) (n : Nat) : Prop := ∃ cur, w.heap[b]? = some (.cells cur t (0, 0)) /\ cur.size = n
theorem Blk.lt {w : World} {b : Nat} {t : TypeId} {n : Nat} (h : Blk w b t n) : b < Q7b := by
 obtain ⟨cur, h, -⟩ := h
 rcases Nat.lt_or_ge b Q7b with hl | hl
 ·exact hl
 ·rw [Array.getElem?_eq_none hl] at h; cases h
theorem Blk.ne {w : World} {a b : Nat} {t u : TypeId} {n m : Nat} (h1 : Blk w a t n) (h2 : Blk w b u m) (h : t ≠ u) : a ≠ b := by
 intro e
 subst e
 obtain ⟨c, h1, -⟩ := h1
 obtain ⟨d, h2, -⟩ := h2
 rw [h1] at h2
 injection h2 with h2
 injection h2 with _ h3 _
 exact h h3
theorem Blk.below {w w' : World} {B b : Nat} {t : TypeId} {n : Nat} (h : Blk w b t n) (hb : Below B w w') (hB : b < B) : Blk w' b t n := by
 obtain ⟨cur, h, hs⟩ := h
 exact ⟨cur, (hb.block b hB).trans h, hs⟩
theorem Blk.grown {w w' : World} {b : Nat} {t : TypeId} {n : Nat} (h : Blk w b t n) (hb : Below Q7b w w') : Blk w' b t n := h.below hb h.lt
theorem Blk.but {S : Nat -> Prop} {w w' : World} {b : Nat} {t : TypeId} {n : Nat} (h : Blk w b t n) (O : But S w w') (hS : ¬ S b) : Blk w' b t n := by
 have hl := h.lt
 obtain ⟨cur, h, hs⟩ := h
 exact ⟨cur, (O.block b hl hS).trans h, hs⟩
theorem Blk.new (w : World) (cs : Array Value) (t : TypeId) : Blk (w.alloc (.cells cs t)) Q7b t cs.size := ⟨cs, by show (w.heap.push _)[Q7b]? = some _; simp, rfl⟩
theorem Blk.setCell {w : World} {b : Nat} {t : TypeId} {n : Nat} (h : Blk w b t n) (a : Addr) (v : Value) : Blk (w.setCell a v) b t n := by
 obtain ⟨cur, h, hs⟩ := h
 by_cases e : a.block = b
 ·refine ⟨if a.spot.isSome then cur else cur.setIfInBounds a.off v, ?_, ?_⟩
  ·simp only [World.setCell, Array.getElem?_modify, e, if_true, h, Option.map_some]
  ·split
   ·exact hs
   ·simpa using hs
 ·exact ⟨cur, (Below.heap_setCell _ _ _ _ (fun h' => e h'.symm)).trans h, hs⟩
theorem Blk.setCells {t : TypeId} {b n c : Nat} : ∀ (vs : List Value) (o : Nat) (w : World), Blk w b t n -> Blk (w.setCells c o vs) b t n
 | [], _, _, h => h
 | v :: vs, o, w, h => Blk.setCells vs (o + 1) (w.setCell ⟨c, o, none⟩ v) (h.setCell _ v)
theorem Blk.there {w : World} {b : Nat} {t : TypeId} {n : Nat} (h : Blk w b t n) (o k : Nat) (hk : o + k <= n) : w.there b o k := by
 obtain ⟨cur, h, hs⟩ := h
 intro j hj
 refine ⟨?_, by simp [World.frozen?, h]⟩
 rw [show w.cell? ⟨b, o + j, none⟩ = cur[o + j]? by simp [World.cell?, h]]
 rw [Array.getElem?_eq_getElem (by omega)]
 rfl
theorem Blk.own {w : World} {base b : Nat} {t : TypeId} {n : Nat} {cs : List Value} (h : Blk w b t n) (R : w.rangeAt b 0 cs) (hl : cs.length = n) (hb : base <= b) (hm : n <= maxLen) : w.ownsRow base t 1 (.slice (some ⟨b, 0, none⟩) n n) n cs := by
 obtain ⟨cur, h, hs⟩ := h
 refine ⟨by omega, Or.inr ⟨b, n, cur, rfl, hb, h, Q7l _, hm, by omega, ?_⟩⟩
 apply List.ext_getElem?
 intro j
 rcases Nat.lt_or_ge j n with hj | hj
 ·have := R j cs[j] (by rw [List.getElem?_eq_getElem])
  rw [Nat.zero_add, show w.cell? ⟨b, j, none⟩ = cur[j]? by simp [World.cell?, h]] at this
  rw [List.getElem?_take, if_pos (by omega), Array.getElem?_toList, this, List.getElem?_eq_getElem]
 ·rw [List.getElem?_eq_none (by simp; omega), List.getElem?_eq_none (by omega)]
theorem qz9x {w : World} {base : Nat} {e : TypeId} {size n : Nat} {a : Option Addr} {cap : Nat} {xs : List Value} (h : w.ownsRow base e size (.slice a n cap) n xs) (hp : 0 < n) : ∃ g, a = some ⟨g, 0, none⟩ /\ base <= g /\ Blk w g e (cap * size) /\ n <= cap /\ w.rangeAt g 0 xs := by
 rcases h.2 with ⟨h1, h2⟩ | ⟨g, c, cur, h1, hg, hh, hnc, _, hs, ht⟩
 ·omega
 ·injection h1 with h1 h2 h3
  subst h1 h3
  refine ⟨g, rfl, hg, ⟨cur, hh, hs⟩, hnc, ?_⟩
  intro j v hj
  rw [Nat.zero_add, show w.cell? ⟨g, j, none⟩ = cur[j]? by simp [World.cell?, hh]]
  rw [<- ht, List.getElem?_take] at hj
  split at hj
  ·rwa [Array.getElem?_toList] at hj
  ·cases hj
structure qz3u {α : Type} (base : Nat) (t : TypeId) (sz : Nat) (w : World) (f : α -> List Value) (ps : List Addr) (l : List α) : Prop where
 len : ps.length = l.length
 at' : ∀ i (h : i < l.length), ∃ b o n, ps[i]? = some ⟨b, o, none⟩ /\ base <= b /\ Blk w b t n /\ o + sz <= n /\ w.rangeAt b o (f l[i])
 apart : ∀ (i j b o b' o' : Nat), i ≠ j -> ps[i]? = some ⟨b, o, none⟩ -> ps[j]? = some ⟨b', o', none⟩ -> b ≠ b' ∨ o + sz <= o' ∨ o' + sz <= o
theorem qz3u.grown {α : Type} {base : Nat} {t : TypeId} {sz : Nat} {w w' : World} {f : α -> List Value} {ps : List Addr} {l : List α} (h : qz3u base t sz w f ps l) (hb : Below Q7b w w') : qz3u base t sz w' f ps l :=
 ⟨h.len, fun i hi => by obtain ⟨b, o, n, h1, h2, h3, h4, h5⟩ := h.at' i hi; exact ⟨b, o, n, h1, h2, h3.grown hb, h4, qz0 h5 hb h3.lt⟩, h.apart⟩
theorem qz3u.but {α : Type} {base : Nat} {t : TypeId} {sz : Nat} {S : Nat -> Prop} {w w' : World} {f : α -> List Value} {ps : List Addr} {l : List α} (h : qz3u base t sz w f ps l) (O : But S w w') (hS : ∀ b n, base <= b -> Blk w b t n -> ¬ S b) : qz3u base t sz w' f ps l :=
 ⟨h.len, fun i hi => by obtain ⟨b, o, n, h1, h2, h3, h4, h5⟩ := h.at' i hi; exact ⟨b, o, n, h1, h2, h3.but O (hS b n h2 h3), h4, O.range h5 h3.lt (hS b n h2 h3)⟩, h.apart⟩
theorem qz3u.lo {α : Type} {base lo : Nat} {t : TypeId} {sz : Nat} {w : World} {f : α -> List Value} {ps : List Addr} {l : List α} (h : qz3u base t sz w f ps l) (hl : lo <= base) : qz3u lo t sz w f ps l :=
 ⟨h.len, fun i hi => by obtain ⟨b, o, n, h1, h2, h3⟩ := h.at' i hi; exact ⟨b, o, n, h1, Q7u hl h2, h3⟩, h.apart⟩
theorem qz3u.ptrs {α : Type} {base : Nat} {t : TypeId} {sz : Nat} {w : World} {f : α -> List Value} {ps : List Addr} {l : List α} (h : qz3u base t sz w f ps l) : Ptrs Q7b w f ps l :=
 ⟨h.len, fun i hi => by obtain ⟨b, o, n, h1, h2, h3, h4, h5⟩ := h.at' i hi; exact ⟨b, o, h1, h3.lt, h5⟩⟩
theorem qz3u.set {α : Type} {base : Nat} {t : TypeId} {sz : Nat} {w : World} {f : α -> List Value} {ps : List Addr} {l : List α} (hf : ∀ x, (f x).length = sz) (h : qz3u base t sz w f ps l) (i : Nat) (hi : i < l.length) (b o : Nat) (hp : ps[i]? = some ⟨b, o, none⟩) (k : Nat) (hk : k < sz) (v : Value) (x : α) (hx : (f l[i]).set k v = f x) : qz3u base t sz (w.setCell ⟨b, o + k, none⟩ v) f ps (l.set i x) := by
 refine ⟨by rw [h.len, List.length_set], fun j hj => ?_, h.apart⟩
 rw [List.length_set] at hj
 obtain ⟨b', o', n, h1, h2, h3, h4, h5⟩ := h.at' j hj
 refine ⟨b', o', n, h1, h2, h3.setCell _ _, h4, ?_⟩
 by_cases e : i = j
 ·subst e
  rw [hp] at h1
  injection h1 with h1
  injection h1 with h1 h1'
  subst h1 h1'
  rw [List.getElem_set_self, <- hx]
  intro m u hm
  by_cases em : k = m
  ·subst em
   rw [List.getElem?_set_self (by rw [hf]; exact hk)] at hm
   cases hm
   have hkl : k < (f l[i]).length := by rw [hf]; exact hk
   have hc := h5 k (f l[i])[k] (List.getElem?_eq_getElem hkl)
   exact World.cell?_setCell_same _ _ _ hc
  ·rw [List.getElem?_set_ne em] at hm
   refine (World.cell?_setCell_other _ _ _ _ ?_).trans (h5 m u hm)
   intro e'
   have := congrArg Addr.off e'
   simp at this
   omega
 ·rw [List.getElem_set_ne e]
  intro m u hm
  have hml : m < sz := by
   rcases Nat.lt_or_ge m (f l[j]).length with hl | hl
   ·rwa [hf] at hl
   ·rw [List.getElem?_eq_none hl] at hm; cases hm
  refine (World.cell?_setCell_other _ _ _ _ ?_).trans (h5 m u hm)
  intro e'
  have e1 := congrArg Addr.block e'
  have e2 := congrArg Addr.off e'
  simp at e1 e2
  rcases h.apart i j b o b' o' e hp h1 with h6 | h6 | h6
  ·exact h6 e1
  ·omega
  ·omega
def qz3x (b sz n : Nat) : List Addr := (List.range n).map fun i => ⟨b, i * sz, none⟩
theorem qz3t (b sz n : Nat) : (qz3x b sz n).length = n := by simp [qz3x]
theorem qz7n (b sz n i : Nat) (hi : i < n) : (qz3x b sz n)[i]? = some ⟨b, i * sz, none⟩ := by simp [qz3x, hi]
theorem qz7f (b sz n : Nat) : qz3x b sz (n + 1) = qz3x b sz n ++ [⟨b, n * sz, none⟩] := by simp [qz3x, List.range_succ]
theorem qz8e {α : Type} {base : Nat} {t : TypeId} {sz : Nat} {w : World} {f : α -> List Value} {b : Nat} {l : List α} (hf : ∀ x, (f x).length = sz) (hb : base <= b) (hB : Blk w b t (l.length * sz)) (R : w.rangeAt b 0 (qzf f l)) : qz3u base t sz w f (qz3x b sz l.length) l := by
 refine ⟨qz3t _ _ _, fun i hi => ⟨b, i * sz, l.length * sz, qz7n b sz l.length i hi, hb, hB, ?_, ?_⟩, ?_⟩
 ·rw [<- Nat.succ_mul]; exact Nat.mul_le_mul_right _ hi
 ·simpa using qze hf R i hi
 ·intro i j b1 o1 b2 o2 hij h1 h2
  have k1 : i < l.length := by
   rcases Nat.lt_or_ge i l.length with hl | hl
   ·exact hl
   ·rw [List.getElem?_eq_none (by rw [qz3t]; exact hl)] at h1; cases h1
  have k2 : j < l.length := by
   rcases Nat.lt_or_ge j l.length with hl | hl
   ·exact hl
   ·rw [List.getElem?_eq_none (by rw [qz3t]; exact hl)] at h2; cases h2
  rw [qz7n b sz l.length i k1] at h1
  rw [qz7n b sz l.length j k2] at h2
  injection h1 with h1
  injection h1 with h3 h4
  injection h2 with h2
  injection h2 with h5 h6
  subst h4 h6
  refine Or.inr ?_
  rcases Nat.lt_or_ge i j with h | h
  ·exact Or.inl (by rw [<- Nat.succ_mul]; exact Nat.mul_le_mul_right _ h)
  ·exact Or.inr (by rw [<- Nat.succ_mul]; exact Nat.mul_le_mul_right _ (by omega))
theorem qz8p {P : Program} (w : World) (dT sT ty elem : TypeId) (b n dCap sCap sz : Nat) (a : Option Addr) (cs : List Value)
  (hu : P.underlying dT = some (.slice elem)) (hs : (P.info? elem).map (·.size) = some sz) (hn : cs.length = n * sz)
  (hsrc : 0 < n -> ∃ ad, a = some ad /\ ∀ j v, cs[j]? = some v -> w.cell? (ad.add j) = some v) (hc : w.there b 0 (n * sz)) (h1 : ∀ v ∈ cs, v.oneCell' = true) :
  (Builtin.copy_ #[dT, sT] ty #[.slice (some ⟨b, 0, none⟩) n dCap, .slice a n sCap]).run P w = .ok (goInt n) (w.setCells b 0 cs) := by
 cases hq : P.info? elem with
 | none => simp [hq] at hs
 | some i =>
  have hi : i.size = sz := by simpa [hq] using hs
  rcases Nat.eq_zero_or_pos n with h0 | h0
  ·subst h0
   have e0 : cs = [] := List.eq_nil_of_length_eq_zero (by simpa using hn)
   subst e0
   have hl : ∀ (x : Addr), (loadCells x 0).run P w = .ok #[] w := fun x => by simpa using run_loadCells_list (P := P) w x [] (by simp)
   cases a <;> simp [Builtin.copy_, run_underlying hu, Builtin.lenOf, Builtin.firstCells, sizeOf, typeInfo, hq, storeCells, hl, World.setCells]
  ·obtain ⟨ad, rfl, hsr⟩ := hsrc h0
   have hl := run_loadCells_list (P := P) w ad cs hsr
   have hst := run_storeCells_cells (P := P) b 0 cs 0 w (fun j hj => by have := (hc j (by omega)).1; simpa using this) (fun j hj => by have := (hc j (by omega)).2; simpa using this) h1
   rw [hn] at hl
   simp [Builtin.copy_, run_underlying hu, Builtin.lenOf, Builtin.firstCells, sizeOf, typeInfo, hq, hi, hl, hst]
theorem qz45 {P : Program} {w : World} {ops : Array Oper} {rest : List Oper} {o : Oper} {a : Act} {Q : Exit -> Act -> World -> Prop} (hgd : o.guard = none) (d s : Operand) (dT sT : TypeId)
  (ho : o.op = .call { callee := .builtin .copy, args := #[d, s], argTypes := #[dT, sT] }) (elem : TypeId) (hu : P.underlying dT = some (.slice elem)) (sz : Nat) (hsz : (P.info? elem).map (·.size) = some sz)
  (sp : Option Addr) (b n dCap sCap : Nat) (hd : a.eval d = .slice (some ⟨b, 0, none⟩) n dCap) (hs : a.eval s = .slice sp n sCap)
  (cs : List Value) (hn : cs.length = n * sz) (hsrc : 0 < n -> ∃ ad, sp = some ad /\ ∀ j v, cs[j]? = some v -> w.cell? (ad.add j) = some v) (hc : w.there b 0 (n * sz)) (h1 : ∀ v ∈ cs, v.oneCell' = true)
  (h : wpList P ops Q rest (a.put o.dst (goInt n)) (w.setCells b 0 cs)) : wpList P ops Q (o :: rest) a w := by
 refine wpList_plain hgd fun K hK => ?_
 have hrun := qz8p (P := P) w dT sT o.type elem b n dCap sCap sz sp cs hu hsz hn hsrc hc h1
 unfold Oper.wp
 simp [execOp, ho, resolve, invoke, builtin, hd, hs, hrun, Result.andThen]
 exact hK _ _ h
end
end Go.Proofs.YthjkdnlmopafkaaGreat
