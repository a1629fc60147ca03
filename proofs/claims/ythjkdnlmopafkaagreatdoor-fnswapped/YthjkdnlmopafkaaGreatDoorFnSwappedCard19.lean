/-
  What the law's proof goes by, part 20.
-/
import Derived.Test.YthjkdnlmopafkaaGreatDoorFnSwappedCard00
import Derived.Test.YthjkdnlmopafkaaGreatDoorFnSwappedCard13
import Derived.Test.YthjkdnlmopafkaaGreatDoorFnSwappedCard18
namespace Go.Proofs.YthjkdnlmopafkaaGreatDoor
open Go.ChangeShapes Go.WideShapes Go.ChangeAt Go.RowKit
set_option maxRecDepth 100000
set_option maxHeartbeats 16000000
set_option linter.unusedVariables false
set_option linter.unusedSimpArgs false
set_option linter.unnecessarySimpa false
set_option linter.unusedSectionVars false
section
attribute [local go_sem ↓] Go.wp_at_zero Go.wp_at_succ
def qz5e (A : Ar) (h : Hd) : Ar := { A with vers := A.vers.set h.ver.toNat { vrOf A h.ver with stamp := min h.cam Q6w } }
def qz25 (A : Ar) (h : Hd) (d : Dd) (clock : Int) : Ar × Hd × Dd :=
 if h.at_ = 2 then (A, { h with ver := (ndOf A h.x_).head, at_ := 3 }, d)
 else if h.at_ = 3 then (if qz32 A h.ver = true then (A, onH A h, d) else (A, { h with at_ := 4 }, d))
 else if h.at_ = 4 then (A, { h with cam := Q6w, camAt := clock, at_ := 5 }, d)
 else if h.at_ = 5 then (if qz32 A h.ver = true then (A, onH A h, d) else (qz5e A h, onH (qz5e A h) h, qz4i (qz5e A h) h))
 else (A, h, d)
theorem qzdd (A : Ar) (h : Hd) : (qz5e A h).size = A.size := by simp [qz5e, Ar.size]
theorem qzg8 {x y z u : Int} {A : Ar} {h : Hd} (hOk : qz10 x y z u A = true) (hc : 0 <= h.cam) (hv0 : 0 <= h.ver) (hv1 : h.ver < (Q6r : Int)) : qz10 x y z u (qz5e A h) = true := by
 obtain ⟨h1, h2, h3, h4, h5⟩ := qz1r hOk
 simp only [qz10, Bool.and_eq_true]
 refine ⟨⟨⟨⟨?_, h2⟩, h3⟩, ?_⟩, ?_⟩
 ·simpa [qz6r, qz5e] using h1
 ·simpa [qz5e] using h4
 ·rw [qz1k] at h5 ⊢
  intro i hi
  have hi' : i < Q6r := by simpa [qz5e] using hi
  have h6 := h5 i hi'
  have hcam : 0 <= Q6w := by simp only [qz6r, Bool.and_eq_true, qz13] at h1; omega
  simp only [qz5e, List.getElem_set]
  split
  ·rename_i e
   obtain ⟨k, hk⟩ : ∃ k : Nat, h.ver = k := ⟨h.ver.toNat, by omega⟩
   have : i = k := by omega
   subst this
   rw [hk, qz38 A i hi']
   simp only [verB, Bool.and_eq_true, qz13] at h6 ⊢
   exact ⟨⟨⟨h6.1.1.1, by omega⟩, h6.1.2⟩, h6.2⟩
  ·exact h6
theorem qzd7 (base : Nat) (A : Ar) (h : Hd) (d : Dd) (tk : Bool) (clock : Int) (s g n r : Value) (w : World) (hbase : base <= Q6o) (hA : A.size <= 1048576) (O : qz1t base w s g n r A) (x y z u : Int) (hOk : qz10 x y z u A = true) (hv0 : 0 <= h.ver) (hv1 : h.ver < (Q6r : Int)) (hx0 : 0 <= h.x_) (hx1 : h.x_ < (Q6q : Int)) (hcu : h.curr < (Q6q : Int)) (ho0 : 0 <= h.out) (ho1 : h.out <= 1000000) (hs0 : 0 <= h.sum) (hs1 : h.sum <= 1000000) (hcm : 0 <= h.cam) :
  Calls Tryz.prog 147 #[.agg (Q6j).toArray, .int .i64 clock] w fun e w' => ∃ s' g' n' r', e = .returned (.agg (qza Q6w s' g' n' r' (qz25 A h d clock).2.1 (qz25 A h d clock).2.2 tk).toArray) /\ qz29 base w w' s g n r s' g' n' r' (qz25 A h d clock).1 := by
 have hA' := hA
 unfold Ar.size at hA
 obtain ⟨sa, sc, rfl⟩ := qzf O.rs
 obtain ⟨ga, gc, rfl⟩ := qzf O.rg
 obtain ⟨nb, nc, rfl⟩ := qz12 O.rn (by omega)
 obtain ⟨rb, rc, rfl⟩ := qz12 O.rr (by omega)
 have S0 := qza3 base w Q0a Q07 Q0b Q05 A Q3o Q0i 60 O rfl rfl
 have hnb := qz2d O.rn (j := nb) rfl
 have hrb := qz2d O.rr (j := rb) rfl
 obtain ⟨xk, hxk⟩ : ∃ k : Nat, h.x_ = k := ⟨h.x_.toNat, by omega⟩
 obtain ⟨vk, hvk⟩ : ∃ k : Nat, h.ver = k := ⟨h.ver.toNat, by omega⟩
 have hxl : xk < Q6q := by omega
 have hvl : vk < Q6r := by omega
 go_enter Tryz.func147, Tryz.ntmps147
 have tok : True := trivial
 go_wp2_with (clear tok; refine qz2j ((w.alloc (.cells (Q3o).toArray 60)).alloc (.cells Q01 60)) ?_)
 generalize hw0 : (w.alloc (.cells (Q3o).toArray 60)).alloc (.cells Q01 60) = w0 at *
 clear hw0
 show wpList _ _ _ _ _ w0
 have hx0' : (0 : Int) <= (xk : Int) := by omega
 have hx1' : (xk : Int) < (Q6q : Int) := by omega
 have hv0' : (0 : Int) <= (vk : Int) := by omega
 have hv1' : (vk : Int) < (Q6r : Int) := by omega
 have x0 := S0.cell 0 rfl
 have x1 := S0.cell 1 rfl
 have x2 := S0.cell 2 rfl
 have x3 := S0.cell 3 rfl
 have x4 := S0.cell 4 rfl
 have q0 := S0.cell 5 rfl
 have q10 := S0.cell 15 rfl
 have q11 := S0.cell 16 rfl
 have q12 := S0.cell 17 rfl
 have q13 := S0.cell 18 rfl
 have f0 := S0.free 5 (by decide)
 have f11 := S0.free 16 (by decide)
 have f12 := S0.free 17 (by decide)
 have f13 := S0.free 18 (by decide)
 rw [hxk] at q10
 rw [hvk] at q11
 have hw1 := S0.hi
 by_cases e2 : h.at_ = 2
 case pos =>
  have hd : Hid (qz25 A h d clock = (A, { h with ver := A.nodes[xk].head, at_ := 3 }, d)) := by show _ = _; rw [qz25, if_pos e2, hxk, qz1l A xk hxl]
  have c2 := (qz23 S0.own.rn (xk * 3 + 2) (.int .i64 A.nodes[xk].head) (by rw [qzy (sz := 3) (fun _ => rfl) A.nodes xk hxl 2 (by omega)]; rfl)).1
  rw [e2] at q0
  go_upto_region 18 with fail
  have S1 : Stp base w _ Q6o (Q6o + 1) Q0a Q07 Q0b Q05 Q0a Q07 Q0b Q05 A (qza Q6w Q0a Q07 Q0b Q05 { h with ver := A.nodes[xk].head, at_ := 3 } d tk) := (S0.put 16 (by rw [qz2r]; omega) (.int .i64 A.nodes[xk].head)).put 5 (by rw [List.length_set, qz2r]; omega) (.int .i64 3)
  go_wp2_with (first | (refine Q6z rfl 60 (.tmp 2) rfl Q6o 0 ?cx2 (qza Q6w Q0a Q07 Q0b Q05 { h with ver := A.nodes[xk].head, at_ := 3 } d tk) _ ?cc2 Q71 rfl (qz7 _ _ _ _ _ _ _ _) ?_) | (refine Q6t rfl 60 (.tmp 4) _ rfl (Q6o + 1) 0 (qza Q6w Q0a Q07 Q0b Q05 { h with ver := A.nodes[xk].head, at_ := 3 } d tk).toArray ?dx2 ?dy2 ?dt2 (qzs _ _ _ _ _ _ _ _) Q0v ?_))
  try (case cx2 => rfl)
  try (case cc2 => exact S1.row)
  try (case dx2 => rfl)
  try (case dy2 => rfl)
  try (case dt2 => exact S1.to)
  refine bodyPost_ret (v := .agg (qza Q6w Q0a Q07 Q0b Q05 { h with ver := A.nodes[xk].head, at_ := 3 } d tk).toArray) ?_ rfl ⟨_, _, _, _, by rw [hd.out], by rw [hd.out]; exact S1.fin⟩
  exact qz3 Tryz.results147 _ _ (Q6o + 1) 0 rfl (qza Q6w Q0a Q07 Q0b Q05 { h with ver := A.nodes[xk].head, at_ := 3 } d tk) _ (S1.out rfl) Q71 rfl (qz7 _ _ _ _ _ _ _ _)
 by_cases e3 : h.at_ = 3
 case pos =>
  rw [e3] at q0
  cases hst : qz32 A h.ver
  case false =>
   have hd : Hid (qz25 A h d clock = (A, { h with at_ := 4 }, d)) := by show _ = _; rw [qz25, if_neg e2, if_pos e3, hst]; rfl
   rw [hvk] at hst
   go_upto_region 18 with (go_at_call 153; refine (qz1w w0.heap.size A (vk : Int) _ _ _ _ _ _ _ _ _ (Nat.le_refl _) hA' S0.is).mono ?_; rintro e w1 ⟨rfl, b1⟩; rw [hst]; have S1 := S0.below b1; have f1 := S1.free 5 (by decide); have q1 := S1.cell 5 rfl)
   have S2 : Stp base w _ Q6o (Q6o + 1) Q0a Q07 Q0b Q05 Q0a Q07 Q0b Q05 A (qza Q6w Q0a Q07 Q0b Q05 { h with at_ := 4 } d tk) := S1.put 5 (by rw [qz2r]; omega) (.int .i64 4)
   go_wp2_with (first | (refine Q6z rfl 60 (.tmp 2) rfl Q6o 0 ?cx3 (qza Q6w Q0a Q07 Q0b Q05 { h with at_ := 4 } d tk) _ ?cc3 Q71 rfl (qz7 _ _ _ _ _ _ _ _) ?_) | (refine Q6t rfl 60 (.tmp 4) _ rfl (Q6o + 1) 0 (qza Q6w Q0a Q07 Q0b Q05 { h with at_ := 4 } d tk).toArray ?dx3 ?dy3 ?dt3 (qzs _ _ _ _ _ _ _ _) Q0v ?_))
   try (case cx3 => rfl)
   try (case cc3 => exact S2.row)
   try (case dx3 => rfl)
   try (case dy3 => rfl)
   try (case dt3 => exact S2.to)
   refine bodyPost_ret (v := .agg (qza Q6w Q0a Q07 Q0b Q05 { h with at_ := 4 } d tk).toArray) ?_ rfl ⟨_, _, _, _, by rw [hd.out], by rw [hd.out]; exact S2.fin⟩
   exact qz3 Tryz.results147 _ _ (Q6o + 1) 0 rfl (qza Q6w Q0a Q07 Q0b Q05 { h with at_ := 4 } d tk) _ (S2.out rfl) Q71 rfl (qz7 _ _ _ _ _ _ _ _)
  have hd : Hid (qz25 A h d clock = (A, onH A h, d)) := by show _ = _; rw [qz25, if_neg e2, if_pos e3, hst]; rfl
  rw [hvk] at hst
  go_upto_region 18 with (first | (go_at_call 153; refine (qz1w w0.heap.size A (vk : Int) _ _ _ _ _ _ _ _ _ (Nat.le_refl _) hA' S0.is).mono ?_; rintro e w1 ⟨rfl, b1⟩; rw [hst]; have S1 := S0.below b1; have x0 := S1.cell 0 rfl; have x1 := S1.cell 1 rfl; have x2 := S1.cell 2 rfl; have x3 := S1.cell 3 rfl; have x4 := S1.cell 4 rfl) | (refine wpList_load_mid rfl 56 (.tmp 33) rfl w.heap.size 5 ?ax31 (hdC h) _ ?ac31 Tryz.underlying56 rfl (qz4 h) ?_) | (go_at_call 154; refine (Q6c).mono ?_; rintro e w2 ⟨rfl, b2⟩; have S2 := S1.below b2) | (refine wpList_store_mid rfl 56 (.tmp 36) _ rfl w.heap.size 5 (hdC (onH A h)).toArray ?bx32 ?by32 ?bt32 (qzc _) (qzk _) ?_))
  try (case ax31 => rfl)
  try (case ac31 => exact (qzv S1.row).2.1)
  try (case bx32 => rfl)
  try (case by32 => rfl)
  try (case bt32 => have T := qz1d S2.th 5 22 (by omega); rw [Nat.zero_add] at T; exact T)
  have S3 := S2.hand (onH A h)
  go_wp2_with (first | (refine Q6z rfl 60 (.tmp 2) rfl Q6o 0 ?cx33 Q3u _ ?cc33 Q71 rfl (qz7 _ _ _ _ _ _ _ _) ?_) | (refine Q6t rfl 60 (.tmp 4) _ rfl (Q6o + 1) 0 (Q3u).toArray ?dx33 ?dy33 ?dt33 (qzs _ _ _ _ _ _ _ _) Q0v ?_))
  try (case cx33 => rfl)
  try (case cc33 => exact S3.row)
  try (case dx33 => rfl)
  try (case dy33 => rfl)
  try (case dt33 => exact S3.to)
  refine bodyPost_ret (v := .agg (Q3u).toArray) ?_ rfl ⟨_, _, _, _, by rw [hd.out], by rw [hd.out]; exact S3.fin⟩
  exact qz3 Tryz.results147 _ _ (Q6o + 1) 0 rfl Q3u _ (S3.out rfl) Q71 rfl (qz7 _ _ _ _ _ _ _ _)
 by_cases e4 : h.at_ = 4
 case pos =>
  have hd : Hid (qz25 A h d clock = (A, { h with cam := Q6w, camAt := clock, at_ := 5 }, d)) := by show _ = _; rw [qz25, if_neg e2, if_neg e3, if_pos e4]
  rw [e4] at q0
  go_upto_region 18 with fail
  have S1 : Stp base w _ Q6o (Q6o + 1) Q0a Q07 Q0b Q05 Q0a Q07 Q0b Q05 A (qza Q6w Q0a Q07 Q0b Q05 { h with cam := Q6w, camAt := clock, at_ := 5 } d tk) := ((S0.put 17 (by rw [qz2r]; omega) (.int .i64 Q6w)).put 18 (by rw [List.length_set, qz2r]; omega) (.int .i64 clock)).put 5 (by rw [List.length_set, List.length_set, qz2r]; omega) (.int .i64 5)
  go_wp2_with (first | (refine Q6z rfl 60 (.tmp 2) rfl Q6o 0 ?cx4 (qza Q6w Q0a Q07 Q0b Q05 { h with cam := Q6w, camAt := clock, at_ := 5 } d tk) _ ?cc4 Q71 rfl (qz7 _ _ _ _ _ _ _ _) ?_) | (refine Q6t rfl 60 (.tmp 4) _ rfl (Q6o + 1) 0 (qza Q6w Q0a Q07 Q0b Q05 { h with cam := Q6w, camAt := clock, at_ := 5 } d tk).toArray ?dx4 ?dy4 ?dt4 (qzs _ _ _ _ _ _ _ _) Q0v ?_))
  try (case cx4 => rfl)
  try (case cc4 => exact S1.row)
  try (case dx4 => rfl)
  try (case dy4 => rfl)
  try (case dt4 => exact S1.to)
  refine bodyPost_ret (v := .agg (qza Q6w Q0a Q07 Q0b Q05 { h with cam := Q6w, camAt := clock, at_ := 5 } d tk).toArray) ?_ rfl ⟨_, _, _, _, by rw [hd.out], by rw [hd.out]; exact S1.fin⟩
  exact qz3 Tryz.results147 _ _ (Q6o + 1) 0 rfl (qza Q6w Q0a Q07 Q0b Q05 { h with cam := Q6w, camAt := clock, at_ := 5 } d tk) _ (S1.out rfl) Q71 rfl (qz7 _ _ _ _ _ _ _ _)
 by_cases e5 : h.at_ = 5
 case neg =>
  have hd : Hid (qz25 A h d clock = (A, h, d)) := by show _ = _; rw [qz25, if_neg e2, if_neg e3, if_neg e4, if_neg e5]
  go_upto_region 18 with fail
  go_wp2_with (first | (refine Q6z rfl 60 (.tmp 2) rfl Q6o 0 ?cx9 Q3o _ ?cc9 Q71 rfl (qz7 _ _ _ _ _ _ _ _) ?_) | (refine Q6t rfl 60 (.tmp 4) _ rfl (Q6o + 1) 0 (Q3o).toArray ?dx9 ?dy9 ?dt9 (qzs _ _ _ _ _ _ _ _) Q0v ?_))
  try (case cx9 => rfl)
  try (case cc9 => exact S0.row)
  try (case dx9 => rfl)
  try (case dy9 => rfl)
  try (case dt9 => exact S0.to)
  refine bodyPost_ret (v := .agg (Q3o).toArray) ?_ rfl ⟨_, _, _, _, by rw [hd.out], by rw [hd.out]; exact S0.fin⟩
  exact qz3 Tryz.results147 _ _ (Q6o + 1) 0 rfl Q3o _ (S0.out rfl) Q71 rfl (qz7 _ _ _ _ _ _ _ _)
 rw [e5] at q0
 cases hst : qz32 A h.ver
 case true =>
  have hd : Hid (qz25 A h d clock = (A, onH A h, d)) := by show _ = _; rw [qz25, if_neg e2, if_neg e3, if_neg e4, if_pos e5, hst]; rfl
  rw [hvk] at hst
  go_upto_region 18 with (first | (go_at_call 153; refine (qz1w w0.heap.size A (vk : Int) _ _ _ _ _ _ _ _ _ (Nat.le_refl _) hA' S0.is).mono ?_; rintro e w1 ⟨rfl, b1⟩; rw [hst]; have S1 := S0.below b1; have x0 := S1.cell 0 rfl; have x1 := S1.cell 1 rfl; have x2 := S1.cell 2 rfl; have x3 := S1.cell 3 rfl; have x4 := S1.cell 4 rfl) | (refine wpList_load_mid rfl 56 (.tmp 83) rfl w.heap.size 5 ?ax51 (hdC h) _ ?ac51 Tryz.underlying56 rfl (qz4 h) ?_) | (go_at_call 154; refine (Q6c).mono ?_; rintro e w2 ⟨rfl, b2⟩; have S2 := S1.below b2) | (refine wpList_store_mid rfl 56 (.tmp 86) _ rfl w.heap.size 5 (hdC (onH A h)).toArray ?bx52 ?by52 ?bt52 (qzc _) (qzk _) ?_))
  try (case ax51 => rfl)
  try (case ac51 => exact (qzv S1.row).2.1)
  try (case bx52 => rfl)
  try (case by52 => rfl)
  try (case bt52 => have T := qz1d S2.th 5 22 (by omega); rw [Nat.zero_add] at T; exact T)
  have S3 := S2.hand (onH A h)
  go_wp2_with (first | (refine Q6z rfl 60 (.tmp 2) rfl Q6o 0 ?cx53 Q3u _ ?cc53 Q71 rfl (qz7 _ _ _ _ _ _ _ _) ?_) | (refine Q6t rfl 60 (.tmp 4) _ rfl (Q6o + 1) 0 (Q3u).toArray ?dx53 ?dy53 ?dt53 (qzs _ _ _ _ _ _ _ _) Q0v ?_))
  try (case cx53 => rfl)
  try (case cc53 => exact S3.row)
  try (case dx53 => rfl)
  try (case dy53 => rfl)
  try (case dt53 => exact S3.to)
  refine bodyPost_ret (v := .agg (Q3u).toArray) ?_ rfl ⟨_, _, _, _, by rw [hd.out], by rw [hd.out]; exact S3.fin⟩
  exact qz3 Tryz.results147 _ _ (Q6o + 1) 0 rfl Q3u _ (S3.out rfl) Q71 rfl (qz7 _ _ _ _ _ _ _ _)
 have hd : Hid (qz25 A h d clock = (qz5e A h, onH (qz5e A h) h, qz4i (qz5e A h) h)) := by show _ = _; rw [qz25, if_neg e2, if_neg e3, if_neg e4, if_pos e5, hst]; rfl
 rw [hvk] at hst
 go_upto_region 15 with (go_at_call 153; refine (qz1w w0.heap.size A (vk : Int) _ _ _ _ _ _ _ _ _ (Nat.le_refl _) hA' S0.is).mono ?_; rintro e w1 ⟨rfl, b1⟩; rw [hst])
 have S1 := S0.below b1
 clear x0 x1 x2 x3 x4 q0 q10 q11 q12 q13 f0 f11 f12 f13
 have hsA : qz5e A h = { A with vers := A.vers.set vk { A.vers[vk] with stamp := min h.cam Q6w } } := by rw [qz5e, hvk, qz38 A vk hvl]; rfl
 have hAs := qzdd A h
 have hAk := qzg8 hOk hcm hv0 hv1
 have S2 := S1.ver (S0.blk rb (Or.inr (Or.inr (Or.inr rfl)))) vk hvl 2 (by omega) { A.vers[vk] with stamp := min h.cam Q6w } (.int .i64 (min h.cam Q6w)) rfl
 rw [<- hsA] at S2
 have x0 := S1.cell 0 rfl
 have x4 := S1.cell 4 rfl
 have q11 := S1.cell 16 rfl
 have q12 := S1.cell 17 rfl
 rw [hvk] at q11
 obtain ⟨c2, c2f⟩ := qz23 S1.own.rr (vk * 5 + 2) (.int .i64 A.vers[vk].stamp) (by rw [qzy (sz := 5) (fun _ => rfl) A.vers vk hvl 2 (by omega)]; rfl)
 have hne : ¬ (Q6o = rb) := by omega
 have hne' : ¬ (rb = Q6o) := by omega
 go_region_held3 (fun w' => w'.cell? ⟨Q6o, 0, none⟩ = some (.int .i64 Q6w) /\ w'.cell? ⟨Q6o, 4, none⟩ = some Q05 /\ w'.cell? ⟨Q6o, 16, none⟩ = some (.int .i64 (vk : Int)) /\ w'.cell? ⟨Q6o, 17, none⟩ = some (.int .i64 h.cam)) (go_keep) (first | (go_at_call 101; refine (qzq _ _ _).mono ?_; rintro e w' ⟨rfl, hw⟩; obtain rfl := hw.symm))
 have S2' := S2.below ((Q6s _ _).drew)
 generalize hwv : (w1.setCell ⟨rb, vk * 5 + 2, none⟩ (.int .i64 (min h.cam Q6w))).drew = wv at *
 clear hwv S2 x0 x4 q11 q12 c2 c2f
 have hl : (qz5e A h).vers.length = Q6r := by rw [hsA]; simp
 have hDeed : ∀ (wq : World), qz1j wq.heap.size wq Q0a Q07 Q0b Q05 (qz5e A h) -> Calls Tryz.prog 155 #[.agg Q2w, .agg (hdC h).toArray] wq fun e w' => e = .returned (.agg (ddC (qz4i (qz5e A h) h)).toArray) /\ Below wq.heap.size wq w' := by
  intro wq Iq
  have := qzcv wq.heap.size (qz5e A h) h sa ga (some ⟨nb, 0, none⟩) (some ⟨rb, 0, none⟩) sc gc nc rc wq (Q6v _) (by rw [hAs]; exact hA') (by rw [hl]; exact Iq) x y z u hAk hv0 (by rw [hl]; exact hv1) hx0 hx1
  rw [hl] at this
  exact this
 have hOn : ∀ (wq : World), qz1j wq.heap.size wq Q0a Q07 Q0b Q05 (qz5e A h) -> Calls Tryz.prog 154 #[.agg Q2w, .agg (hdC h).toArray] wq fun e w' => e = .returned (.agg (hdC (onH (qz5e A h) h)).toArray) /\ Below wq.heap.size wq w' := by
  intro wq Iq
  have := qzaz wq.heap.size (qz5e A h) h sa ga (some ⟨nb, 0, none⟩) (some ⟨rb, 0, none⟩) sc gc nc rc wq (Q6v _) (by rw [hAs]; exact hA') (by rw [hl]; exact Iq) x y z u hAk hv0 (by rw [hl]; exact hv1) hx0 hx1 hcu ho0 ho1 hs0 hs1
  rw [hl] at this
  exact this
 clear hsA
 generalize qz5e A h = As at *
 have x0 := S2'.cell 0 rfl
 have x1 := S2'.cell 1 rfl
 have x2 := S2'.cell 2 rfl
 have x3 := S2'.cell 3 rfl
 have x4 := S2'.cell 4 rfl
 go_upto_region 17 with (first | (refine Q6z rfl 56 (.tmp 77) rfl Q6o 5 ?ax61 (hdC h) _ ?ac61 Q6x rfl (qz4 h) ?_) | (go_at_call 155; refine (hDeed _ S2'.is).mono ?_; rintro e w3 ⟨rfl, b3⟩; have S3 := S2'.below b3) | (refine Q6t rfl 58 (.tmp 80) _ rfl Q6o 27 (ddC (qz4i As h)).toArray ?bx62 ?by62 ?bt62 (qz8l _) (qzbj _) ?_))
 try (case ax61 => rfl)
 try (case ac61 => exact (qzv S2'.row).2.1)
 try (case bx62 => rfl)
 try (case by62 => rfl)
 try (case bt62 => have T := qz1d S3.th 27 5 (by omega); rw [Nat.zero_add] at T; exact T)
 have S4 := S3.deed (qz4i As h)
 generalize w3.setCells Q6o 27 (ddC (qz4i As h)) = w4 at *
 clear x0 x1 x2 x3 x4
 have x0 := S4.cell 0 rfl
 have x1 := S4.cell 1 rfl
 have x2 := S4.cell 2 rfl
 have x3 := S4.cell 3 rfl
 have x4 := S4.cell 4 rfl
 go_upto_region 18 with (first | (refine Q6z rfl 56 (.tmp 83) rfl Q6o 5 ?ax63 (hdC h) _ ?ac63 Q6x rfl (qz4 h) ?_) | (go_at_call 154; refine (hOn _ S4.is).mono ?_; rintro e w5 ⟨rfl, b5⟩; have S5 := S4.below b5) | (refine Q6t rfl 56 (.tmp 86) _ rfl Q6o 5 (hdC (onH As h)).toArray ?bx64 ?by64 ?bt64 (qzc _) (qzk _) ?_))
 try (case ax63 => rfl)
 try (case ac63 => exact (qzv S4.row).2.1)
 try (case bx64 => rfl)
 try (case by64 => rfl)
 try (case bt64 => have T := qz1d S5.th 5 22 (by omega); rw [Nat.zero_add] at T; exact T)
 have S6 := S5.hand (onH As h)
 go_wp2_with (first | (refine Q6z rfl 60 (.tmp 2) rfl Q6o 0 ?cx65 Q55 _ ?cc65 Q71 rfl (qz7 _ _ _ _ _ _ _ _) ?_) | (refine Q6t rfl 60 (.tmp 4) _ rfl (Q6o + 1) 0 (Q55).toArray ?dx65 ?dy65 ?dt65 (qzs _ _ _ _ _ _ _ _) Q0v ?_))
 try (case cx65 => rfl)
 try (case cc65 => exact S6.row)
 try (case dx65 => rfl)
 try (case dy65 => rfl)
 try (case dt65 => exact S6.to)
 refine bodyPost_ret (v := .agg (Q55).toArray) ?_ rfl ⟨_, _, _, _, by rw [hd.out], by rw [hd.out]; exact S6.fin⟩
 exact qz3 Tryz.results147 _ _ (Q6o + 1) 0 rfl Q55 _ (S6.out rfl) Q71 rfl (qz7 _ _ _ _ _ _ _ _)
end
end Go.Proofs.YthjkdnlmopafkaaGreatDoor
