/-
  What the law's proof goes by, part 44.
-/
import Derived.Lib.QuietBelow
import Derived.BigQuiet
import Derived.Test.YthjkdnlmopafkaaFnBlank00
import Derived.Test.YthjkdnlmopafkaaFnBlank02
import Derived.Test.YthjkdnlmopafkaaFnBlank37
import Derived.Test.YthjkdnlmopafkaaFnBlank41
import Derived.Test.YthjkdnlmopafkaaFnBlank42
namespace Go.Proofs.Ythjkdnlmopafkaa
open Go.ChangeShapes Go.WideShapes Go.ChangeAt Go.RowKit
set_option maxRecDepth 100000
set_option maxHeartbeats 16000000
set_option linter.unusedVariables false
set_option linter.unusedSimpArgs false
set_option linter.unnecessarySimpa false
set_option linter.unusedSectionVars false
section
open Go.ChangeShapes Go.WideShapes Go.ChangeAt Go.RowKit Go.Sort
attribute [local go_sem ↓] Go.wp_at_zero Go.wp_at_succ
theorem qz6h (B : Nat) (v1 v2 : Value) (l : List Int) (w : World) (hB : B <= Q67) (hl : l.length <= 1048576) (S1 : qzs B w v1 l.length (qze intC l)) (S2 : qzs B w v2 l.length (qze intC l)) :
  Calls Try.prog 18 #[v1, v2] w fun e w' => e = .returned (.bool true) /\ Below Q67 w w' := by
 obtain ⟨a1, cap1, rfl, h1⟩ := S1
 obtain ⟨a2, cap2, rfl, h2⟩ := S2
 go_enter Try.func18, Try.ntmps18
 go_wp2
 go_loopw [5] (fun i wr => ∃ k : Nat, k <= l.length /\ i = .int .i64 k /\ Below Q67 w wr) (fun i _ => l.length - (intOf i).toNat)
 case atStart => exact ⟨0, Nat.zero_le _, rfl, Q6c _ _⟩
 case round =>
  obtain ⟨k, hk, rfl, bel⟩ := hrel
  by_cases hlt : k < l.length
  ·rcases h1 with h0 | ⟨b1, o1, rfl, hb1, R1⟩
   ·omega
   rcases h2 with h0 | ⟨b2, o2, rfl, hb2, R2⟩
   ·omega
   have hc1 := (qz0 R1 (bel.mono hB) hb1) k (.int .i64 l[k]) (by have := qzv (f := intC) (sz := 1) (fun _ => rfl) l k hlt 0 (by omega); simpa [intC] using this)
   have hc2 := (qz0 R2 (bel.mono hB) hb2) k (.int .i64 l[k]) (by have := qzv (f := intC) (sz := 1) (fun _ => rfl) l k hlt 0 (by omega); simpa [intC] using this)
   clear R1 R2
   generalize l[k] = x at *
   have hlt' : (k : Int) < (l.length : Int) := by omega
   go_wp2
   go_quiet (fail)
   go_wp2
   go_roundw
   case rel => exact ⟨k + 1, by omega, by go_num, qz3s bel _⟩
   case measure => simp [intOf]; omega
  ·go_wp2
   go_ret
   exact ⟨rfl, bel⟩
theorem qz8g (B : Nat) (A : Ar) (s1 g1 n1 r1 s2 g2 n2 r2 : Value) (w : World) (hB : B <= Q67) (hA : A.size <= 1048576) (I1 : qz1i B w s1 g1 n1 r1 A) (I2 : qz1i B w s2 g2 n2 r2 A) :
  Calls Try.prog 12 #[.agg #[.int .i64 Q6e, s1, g1, n1, r1], .agg #[.int .i64 Q6e, s2, g2, n2, r2]] w fun e w' => e = .returned (.bool true) /\ Below Q67 w w' := by
 unfold Ar.size at hA
 have X0 := Q6w (qz7 w [.int .i64 Q6e, s1, g1, n1, r1] 30) Q5d
 have Y0 : World.rangeAt ((w.alloc Q5e).alloc Q5d) (Q67 + 1) 0 [.int .i64 Q6e, s2, g2, n2, r2] := by
  have h := qz7 (w.alloc Q5e) [.int .i64 Q6e, s2, g2, n2, r2] 30
  simp only [World.size_alloc] at h
  exact h
 have K0 := ((Q6c Q67 w).alloc (Q6f _) Q5e).alloc (by simp) Q5d
 have hz0 : Q67 + 1 < ((w.alloc Q5e).alloc Q5d).heap.size := by simp
 have J0 := I1.below (K0.mono hB)
 have L0 := I2.below (K0.mono hB)
 clear I1 I2
 go_enter Try.func12, Try.ntmps12
 go_wp2_with fail
 refine (qz6h B s1 s2 A.slots _ (by have := hz0; omega) (by omega) J0.s L0.s).mono ?_
 rintro e w1 ⟨rfl, b1⟩
 have K1 := K0.trans (b1.mono (by have := hz0; omega))
 have X1 := qz0 X0 b1 (by have := hz0; omega)
 have Y1 := qz0 Y0 b1 (by have := hz0; omega)
 have J1 := J0.below (b1.mono (by have := hz0; omega))
 have L1 := L0.below (b1.mono (by have := hz0; omega))
 have hz1 := Q6l hz0 b1.size
 have c1 := X1 2 g1 rfl
 have c2 := Y1 2 g2 rfl
 simp only [Nat.zero_add] at c1 c2
 clear X0 Y0 J0 L0 K0 b1
 go_wp2_with fail
 clear c1 c2
 refine (qz6h B g1 g2 A.guides _ (by have := hz1; omega) (by omega) J1.g L1.g).mono ?_
 rintro e w2 ⟨rfl, b2⟩
 have K2 := K1.trans (b2.mono (by have := hz1; omega))
 have X2 := qz0 X1 b2 (by have := hz1; omega)
 have Y2 := qz0 Y1 b2 (by have := hz1; omega)
 have J2 := J1.below (b2.mono (by have := hz1; omega))
 have L2 := L1.below (b2.mono (by have := hz1; omega))
 have hz2 := Q6l hz1 b2.size
 clear X1 Y1 J1 L1 K1 b2
 obtain ⟨an1, cn1, rfl, N1⟩ := id J2.n
 obtain ⟨an2, cn2, rfl, N2⟩ := id L2.n
 obtain ⟨ar1, cr1, rfl, R1⟩ := id J2.r
 obtain ⟨ar2, cr2, rfl, R2⟩ := id L2.r
 have c3 := X2 3 _ rfl
 have d3 := Y2 3 _ rfl
 have c4 := X2 4 _ rfl
 have d4 := Y2 4 _ rfl
 simp only [Nat.zero_add] at c3 c4 d3 d4
 go_wp2_with fail
 clear c3 c4 d3 d4
 have hz3 := K2.size
 go_loopw [5] (fun q wr => ∃ k : Nat, k <= Q69 /\ q = .int .i64 k /\ Below Q6v w2 wr) (fun q _ => Q69 - (intOf q).toNat)
 case atStart => exact ⟨0, Nat.zero_le _, rfl, Q6c _ _⟩
 case round =>
  obtain ⟨k, hk, rfl, bel2⟩ := hrel
  have hsz2 := bel2.size
  have XW := qz0 X2 bel2 (by omega)
  have YW := qz0 Y2 bel2 (by omega)
  have KW : Below Q6v w2 wr := bel2
  have c3 : wr.cell? ⟨Q67, 3, none⟩ = some (.slice an1 Q69 cn1) := by simpa using XW 3 _ rfl
  by_cases hlt : k < Q69
  ·rcases N1 with h0 | ⟨b1, o1, rfl, hb1, R1⟩
   ·omega
   rcases N2 with h0 | ⟨b2, o2, rfl, hb2, R2⟩
   ·omega
   have E1 := qzi (f := ndC) (sz := 3) (fun _ => rfl) (qz0 R1 KW (by omega)) k hlt
   have E2 := qzi (f := ndC) (sz := 3) (fun _ => rfl) (qz0 R2 KW (by omega)) k hlt
   have hlt' : (k : Int) < (Q69 : Int) := by omega
   have hk0 : (0 : Int) <= (k : Int) := by omega
   have y3 : ∀ (dq : Nat) (os : Array Obj), (grow (redrawn wr dq) os).cell? ⟨Q67, 3, none⟩ = some (.slice (some ⟨b1, o1, none⟩) Q69 cn1) := fun dq os => cell_regrown (by simpa using XW 3 _ rfl) dq os
   have z3 : ∀ (dq : Nat) (os : Array Obj), (grow (redrawn wr dq) os).cell? ⟨Q67 + 1, 3, none⟩ = some (.slice (some ⟨b2, o2, none⟩) Q69 cn2) := fun dq os => cell_regrown (by simpa using YW 3 _ rfl) dq os
   generalize A.nodes[k] = x at *
   have hb1' : b1 < wr.heap.size := by omega
   have hb2' : b2 < wr.heap.size := by omega
   clear R1 R2 XW YW
   go_wp2
   refine wp_region_quiet_below (by kernel_rfl) (by kernel_rfl) ?_
   iterate 4 (go_big_quiet_step (fail))
   refine qzz rfl 78 (.tmp 56) rfl b1 (o1 + k * 3) rfl (ndC x) _ (fun w' hw' => by obtain ⟨⟨dq, os⟩, rfl⟩ := hw'; exact qz0 E1 (below_regrown wr dq os) (by omega)) Try.underlying78 rfl ?g2a ?_
   case g2a => rfl
   simp only [Act.put, List.setIfInBounds_toArray, List.set_cons_succ, List.set_cons_zero]
   iterate 4 (go_big_quiet_step (fail))
   refine qzz rfl 78 (.tmp 61) rfl b2 (o2 + k * 3) rfl (ndC x) _ (fun w' hw' => by obtain ⟨⟨dq, os⟩, rfl⟩ := hw'; exact qz0 E2 (below_regrown wr dq os) (by omega)) Try.underlying78 rfl ?g2b ?_
   case g2b => rfl
   refine qz33 (by first | rfl | kernel_rfl) (.bool false) (fun w' _ => qz90 _ _ (.tmp 57) (.tmp 62) _ rfl x rfl rfl w') ?_
   simp only [Act.put, List.setIfInBounds_toArray, List.set_cons_succ, List.set_cons_zero]
   refine wpQuiet_nil ?_
   intro _ hw'
   obtain ⟨⟨dq, osq⟩, hw''⟩ := hw'
   subst hw''
   have bq := below_regrown wr dq osq
   go_wp2
   go_roundw
   case rel => exact ⟨k + 1, by omega, by go_num, bel2.trans (bq.mono hsz2)⟩
   case measure => simp [intOf]; omega
  ·have c4 : wr.cell? ⟨Q67, 4, none⟩ = some (.slice ar1 Q6a cr1) := by simpa using XW 4 _ rfl
   have X3 := XW
   have Y3 := YW
   clear KW XW YW
   obtain ⟨w3, hw3⟩ : ∃ v, v = wr := ⟨_, rfl⟩
   subst hw3
   go_wp2
   go_loopw [6] (fun q wr => ∃ k : Nat, k <= Q6a /\ q = .int .i64 k /\ Below w3.heap.size w3 wr) (fun q _ => Q6a - (intOf q).toNat)
   case atStart => exact ⟨0, Nat.zero_le _, rfl, Q6c _ _⟩
   case round =>
    obtain ⟨k, hk, rfl, bel3⟩ := hrel
    have hsz3 := bel3.size
    have XW := qz0 X3 bel3 (by omega)
    have YW := qz0 Y3 bel3 (by omega)
    have KW : Below Q6v w2 wr := bel2.trans (bel3.mono hsz2)
    have c3 : wr.cell? ⟨Q67, 4, none⟩ = some (.slice ar1 Q6a cr1) := by simpa using XW 4 _ rfl
    by_cases hlt : k < Q6a
    ·rcases R1 with h0 | ⟨b1, o1, rfl, hb1, R1⟩
     ·omega
     rcases R2 with h0 | ⟨b2, o2, rfl, hb2, R2⟩
     ·omega
     have E1 := qzi (f := vrC) (sz := 5) (fun _ => rfl) (qz0 R1 KW (by omega)) k hlt
     have E2 := qzi (f := vrC) (sz := 5) (fun _ => rfl) (qz0 R2 KW (by omega)) k hlt
     have hlt' : (k : Int) < (Q6a : Int) := by omega
     have hk0 : (0 : Int) <= (k : Int) := by omega
     have y3 : ∀ (dq : Nat) (os : Array Obj), (grow (redrawn wr dq) os).cell? ⟨Q67, 4, none⟩ = some (.slice (some ⟨b1, o1, none⟩) Q6a cr1) := fun dq os => cell_regrown (by simpa using XW 4 _ rfl) dq os
     have z3 : ∀ (dq : Nat) (os : Array Obj), (grow (redrawn wr dq) os).cell? ⟨Q67 + 1, 4, none⟩ = some (.slice (some ⟨b2, o2, none⟩) Q6a cr2) := fun dq os => cell_regrown (by simpa using YW 4 _ rfl) dq os
     generalize A.vers[k] = x at *
     have hb1' : b1 < wr.heap.size := by omega
     have hb2' : b2 < wr.heap.size := by omega
     clear R1 R2 XW YW
     go_wp2
     refine wp_region_quiet_below (by kernel_rfl) (by kernel_rfl) ?_
     iterate 4 (go_big_quiet_step (fail))
     refine qzz rfl 54 (.tmp 74) rfl b1 (o1 + k * 5) rfl (vrC x) _ (fun w' hw' => by obtain ⟨⟨dq, os⟩, rfl⟩ := hw'; exact qz0 E1 (below_regrown wr dq os) (by omega)) Try.underlying54 rfl ?g3a ?_
     case g3a => rfl
     simp only [Act.put, List.setIfInBounds_toArray, List.set_cons_succ, List.set_cons_zero]
     iterate 4 (go_big_quiet_step (fail))
     refine qzz rfl 54 (.tmp 79) rfl b2 (o2 + k * 5) rfl (vrC x) _ (fun w' hw' => by obtain ⟨⟨dq, os⟩, rfl⟩ := hw'; exact qz0 E2 (below_regrown wr dq os) (by omega)) Try.underlying54 rfl ?g3b ?_
     case g3b => rfl
     refine qz33 (by first | rfl | kernel_rfl) (.bool false) (fun w' _ => qzag _ _ (.tmp 75) (.tmp 80) _ rfl x rfl rfl w') ?_
     simp only [Act.put, List.setIfInBounds_toArray, List.set_cons_succ, List.set_cons_zero]
     refine wpQuiet_nil ?_
     intro _ hw'
     obtain ⟨⟨dq, osq⟩, hw''⟩ := hw'
     subst hw''
     have bq := below_regrown wr dq osq
     go_wp2
     go_roundw
     case rel => exact ⟨k + 1, by omega, by go_num, bel3.trans (bq.mono hsz3)⟩
     case measure => simp [intOf]; omega
    ·go_wp2
     go_ret
     exact ⟨rfl, K2.trans (KW.mono (by omega))⟩
end
section
def qzd8 (l : List Oper) (k : Nat) (gs : List (Nat × Bool)) : Bool := (l.take k).all fun o => match o.guard with
 | none => true
 | some gb => gs.any (fun q => q.1 == gb.1 && q.2 == gb.2) && (o.after.any fun e => e.on == gb.1 && Region.binds .any e) && (qz2z l.toArray gb.1).isSome
theorem qzcu {l : List Oper} {k : Nat} {gs : List (Nat × Bool)} (h : qzd8 l k gs = true) (i : Nat) (hi : i < k) (o : Oper) (ho : l[i]? = some o) : ∀ gb, o.guard = some gb -> gb ∈ gs /\ (∃ e ∈ o.after, e.on = gb.1 /\ Region.binds .any e = true) /\ ∃ d, qz2z l.toArray gb.1 = some d := by
 intro gb hgb
 have hm := (List.all_eq_true.1 h) o (List.mem_of_getElem? (i := i) (by rw [List.getElem?_take]; simp [hi, ho]))
 rw [hgb] at hm
 simp only [Bool.and_eq_true, List.any_eq_true, Array.any_eq_true', beq_iff_eq] at hm
 obtain ⟨⟨⟨q, hq, h1, h2⟩, ⟨e, he, h3, h4⟩⟩, h5⟩ := hm
 refine ⟨?_, ⟨e, he, h3, h4⟩, Option.isSome_iff_exists.1 h5⟩
 have : q = gb := Prod.ext h1 h2
 rwa [<- this]
theorem qza9 {P : Program} {l : List Oper} {Q : Exit -> Act -> World -> Prop} {id : Nat} {a0 : Act} {w0 : World} (k : Nat) (hm : P.follows .mixedOrders = true)
  (J : (Nat -> Bool) -> World -> Prop) (hJ0 : J (fun _ => false) { w0 with drawn := w0.drawn + 1 }) (G : (Nat -> Bool) -> Nat -> Value -> World -> Prop) (hT : qzc8 l.toArray k (l.length - k) = true) (hL : qzcp l.toArray = true) (hBk : qzaf l.toArray k = true) (gs : List (Nat × Bool)) (hg : qzd8 l k gs = true) (hgs : ∀ gb ∈ gs, ∀ L v w, G L gb.1 v w -> v = .bool gb.2)
  (hdst0 : dstB l.toArray a0.tmps.size = true)
  (step : ∀ (i : Nat) (o : Oper), i < k -> l[i]? = some o -> ∀ (L : Nat -> Bool) (a : Act) (w : World), L i = false -> (∀ j, L j = true -> j < k) -> (∀ j o', l[j]? = some o' -> L j = true -> ∀ e ∈ o'.after, Region.binds .any e = true -> L e.on = true) -> J L w -> (∀ t, qz7l l.toArray t = true -> a.eval (.tmp t) = a0.tmps.getD t undef) ->
   (∀ e ∈ o.after, Region.binds .any e = true -> ∀ d, qz2z l.toArray e.on = some d -> L e.on = true /\ G L e.on (a.eval (.tmp d)) w) ->
   ∀ K : Act -> World -> Prop, (∀ v w', G (onAt L i) i v w' -> J (onAt L i) w' -> (∀ j v', j ≠ i -> L j = true -> G L j v' w -> G (onAt L i) j v' w') -> K (a.put o.dst v) w') -> o.wp P a w K Q)
  (final : ∀ (L : Nat -> Bool) vs w', (∀ i, i < k -> L i = true) -> J L w' -> (∀ i, i < k -> G L i (vs i) w') ->
   wpList P l.toArray Q (l.drop k) (laid l.toArray vs Q11 (List.range Q6i) a0) w') :
  (Code.region id l.toArray true).wp P Q a0 w0 := by
 have hdst := qz8w hdst0
 have L := qz65 hL
 have hBack : ∀ i, i < k -> ∀ o, l.toArray[i]? = some o -> ∀ e ∈ o.after, Region.binds .any e = true -> e.on < i := fun i hi o ho => qz9r hBk i hi o ho
 simp only [qzc8, Bool.and_eq_true, beq_iff_eq] at hT
 obtain ⟨⟨hkm, hw⟩, hseq⟩ := hT
 have hsl : Q6i = l.length := by simp
 have hkl : k <= l.length := by omega
 refine wp_region_any hm ?_
 have key : ∀ (c : Nat) (listed : Array Bool) (vs : Nat -> Value) (w : World), qz4f listed <= c + (l.length - k) -> listed.size = Q6i -> qz4j .any l.toArray listed -> (∀ j, k <= j -> listed.getD j false = false) -> J (fun j => listed.getD j false) w ->
   (∀ i, i < Q6i -> listed.getD i false = true -> G (fun j => listed.getD j false) i (vs i) w) ->
   wpAny P .any l.toArray Q (c + (l.length - k)) listed (laid l.toArray vs listed (List.range Q6i) a0) w := by
  intro c
  induction c with
  | zero =>
   intro listed vs w hf hs hc htail hb hG
   by_cases hall : ∀ i, i < k -> listed.getD i false = true
   ·have he : listed = qz3a k 0 (Array.replicate Q6i false) := by
     apply Array.ext
     ·rw [qz24, hs]; simp
     ·intro i h1 h2
      have g := qz2l k 0 (Array.replicate Q6i false) i (by simp; omega)
      have g1 : Q11[i] = (Q11).getD i false := qz3h _ _ h2
      have g2 : listed[i] = listed.getD i false := by simp [h1]
      rw [g1, g2, g]
      by_cases c : i < k
      ·rw [if_pos (by omega), hall i c]
      ·have hio : i < l.length := by omega
       rw [if_neg (by omega), htail i (by omega)]
       simp [hio]
    have hfin := final (fun j => listed.getD j false) vs w hall hb (fun i hi => hG i (by omega) (hall i hi))
    rw [<- he] at hfin
    have := qz1j (P := P) (md := .any) (Q := Q) 0 (l.drop k) k listed _ w (fun j => by simp) (by rw [he]; simpa using hseq) hfin
    simpa using this
   ·exfalso
    simp only [Classical.not_forall] at hall
    obtain ⟨i, hi, hu⟩ := hall
    have := qz3r (m := l.length - k) (by omega) htail hi (by simpa using hu)
    omega
  | succ c ih =>
   intro listed vs w hf hs hc htail hb hG
   by_cases hall : ∀ i, i < k -> listed.getD i false = true
   ·have he : listed = qz3a k 0 (Array.replicate Q6i false) := by
     apply Array.ext
     ·rw [qz24, hs]; simp
     ·intro i h1 h2
      have g := qz2l k 0 (Array.replicate Q6i false) i (by simp; omega)
      have g1 : Q11[i] = (Q11).getD i false := qz3h _ _ h2
      have g2 : listed[i] = listed.getD i false := by simp [h1]
      rw [g1, g2, g]
      by_cases c : i < k
      ·rw [if_pos (by omega), hall i c]
      ·have hio : i < l.length := by omega
       rw [if_neg (by omega), htail i (by omega)]
       simp [hio]
    have hfin := final (fun j => listed.getD j false) vs w hall hb (fun i hi => hG i (by omega) (hall i hi))
    rw [<- he] at hfin
    have := qz1j (P := P) (md := .any) (Q := Q) (c + 1) (l.drop k) k listed _ w (fun j => by simp) (by rw [he]; simpa using hseq) hfin
    rw [show c + 1 + (l.length - k) = (l.drop k).length + (c + 1) by simp; omega]
    exact this
   simp only [Classical.not_forall] at hall
   obtain ⟨i1, hi1, hu1⟩ := hall
   have hu1' : listed.getD i1 false = false := by simpa using hu1
   have hu1'' : listed.getD i1 true = false := by
    have : i1 < listed.size := by omega
    simpa [this] using hu1'
   have hex : ∃ i, i < k /\ i ∈ Region.ready .any l.toArray listed := by
    apply Classical.byContradiction
    intro hno
    have : ∀ n i, i < n -> i < k -> listed.getD i false = true := by
     intro n
     induction n with
     | zero => intro i hi; omega
     | succ n ihn =>
      intro i hi hik
      rcases Nat.lt_or_ge i n with h | h
      ·exact ihn i h hik
      ·have hin : i = n := by omega
       subst hin
       cases hq : listed.getD i false with
       | true => rfl
       | false =>
        exfalso
        apply hno
        refine ⟨i, hik, mem_ready.2 ⟨?_, ?_⟩⟩
        ·have : i < listed.size := by omega
         simpa [this] using hq
        ·have hil : i < Q6i := by omega
         refine ⟨l.toArray[i], by simp, fun e he hbd => ?_⟩
         exact ihn e.on (hBack i hik _ (by simp) e he hbd) (Nat.lt_trans (hBack i hik _ (by simp) e he hbd) hik)
    have h9 := this (i1 + 1) i1 (by omega) hi1
    rw [hu1'] at h9
    cases h9
   rw [show c + 1 + (l.length - k) = (c + (l.length - k)) + 1 by omega]
   obtain ⟨i0, hi0, hr0⟩ := hex
   refine ⟨fun h0 => (by rw [h0] at hr0; cases hr0), ?_⟩
   intro i hi
   have hik := qz35 hw hc hi1 hu1'' hi
   obtain ⟨h0, o, ho, hall⟩ := mem_ready.1 hi
   have hi' : i < Q6i := (Array.getElem?_eq_some_iff.1 ho).1
   have hlt : i < listed.size := by omega
   have h1 : listed.getD i false = false := by simpa [hlt] using h0
   have ho' : l[i]? = some o := by simpa using ho
   have hnd : (List.range Q6i).Nodup := List.nodup_range
   have hlt' : ∀ e ∈ o.after, Region.binds .any e = true -> ∀ d, qz2z l.toArray e.on = some d -> e.on < Q6i /\ listed.getD e.on false = true /\ (laid l.toArray vs listed (List.range Q6i) a0).eval (.tmp d) = vs e.on := by
    intro e he hbd d hd
    have hel := hall e he hbd
    have hes : e.on < Q6i := by
     rcases Nat.lt_or_ge e.on Q6i with h | h
     ·exact h
     ·simp only [qz2z, Array.getElem?_eq_none h] at hd
      cases hd
    exact ⟨hes, hel, qz4d L vs listed e.on d hd hel _ _ hnd (List.mem_range.2 hes) (hdst _ _ hd)⟩
   have hstep := step i o hik ho' (fun j => listed.getD j false) (laid l.toArray vs listed (List.range Q6i) a0) w h1 (fun j hj => by
     rcases Nat.lt_or_ge j k with h | h
     ·exact h
     ·have := htail j h; rw [this] at hj; cases hj) (fun j o' ho' hj e he hbd => hc j o' (by simpa using ho') hj e he hbd) hb
    (fun t ht => qz26 l.toArray vs listed t _ _ (fun k _ => qz57 ht k))
    (fun e he hbd d hd => by
     obtain ⟨h2, h3, h4⟩ := hlt' e he hbd d hd
     rw [h4]
     exact ⟨h3, hG e.on h2 h3⟩)
   have hwn : Region.wanted o (yielded l.toArray (laid l.toArray vs listed (List.range Q6i) a0).tmps) = true := by
    have hgo := qzcu hg i hik o ho'
    cases hgd : o.guard with
    | none => simp [Region.wanted, hgd]
    | some gb =>
     obtain ⟨g, bb⟩ := gb
     obtain ⟨hin, ⟨e, he, heg, hbd⟩, d, hdd⟩ := hgo _ hgd
     subst heg
     obtain ⟨h2, h3, h4⟩ := hlt' e he hbd d hdd
     have hv := hgs _ hin _ _ _ (hG e.on h2 h3)
     rw [hv] at h4
     have hsz9 : d < (laid l.toArray vs listed (List.range Q6i) a0).tmps.size := by rw [qz9y]; exact hdst _ _ hdd
     have h5 : (laid l.toArray vs listed (List.range Q6i) a0).tmps[d]? = some (.bool bb) := by
      have h6 : (laid l.toArray vs listed (List.range Q6i) a0).tmps.getD d undef = .bool bb := h4
      rw [Array.getD_eq_getD_getElem?, Array.getElem?_eq_getElem hsz9] at h6
      rw [Array.getElem?_eq_getElem hsz9]
      exact congrArg some h6
     have h7 : (l.toArray[e.on]?).bind (·.dst) = some d := hdd
     simp only [Region.wanted, hgd, yielded, h7, Option.bind_some, h5]
     simp
   unfold wpOp
   simp only [ho, hwn, if_true]
   refine Or.inl (hstep _ ?_)
   intro v w' hGi hb' hkp
   have hLn : (fun j => (listed.setIfInBounds i true).getD j false) = onAt (fun j => listed.getD j false) i := by
    funext j
    unfold onAt
    by_cases hji : j = i
    ·subst hji
     rw [if_pos rfl]
     simp [hlt]
    ·rw [if_neg hji]
     exact getD_set_ne false (Ne.symm hji)
   have hd' : o.dst = qz2z l.toArray i := by simp only [qz2z, ho, Option.bind_some]
   rw [hd', qz4g L vs listed i v hlt h1 _ _ hnd (List.mem_range.2 hi')]
   refine ih _ _ _ (by have := qz3b hlt h1; omega) (by simpa using hs) (hc.set hi) (fun j hj => by rw [getD_set_ne false (by omega)]; exact htail j hj) (by rw [hLn]; exact hb') ?_
   intro j hj hjl
   rw [hLn]
   by_cases hji : j = i
   ·subst hji
    simp only [upd, if_true]
    exact hGi
   ·rw [getD_set_ne false (Ne.symm hji)] at hjl
    simp only [upd, hji, if_false]
    exact hkp j _ hji hjl (hG j hj hjl)
 have hgf : ∀ i, (Array.replicate Q6i false).getD i false = false := by
  intro i
  rcases Nat.lt_or_ge i Q6i with h | h
  ·simp at h; simp [h]
  ·simp at h; simp [h]
 have h0 : laid l.toArray (fun _ => undef) (Array.replicate Q6i false) (List.range Q6i) a0 = a0 := by
  have : ∀ (q : List Nat) (a : Act), laid l.toArray (fun _ => undef) (Array.replicate Q6i false) q a = a := by
   intro q
   induction q with
   | nil => intro a; rfl
   | cons i q ih =>
    intro a
    simp only [laid]
    rw [hgf i]
    simpa using ih a
  exact this _ _
 have hk := key k (Array.replicate Q6i false) (fun _ => undef) { w0 with drawn := w0.drawn + 1 } (by unfold qz4f; simp; omega) (by simp) (fun j o _ hj => by rw [hgf j] at hj; cases hj) (fun j _ => hgf j) (by have e : (fun j => (Array.replicate Q6i false).getD j false) = fun _ => false := funext hgf; rw [e]; exact hJ0) (fun i hi h => by rw [hgf i] at h; cases h)
 rw [h0, show k + (l.length - k) = l.toArray.size by simp; omega] at hk
 exact hk
end
end Go.Proofs.Ythjkdnlmopafkaa
