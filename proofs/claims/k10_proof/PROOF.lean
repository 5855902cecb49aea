import PyProof.Rows.All
import Wide.All
import OpenK.AllK
import Wide.FinOn
import HandS.SortOrd
import KE.LtData
import HandS.ForMost
import HandS.AnyAll
import HandS.GenList
import HandS.IsInst
import HandS.Zip
import HandS.Deep
import HandS.StrMore
import KE.KMinKey
import KE.DatumOrd
import KE.DataMinMax
import HandS.Codes
import HandS.FStr
import KE.KDictZip
import HandS.More
import HandS.Wide
import PyProof.AutoSeq1
import HandS.Lambda
import HandS.ExcOwn
import HandS.TupAny
import HandS.Iter
import HandS.Gcd
import HandS.Dict
import HandS.WordsDict
import HandS.TupLen
import HandS.SortRule
import KE.KTupSum
import HandS.Conv
import HandS.HotCalls
import HandS.ExcIs
import HandS.ExcField
import KE.KExcIs
import HandS.EndTab
import HandS.ExcInit
import HandS.ClsMeth
import HandS.WordsExc
import PySem.Challenge.RW_runsorts_k10_papers_judged
set_option Elab.async false
set_option maxRecDepth 100000
set_option maxHeartbeats 4000000
/-! heaps over places 0 .. n - 1, f what stands there -/
namespace HQ
section
variable {α : Type} {lt : α → α → Bool}
def par (i : Nat) : Nat := (i - 1) / 2
/-- each thing whose parent stands at k or behind it is no less than that parent -/
def From (lt : α → α → Bool) (n : Nat) (f : Nat → α) (k : Nat) : Prop := ∀ i, 1 ≤ i → i < n → k ≤ par i → lt (f i) (f (par i)) = false
def swp (f : Nat → α) (i j : Nat) : Nat → α := fun k => if k = i then f j else if k = j then f i else f k
inductive Desc (top : Nat) : Nat → Prop
  | refl : Desc top top
  | step {c : Nat} (h : 1 ≤ c) (d : Desc top (par c)) : Desc top c
/-- what lies under pos is no less than what lies over it -/
def Over (lt : α → α → Bool) (n : Nat) (f : Nat → α) (top pos : Nat) : Prop :=
  pos = top ∨ (1 ≤ pos ∧ Desc top (par pos) ∧ ∀ c, 1 ≤ c → c < n → par c = pos → lt (f c) (f (par pos)) = false)
structure Down (lt : α → α → Bool) (n : Nat) (f : Nat → α) (top pos : Nat) : Prop where
  ds : Desc top pos
  ok : ∀ i, 1 ≤ i → i < n → top ≤ par i → par i ≠ pos → i ≠ pos → lt (f i) (f (par i)) = false
  over : Over lt n f top pos
structure Up (lt : α → α → Bool) (n : Nat) (f : Nat → α) (top pos : Nat) : Prop where
  ds : Desc top pos
  ok : ∀ i, 1 ≤ i → i < n → top ≤ par i → i ≠ pos → lt (f i) (f (par i)) = false
  over : Over lt n f top pos
theorem par_lt {i : Nat} (h : 1 ≤ i) : par i < i := by unfold par; omega
theorem Desc.le {top p : Nat} (h : Desc top p) : top ≤ p := by
  induction h with
  | refl => exact Nat.le_refl _
  | step h _ ih => exact Nat.le_trans ih (Nat.le_of_lt (par_lt h))
theorem Desc.zero : ∀ p : Nat, Desc 0 p := fun p => by
  induction p using Nat.strongRecOn with
  | ind p ih =>
    by_cases h : 1 ≤ p
    · exact .step h (ih _ (par_lt h))
    · have e : p = 0 := by omega
      subst e
      exact .refl
theorem Desc.up {top p : Nat} (h : Desc top p) (ne : p ≠ top) : 1 ≤ p ∧ Desc top (par p) := by
  cases h with
  | refl => exact absurd rfl ne
  | step h d => exact ⟨h, d⟩
theorem par_left (i : Nat) : par (2 * i + 1) = i := by unfold par; omega
theorem par_right (i : Nat) : par (2 * i + 2) = i := by unfold par; omega
theorem par_iff {i p : Nat} (h : 1 ≤ i) : par i = p ↔ i = 2 * p + 1 ∨ i = 2 * p + 2 := by unfold par; omega
theorem From.down {n : Nat} {f : Nat → α} {k : Nat} (h : From lt n f (k + 1)) : Down lt n f k k :=
  ⟨.refl, fun i h1 h2 h3 h4 _ => h i h1 h2 (by omega), .inl rfl⟩
theorem Down.leaf {n : Nat} {f : Nat → α} {top pos : Nat} (h : Down lt n f top pos) (hl : ¬ pos < n / 2) : Up lt n f top pos :=
  ⟨h.ds, fun i h1 h2 h3 h4 => h.ok i h1 h2 h3 (fun e => by
    rcases (par_iff h1).mp e with z | z <;> omega) h4, h.over⟩
/-- the lesser child goes up -/
theorem Down.step (O : SrtO.Swo lt) {n : Nat} {f : Nat → α} {top pos c : Nat} (h : Down lt n f top pos) (hc : c < n) (hp : c = 2 * pos + 1 ∨ c = 2 * pos + 2)
    (hm : ∀ d, (d = 2 * pos + 1 ∨ d = 2 * pos + 2) → d < n → lt (f d) (f c) = false) : Down lt n (swp f c pos) top c := by
  have pc : par c = pos := (par_iff (by omega)).mpr hp
  have hle := h.ds.le
  refine ⟨.step (by omega) (by rw [pc]; exact h.ds), fun i h1 h2 h3 h4 h5 => ?_, .inr ⟨by omega, by rw [pc]; exact h.ds, fun d h1 h2 h3 => ?_⟩⟩
  · -- i is not c, its parent is not c
    have si : swp f c pos i = if i = pos then f c else f i := by
      unfold swp
      rw [if_neg h5]
    have sp : swp f c pos (par i) = if par i = pos then f c else f (par i) := by
      unfold swp
      rw [if_neg h4]
    rw [si, sp]
    have nn : ¬ (i = pos ∧ par i = pos) := fun z => by
      have := par_lt h1
      omega
    by_cases e1 : i = pos
    · have e2 : ¬ par i = pos := fun z => nn ⟨e1, z⟩
      rw [if_pos e1, if_neg e2]
      rcases h.over with z | ⟨z1, z2, z3⟩
      · rw [e1] at h3
        have := par_lt (i := pos) (by omega)
        omega
      · rw [e1]
        exact z3 c (by omega) hc pc
    · rw [if_neg e1]
      by_cases e2 : par i = pos
      · rw [if_pos e2]
        exact hm i ((par_iff h1).mp e2) h2
      · rw [if_neg e2]
        exact h.ok i h1 h2 h3 e2 e1
  · -- d under c
    have e1 : d ≠ c := fun z => by
      have := par_lt h1
      omega
    have e2 : d ≠ pos := fun z => by
      have := par_lt h1
      have := par_lt (i := c) (by omega)
      omega
    have s1 : swp f c pos d = f d := by
      unfold swp
      rw [if_neg e1, if_neg e2]
    have s2 : swp f c pos (par c) = f c := by
      unfold swp
      rw [pc, if_neg (by have := par_lt (i := c) (by omega); omega), if_pos rfl]
    rw [s1, s2]
    have := h.ok d h1 h2 (by rw [h3]; omega) (by rw [h3]; have := par_lt (i := c) (by omega); omega) e2
    rw [h3] at this
    exact this
/-- it goes up past its parent -/
theorem Up.step (O : SrtO.Swo lt) {n : Nat} {f : Nat → α} {top pos : Nat} (h : Up lt n f top pos) (hn : pos < n) (ht : top < pos) (hl : lt (f pos) (f (par pos)) = true) : Up lt n (swp f (par pos) pos) top (par pos) := by
  have hpp := par_lt (i := pos) (by omega)
  rcases h.over with z | ⟨z1, z2, z3⟩
  · omega
  refine ⟨z2, fun i h1 h2 h3 h4 => ?_, ?_⟩
  · have si : swp f (par pos) pos i = if i = pos then f (par pos) else f i := by
      unfold swp
      rw [if_neg h4]
    rw [si]
    by_cases e1 : i = pos
    · rw [if_pos e1]
      have sp : swp f (par pos) pos (par i) = f pos := by
        unfold swp
        rw [e1, if_pos rfl]
      rw [sp]
      exact O.asym _ _ hl
    · rw [if_neg e1]
      by_cases e2 : par i = par pos
      · have sp : swp f (par pos) pos (par i) = f pos := by
          unfold swp
          rw [if_pos e2]
        rw [sp]
        have a := h.ok i h1 h2 h3 e1
        rw [e2] at a
        exact O.tr _ _ _ (O.asym _ _ hl) a
      · by_cases e3 : par i = pos
        · have sp : swp f (par pos) pos (par i) = f (par pos) := by
            unfold swp
            rw [if_neg e2, if_pos e3]
          rw [sp]
          exact z3 i h1 h2 e3
        · have sp : swp f (par pos) pos (par i) = f (par i) := by
            unfold swp
            rw [if_neg e2, if_neg e3]
          rw [sp]
          exact h.ok i h1 h2 h3 e1
  · by_cases e : par pos = top
    · exact .inl e
    · obtain ⟨g1, g2⟩ := z2.up e
      refine .inr ⟨g1, g2, fun c c1 c2 c3 => ?_⟩
      have hq := par_lt g1
      have sq : swp f (par pos) pos (par (par pos)) = f (par (par pos)) := by
        unfold swp
        rw [if_neg (by omega), if_neg (by omega)]
      have a : lt (f (par pos)) (f (par (par pos))) = false := h.ok _ g1 (by omega) g2.le (by omega)
      rw [sq]
      have hc := par_lt c1
      by_cases e1 : c = pos
      · have sc : swp f (par pos) pos c = f (par pos) := by
          unfold swp
          rw [if_neg (by omega), if_pos e1]
        rw [sc]
        exact a
      · have sc : swp f (par pos) pos c = f c := by
          unfold swp
          rw [if_neg (by omega), if_neg e1]
        rw [sc]
        have b := h.ok c c1 c2 (by rw [c3]; exact z2.le) e1
        rw [c3] at b
        exact O.tr _ _ _ a b
theorem Up.top {n : Nat} {f : Nat → α} {top pos : Nat} (h : Up lt n f top pos) (hp : ¬ top < pos) : From lt n f top := fun i h1 h2 h3 => h.ok i h1 h2 h3 fun e => by
  have := par_lt h1
  omega
theorem Up.stop {n : Nat} {f : Nat → α} {top pos : Nat} (h : Up lt n f top pos) (hl : lt (f pos) (f (par pos)) = false) : From lt n f top := fun i h1 h2 h3 => by
  by_cases e : i = pos
  · rw [e]; exact hl
  · exact h.ok i h1 h2 h3 e
theorem From.push {n : Nat} {f g : Nat → α} (h : From lt n f 0) (e : ∀ i, i < n → g i = f i) : Up lt (n + 1) g 0 n := by
  refine ⟨.zero _, fun i h1 h2 h3 h4 => ?_, ?_⟩
  · have := par_lt h1
    rw [e i (by omega), e (par i) (by omega)]
    exact h i h1 (by omega) (Nat.zero_le _)
  · by_cases z : n = 0
    · exact .inl z
    · refine .inr ⟨by omega, .zero _, fun c c1 c2 c3 => ?_⟩
      have := par_lt c1
      omega
theorem From.root {n : Nat} {f g : Nat → α} (h : From lt n f 0) (e : ∀ i, 1 ≤ i → i < n → g i = f i) : Down lt n g 0 0 :=
  ⟨.refl, fun i h1 h2 _ h4 _ => by
    have := par_lt h1
    rw [e i h1 h2, e (par i) (by omega) (by omega)]
    exact h i h1 h2 (Nat.zero_le _), .inl rfl⟩
theorem From.less {n m : Nat} {f : Nat → α} {k : Nat} (h : From lt n f k) (hm : m ≤ n) : From lt m f k := fun i h1 h2 h3 => h i h1 (by omega) h3
theorem From.half {n : Nat} {f : Nat → α} : From lt n f (n / 2) := fun i h1 h2 h3 => by
  have : par i = (i - 1) / 2 := rfl
  omega
theorem From.few {n : Nat} {f : Nat → α} (h : n < 2) : From lt n f 0 := fun i h1 h2 _ => by omega
theorem From.least (O : SrtO.Swo lt) {n : Nat} {f : Nat → α} (h : From lt n f 0) : ∀ i, i < n → lt (f i) (f 0) = false := fun i => by
  induction i using Nat.strongRecOn with
  | ind i ih =>
    intro hi
    by_cases h1 : 1 ≤ i
    · have hp := par_lt h1
      exact O.tr _ _ _ (ih _ hp (by omega)) (h i h1 hi (Nat.zero_le _))
    · have e : i = 0 := by omega
      subst e
      exact O.refl _
end
end HQ
set_option Elab.async false
set_option maxRecDepth 100000
set_option maxHeartbeats 2000000
namespace HQ
open PySem PySem.Spec PyProof.Rows L2 PySem.SeqAt
/-! ### tuples whose first numbers differ -/
theorem tupLt2 (a b : Addr) (xs ys : Array Value) (n m : Nat) (da db : Option Addr) (sa sb : Array (Option Value)) (e r : Nat → Bool) :
    Meets (Builtin.«tuple.__lt__» ⟨[.ref a, .ref b], []⟩) (fun A R s => s.heap.get? a = some ⟨.type "tuple", da, .seq xs n, sa⟩ ∧ s.heap.get? b = some ⟨.type "tuple", db, .seq ys m, sb⟩ ∧
        (∀ j (p : j < xs.size) (q : j < ys.size), (∀ i < j, e i = true) → EqAt A.in1 s xs[j] ys[j] (e j)) ∧ (∀ j (p : j < xs.size) (q : j < ys.size), (∀ i < j, e i = true) → e j = false → RcLt A.in1 s xs[j] ys[j] (r j)) ∧
        R (.ok (.ret (.bool (firstLt e r (decide (xs.size < ys.size)) (List.range (min xs.size ys.size)))))) s) := .of_wp fun prog w A R s H => by
    obtain ⟨hp, g, d, tk, os⟩ := s
    obtain ⟨ha, hb, he, hr, H⟩ := H
    have sub := AutoSeq1.sub_tuple_tuple
    have lZ : (xs.toList.zip ys.toList).length = min xs.size ys.size := by simp
    wp_walk using AutoSeq1.wpAny_loadPart' ha, AutoSeq1.wpAny_loadPart' hb, wpAny_forIn_list _ (fun rest c s' => c.1 = none ∧ s' = ⟨hp, g, d, tk, os⟩ ∧ ∃ i, rest = (xs.toList.zip ys.toList).drop i ∧ (∀ k < i, e k = true) ∧ R (.ok (.ret (.bool (firstLt e r (decide (xs.size < ys.size)) ((List.range (min xs.size ys.size)).drop i))))) ⟨hp, g, d, tk, os⟩) _
    case turn =>
      rintro ⟨y, x⟩ rest c s' ⟨hc, rfl, i, hz, hk, hR⟩
      have hlt : i < (xs.toList.zip ys.toList).length := by
        by_cases z : i < (xs.toList.zip ys.toList).length
        · exact z
        · rw [List.drop_of_length_le (Nat.le_of_not_lt z)] at hz
          cases hz
      have hm : i < min xs.size ys.size := by rw [← lZ]; exact hlt
      have i1 : i < xs.size := by omega
      have i2 : i < ys.size := by omega
      rw [List.drop_eq_getElem_cons hlt] at hz
      obtain ⟨hyx, hrest⟩ := List.cons.inj hz
      have ey : y = xs[i] := by simpa using congrArg Prod.fst hyx
      have ex : x = ys[i] := by simpa using congrArg Prod.snd hyx
      subst ey ex
      have ed : (List.range (min xs.size ys.size)).drop i = i :: (List.range (min xs.size ys.size)).drop (i + 1) := by
        simp [List.drop_eq_getElem_cons, hm]
      rw [ed] at hR
      refine wpAny_bind (he i i1 i2 hk prog w _ _ ?_)
      by_cases ei : e i = true
      · rw [firstLt_yes ei] at hR
        rw [ei]
        wp_walk
        refine ⟨rfl, rfl, i + 1, hrest, fun k kk => ?_, hR⟩
        by_cases z : k = i
        · rw [z]; exact ei
        · exact hk k (by omega)
      · have ei : e i = false := by simpa using ei
        rw [firstLt_no ei] at hR
        rw [ei]
        generalize hrc : PySem.richCompare = rc
        wp_walk
        subst hrc
        refine hr i i1 i2 hk ei prog w _ _ ?_
        wp_walk
        exact ⟨_, rfl, hR⟩
    case fin =>
      rintro ⟨c1, c2⟩ s' ⟨hc, rfl, i, hz, _, hR⟩
      simp only at hc
      subst hc
      have hge : min xs.size ys.size ≤ i := by
        by_cases z : i < (xs.toList.zip ys.toList).length
        · rw [List.drop_eq_getElem_cons z] at hz
          cases hz
        · rw [← lZ]
          omega
      rw [List.drop_of_length_le (by simpa using hge)] at hR
      wp_walk
      exact ⟨_, rfl, by simpa [Builtin.Tuple.tupleCompareSizes, firstLt] using hR⟩
    case h =>
      exact ⟨rfl, rfl, 0, rfl, fun k kk => absurd kk (Nat.not_lt_zero _), by simpa using H⟩
def eTri (x1 x2 y1 y2 : Int) (j : Nat) : Bool := if j = 0 then decide (x1 = y1) else if j = 1 then decide (x2 = y2) else false
def rTri (x1 x2 y1 y2 : Int) (j : Nat) : Bool := if j = 0 then decide (x1 < y1) else decide (x2 < y2)
theorem triLt {x1 x2 y1 y2 : Int} {d d' : PyData} (h : x1 ≠ y1 ∨ x2 ≠ y2) : PySem.W.dataLt (.tuple [.int x1, .int x2, d]) (.tuple [.int y1, .int y2, d']) = (if x1 = y1 then decide (x2 < y2) else decide (x1 < y1)) := by
  have al : ∀ a b : Int, PySem.W.alike (.int a) (.int b) = true := fun a b => by simp [PySem.W.alike]
  have ev : ∀ a b : Int, PyData.eqv (.int a) (.int b) = decide (a = b) := fun a b => by by_cases q : a = b <;> simp [q, PyData.eqv]
  rw [PySem.W.dataLt_tuple]
  by_cases e1 : x1 = y1
  · have e2 : ¬ x2 = y2 := fun z => h.elim (fun q => q e1) fun q => q z
    rw [if_pos e1, PySem.W.dataLt_all_yes (al x1 y1) (by rw [ev]; exact decide_eq_true e1), PySem.W.dataLt_all_no (al x2 y2) (by rw [ev]; exact decide_eq_false e2), PySem.W.dataLt_int]
  · rw [if_neg e1, PySem.W.dataLt_all_no (al x1 y1) (by rw [ev]; exact decide_eq_false e1), PySem.W.dataLt_int]
theorem three {h : Heap} {l : List Value} {a b c : PyData} {as : List Addr} (r : ReadsAll h l [a, b, c] as) : ∃ v1 v2 v3 : Value, l = [v1, v2, v3] ∧ (∃ z, Reads h v1 a z) ∧ ∃ z, Reads h v2 b z := by
  cases r with
  | cons r1 t1 =>
    cases t1 with
    | cons r2 t2 =>
      cases t2 with
      | cons r3 t3 =>
        cases t3
        exact ⟨_, _, _, rfl, ⟨_, r1⟩, ⟨_, r2⟩⟩
theorem rc_tri {x1 x2 y1 y2 : Int} {d d' : PyData} {A : Around} {s : Shared} {u v : Value} {as bs : List Addr} (ra : Reads s.heap u (.tuple [.int x1, .int x2, d]) as) (rb : Reads s.heap v (.tuple [.int y1, .int y2, d']) bs) (h : x1 ≠ y1 ∨ x2 ≠ y2) (hu : A.units + 1 < cLine) :
    RcLt A s u v (PySem.W.dataLt (.tuple [.int x1, .int x2, d]) (.tuple [.int y1, .int y2, d'])) := by
  rw [triLt h]
  cases ra with
  | @tuple l o vs n _ as₁ h1 h2 h3 h4 =>
    cases rb with
    | @tuple l' o' vs' n' _ bs₁ k1 k2 k3 k4 =>
      obtain ⟨p1, p2, p3, ep, ⟨z1, r1⟩, ⟨z2, r2⟩⟩ := three h4
      obtain ⟨q1, q2, q3, eq, ⟨w1, t1⟩, ⟨w2, t2⟩⟩ := three k4
      have ep : vs = #[p1, p2, p3] := Array.toList_inj.mp ep
      have eq : vs' = #[q1, q2, q3] := Array.toList_inj.mp eq
      subst ep eq
      have al : ∀ a b : Int, PySem.W.alike (.int a) (.int b) = true := fun a b => by simp [PySem.W.alike]
      have ev : ∀ a b : Int, PyData.eqv (.int a) (.int b) = decide (a = b) := fun a b => by by_cases q : a = b <;> simp [q, PyData.eqv]
      have room : ∀ a b : Int, A.in1.units + min (PyData.int a).depth (PyData.int b).depth < cLine := fun a b => by
        show A.units + 1 + min (PyData.int a).depth (PyData.int b).depth < cLine
        simp only [PyData.depth, Nat.min_self]
        omega
      have E1 := PySem.W.eqAt_alike (.int x1) (.int y1) A.in1 s p1 q1 _ _ r1 t1 (al _ _) (room _ _)
      have E2 := PySem.W.eqAt_alike (.int x2) (.int y2) A.in1 s p2 q2 _ _ r2 t2 (al _ _) (room _ _)
      have L1 := PySem.W.rcLt_alike (.int x1) (.int y1) A.in1 s p1 q1 _ _ r1 t1 (al _ _) (by simp) (room _ _)
      have L2 := PySem.W.rcLt_alike (.int x2) (.int y2) A.in1 s p2 q2 _ _ r2 t2 (al _ _) (by simp) (room _ _)
      rw [ev] at E1 E2
      rw [PySem.W.dataLt_int] at L1 L2
      obtain ⟨oc, od, ot, osl⟩ := o
      obtain ⟨oc', od', ot', osl'⟩ := o'
      simp only at h2 h3 k2 k3
      subst h2 h3 k2 k3
      intro prog w E Q hq
      refine richCompare_meets_room (op := .Lt) ⟨_, h1, rfl⟩ ⟨_, k1, rfl⟩ F.slot_tuple_lt F.entry_tuple_lt (F.args_tuple_lt_2 _ _) (tupLt2 l l' #[p1, p2, p3] #[q1, q2, q3] n n' od od' osl osl' (eTri x1 x2 y1 y2) (rTri x1 x2 y1 y2)) ⟨h1, k1, fun j a b hj => ?_, fun j a b hj _ => ?_, (fun x => nomatch x), ?_⟩ (by omega)
      · match j, a, hj with
        | 0, _, _ => exact E1
        | 1, _, _ => exact E2
        | 2, _, hj =>
          have a1 := hj 0 (by decide)
          have a2 := hj 1 (by decide)
          simp [eTri] at a1 a2
          exact absurd a2 (h.resolve_left fun z => z a1)
      · match j, a, hj with
        | 0, _, _ => exact L1
        | 1, _, _ => exact L2
        | 2, _, hj =>
          have a1 := hj 0 (by decide)
          have a2 := hj 1 (by decide)
          simp [eTri] at a1 a2
          exact absurd a2 (h.resolve_left fun z => z a1)
      · have e : firstLt (eTri x1 x2 y1 y2) (rTri x1 x2 y1 y2) (decide ((#[p1, p2, p3] : Array Value).size < (#[q1, q2, q3] : Array Value).size)) (List.range (min (#[p1, p2, p3] : Array Value).size (#[q1, q2, q3] : Array Value).size)) = if x1 = y1 then decide (x2 < y2) else decide (x1 < y1) := by
          show firstLt _ _ _ [0, 1, 2] = _
          by_cases e1 : x1 = y1
          · have e2 : ¬ x2 = y2 := fun z => h.elim (fun q => q e1) fun q => q z
            simp [firstLt, eTri, rTri, e1, e2]
          · simp [firstLt, eTri, rTri, e1]
        rw [e]
        exact hq
end HQ
set_option Elab.async false
set_option maxRecDepth 100000
set_option maxHeartbeats 4000000
namespace GX
open PySem PySem.Spec PyProof.Rows L2

/-- the table of a def's code objects, whatever has come into it -/
def TabE (P : Addr) : Heap → Prop := fun g =>
  ∃ rs : Array Value, g.get? P = some { cls := .none, data := .fields rs } ∧ TriplesOk rs.toList
def Tab (H : Hp) (P : Addr) : Prop := H P = some (.ext (TabE P))
theorem tabE_stable {P : Addr} : ∀ g1 g2 : Heap, TabE P g1 → (∀ o, g1.get? P = some o → g2.get? P = some o) → TabE P g2 :=
  fun _ _ ⟨rs, e, t⟩ k => ⟨rs, k _ e, t⟩

section
variable {X : Cx} {pins : List (Addr × Obj)} {σ : L2.St} {H : Hp} {s : Shared}

/-- the table has grown; what else stood is kept -/
theorem tab_grown {P : Addr} {rs : Array Value} {g : Heap} {G : Array GenState} {dd : Drawn} {tk : Nat}
    (I : Inv X pins σ H s) (hP : Tab H P)
    (kp : ∀ b o, b ≠ P → s.heap.get? b = some o → g.get? b = some o)
    (at_ : g.get? P = some { cls := .none, data := .fields rs }) (ht : TriplesOk rs.toList) (hG : AllBare G) :
    Inv X pins σ H { s with heap := g, gens := G, drawn := dd, toks := tk } := by
  have free_ne : ∀ b, H b = none → b ≠ P := fun b e z => by
    subst z
    have q : H b = some (.ext (TabE b)) := hP
    rw [q] at e
    cases e
  have own_ne : ∀ b c, H b = some (.own c) → b ≠ P := fun b c e z => by
    subst z
    have q : H b = some (.ext (TabE b)) := hP
    rw [q] at e
    cases e
  refine I.step (g' := G) (d' := dd) (ch := []) (fun b hb => by cases hb) (fun b o _ _ _ e n => kp b o (free_ne b n) e)
    (fun b o _ _ _ e n => ⟨o.slots, kp b o (free_ne b n) e⟩) (fun _ _ _ _ n => n) (fun b o _ e => ?_)
    (fun _ _ e => e) (fun _ _ _ e => e) (fun b qs e => ⟨#[], by rw [e, Array.append_empty]⟩) (fun m hm => ?_) (fun b u e => ?_) hG
  · by_cases z : b = P
    · subst z
      exact ⟨_, at_⟩
    · exact ⟨o, kp b o z e⟩
  · obtain ⟨o, es, ep, ho, r⟩ := hm
    exact ⟨o, es, ep, kp _ o (free_ne _ I.free) ho, r⟩
  · by_cases z : b = P
    · subst z
      have q : H b = some (.ext (TabE b)) := hP
      rw [q] at e
      cases e
      exact ⟨⟨rs, at_, ht⟩, ⟨_, at_⟩, tabE_stable⟩
    · refine (I.hok b u e).stay (fun c o hc q => kp c o ?_ q) (fun _ q => q) (fun _ _ q => q)
      rcases hc with y | y
      · rw [y]
        exact z
      · exact own_ne c b y

/-- the context of a generator expression's element -/
abbrev genCx (X : Cx) (B : Around) (s0 : Shared) (H0 : Hp) (ce : Env) (fp : List Addr) (pn : List (Addr × Obj)) : Cx :=
  { X with A := B, s_0 := s0, H_0 := H0, env := ce, outer := X.stack, stack := ce :: X.stack, ex := fp, fn := fun _ => false, pn := pn, xe := fun _ _ => False }
/-- its environment -/
abbrev gEnv (X : Cx) (sc : Scope) (C : Addr) (cv : Value) : Env :=
  genEnv sc (cloFrom X.env.cells sc.names []) C cv builtinsNs X.env

theorem gen_start {B : Around} {sc : Scope} {own : List (Str × Nat)} {fp : List Addr} {cv : Value} {g : Heap} {go fo : Obj} {m : Str → Option Value} {gs : GenState} {tk : Nat}
    (I : Inv X pins σ H s) (ok : BlkOk X.N X.env.scope sc own) (nocell : ∀ y ∈ sc.names, y.2 ≠ .cell) (hN : X.N.Nodup)
    (hfp : ∀ b ∈ fp, FpOk X pins H b ∧ b < s.heap.objs.size) (hB : X.calm = true → B.handled = none)
    (hF : B.frames = some (gEnv X sc s.heap.objs.size cv :: X.stack))
    (hn : g.Ns s.heap.objs.size m) (hs : Heap.SameBut s.heap.objs.size (s.heap.push fo) g)
    (hgo : ∀ v, go.data ≠ .cell v) (hgp : (g.push go).get? g.objs.size = some go) (hgs : gs.bare = true) :
    Inv (genCx X B s H (gEnv X sc s.heap.objs.size cv) fp [(g.objs.size, go)]) [] (wipe σ (own.map (·.2))) H
      { s with gens := s.gens.push gs, toks := tk, heap := g.push go } := by
  have caught : ∀ y ∈ sc.names, y.2 = .free → ∃ c, X.env.cells.lookup y.1 = some c := fun y hy e =>
    (ok.free y hy e).elim (fun z => I.ok.has _ (.inl z)) (fun z => I.ok.has _ (.inr z))
  have gsz : g.objs.size = s.heap.objs.size + 1 := by rw [hs.1, Heap.size_push]
  have kp1 : ∀ b o, s.heap.get? b = some o → g.get? b = some o := fun b o e =>
    hs.extBut b o (Nat.ne_of_lt (Heap.lt_size e)) (Heap.get?_push_of_some _ e)
  have kp : ∀ b o, s.heap.get? b = some o → (g.push go).get? b = some o := fun b o e => Heap.get?_push_of_some _ (kp1 b o e)
  have down : ∀ {y c}, (gEnv X sc s.heap.objs.size cv).cells.lookup y = some c → X.env.cells.lookup y = some c ∧ c < s.heap.objs.size := fun {y c} e => by
    have e' : (cloFrom X.env.cells sc.names []).lookup y = some c := e
    rcases cloFrom_mem (PySem.mem_of_lookup e') with q | ⟨q1, q2⟩
    · cases q
    · obtain ⟨c', hc'⟩ := caught _ q1 rfl
      have hc2 : X.env.cells.lookup y = some c' := hc'
      rw [hc2] at q2
      have q3 : c = c' := q2
      subst q3
      obtain ⟨v, z⟩ := I.cell _ _ hc2
      exact ⟨hc2, z.lt⟩
  have up : ∀ {y}, sc.names.lookup y = some .free → ∃ c, (gEnv X sc s.heap.objs.size cv).cells.lookup y = some c ∧ X.env.cells.lookup y = some c := fun {y} hl => by
    obtain ⟨c, e⟩ := mem_lookup (cloFrom_has (cells := X.env.cells) (acc := []) (PySem.mem_of_lookup hl))
    exact ⟨c, e, (down e).1⟩
  have young : ∀ b, b < s.heap.objs.size → b ≠ s.heap.objs.size := fun b hb => Nat.ne_of_lt hb
  have okG : (genCx X B s H (gEnv X sc s.heap.objs.size cv) fp [(g.objs.size, go)]).Ok := by
    refine ⟨I.ok.mod, ok.kind, I.ok.glob, rfl, Nat.le_refl _, fun y z c e1 e2 => I.ok.inj y z c (down e1).1 (down e2).1, fun y hy => ?_,
      (fun y c z _ => nomatch z), hB, hF, .inr ⟨rfl, rfl⟩, fun b hb => ⟨young b (hfp b hb).2, fun y c e z => ?_⟩, I.bs, Nat.le_trans I.ok.bsz I.sz,
      fun b o e hb => ?_, fun b hb z => ?_, I.stack, I.stkFree⟩
    · rcases hy with z | z
      · exact absurd rfl (nocell _ (PySem.mem_of_lookup z))
      · obtain ⟨c, e, _⟩ := up z
        exact ⟨c, e⟩
    · exact (hfp b hb).1.2.2.2.2.1 y c (down e).1 z
    · rcases (hfp b hb).1.2.2.2.1 with z | z
      · exact I.ok.noex b o e z
      · exact Nat.lt_irrefl _ (Nat.lt_of_lt_of_le (Heap.lt_size e) (Nat.le_trans I.ok.bsz z))
    · rcases List.mem_cons.mp (I.stkSub b z) with y | y
      · exact (hfp b hb).1.2.1 y
      · exact (hfp b hb).1.2.2.1 y
  refine ⟨okG, rfl, I.bare.push hgs, Un.kept kp, ⟨m, ?_, fun i y av e1 e2 e3 => ?_⟩, fun y c e => ?_, I.hok.fresh (Nat.le_refl _), fun y c e => I.freeC y c (down e).1, fun p hp => ?_, I.hok.kept kp, by rw [wipe_length]; exact I.len⟩
  · exact hn.push _
  · obtain ⟨e2, ne⟩ := wipe_some e2
    have notOwn : ∀ k, sc.names.lookup y = some k → k = .local ∨ k = .cell → False := fun k hk hk' => by
      rcases ok.own _ (PySem.mem_of_lookup hk) hk' with q | q
      · obtain ⟨p, hp, hpy⟩ := List.mem_map.mp q
        have e4 := ok.ix p hp
        have hpy' : p.1 = y := hpy
        rw [hpy'] at e4
        exact ne (List.mem_map.mpr ⟨p, hp, nodup_ix hN e4 e1⟩)
      · exact q (List.mem_of_getElem? e1)
    have hfree : sc.names.lookup y = some .free := by
      rcases e3 with z | z | z
      · exact (notOwn _ z (.inl rfl)).elim
      · exact (notOwn _ z (.inr rfl)).elim
      · exact z
    obtain ⟨m', _, hl⟩ := I.loc
    have q0 := ok.free _ (PySem.mem_of_lookup hfree) rfl
    have hv : Vis X.env.scope y := q0.elim (fun z => .inr (.inl z)) (fun z => .inr (.inr z))
    obtain ⟨u, r, q⟩ := hl i y av e1 e2 hv
    obtain ⟨c, h1, h2⟩ := up hfree
    refine ⟨u, r, .inr ⟨.inr hfree, c, h1, ?_⟩⟩
    rcases q with ⟨k, _⟩ | ⟨_, c', e', z⟩
    · have k' : X.env.scope.names.lookup y = some .local := k
      rcases q0 with z | z
      · have z' : X.env.scope.names.lookup y = some .cell := z
        rw [z'] at k'
        cases k'
      · have z' : X.env.scope.names.lookup y = some .free := z
        rw [z'] at k'
        cases k'
    · rw [h2] at e'
      cases e'
      exact z.keeps kp
  · obtain ⟨v, z⟩ := I.cell y c (down e).1
    exact ⟨v, z.keeps kp⟩
  · have e : p = (g.objs.size, go) := by simpa using hp
    subst e
    refine ⟨hgp, I.hok.fresh (by rw [gsz]; exact Nat.le_succ _), ?_, fun z => ?_, hgo⟩
    · show g.objs.size ≠ s.heap.objs.size
      rw [gsz]
      exact Nat.succ_ne_self _
    · have z' : g.objs.size ∈ frs X.stack := z
      obtain ⟨_, o, ho, _⟩ := I.stack.mem z'
      have q := Heap.lt_size ho
      rw [gsz] at q
      exact absurd q (Nat.not_lt.mpr (Nat.le_succ _))
end
end GX
set_option Elab.async false
set_option maxRecDepth 100000
set_option maxHeartbeats 4000000
namespace GX
open PySem PySem.Spec PyProof.Rows L2

/-- what is known when an element has been handed out: a truth; where it is true, the generator goes on at any state with the same heap -/
def YAll (Y : Cx) (τ : L2.St) (Qf : Hp → Prop) : Protocol := fun _ _ v s kap =>
  ∃ (b : Bool) (H : Hp), v = .bool b ∧ Inv Y [] τ H s ∧ (b = false → Qf H) ∧
    (b = true → ∀ s2 : Shared, s2.heap = s.heap → s2.os = s.os → AllBare s2.gens → kap (.send .none) s2)
abbrev RAll (Y : Cx) (τ : L2.St) (Qt : Hp → Prop) : Nat → Shared → Shared → Prop := fun _ _ s =>
  ∃ H : Hp, Inv Y [] τ H s ∧ Qt H
theorem inv_samehp {Y : Cx} {pins : List (Addr × Obj)} {τ : L2.St} {H : Hp} {s s2 : Shared} (I : Inv Y pins τ H s) (h : s2.heap = s.heap) (ho : s2.os = s.os) (hb : AllBare s2.gens) : Inv Y pins τ H s2 := by
  have J := I.call' (s' := s2) (H' := H) (ch := []) ho (by rw [h]; exact Un.refl) (by rw [h]; exact I.hok) hb (fun b z => by cases z)
  exact J

section
variable {Y : Cx} {B : Around} {elt tg iter : Expr} {sc : Scope} {gpos : Pos} {it : Addr} {fp : List Addr} {tn : Nat → Heap → Prop} {J : It} {g : TG} {te : TE} {vs : List Nat}

/-- one turn of the walk that a generator expression's elements pass -/
def Step (J : It) (g : TG) (te : TE) (vs : List Nat) (τ : L2.St) (Qt Qf : Hp → Prop) (W : Nat → Nat → Hp → Prop) : Prop :=
  ∀ i m H, W i m H → (J.stop i H ∧ Qt H) ∨ (J.go i H ∧ ∀ x H', J.yld i H x H' → g x τ H' fun τ2 H2 => wipe τ2 vs = τ ∧
    te τ2 H2 fun y H3 => ∃ b, y = V.bl b ∧ (b = true → ∃ m', m' < m ∧ W (i + 1) m' H3) ∧ (b = false → Qf H3))

theorem seg_all {τ : L2.St} {Qt Qf : Hp → Prop} {W : Nat → Nat → Hp → Prop}
    (hA : Y.A = B.over (.compLoop (.GeneratorExp elt [⟨tg, iter, [], 0⟩] sc gpos) 0 (.ref it) .none Y.env) [])
    (hc : Y.calm = true) (hco : Y.env.scope.isCoroutine = false) (hfp : ∀ b ∈ fp, b ∈ Y.ex) (hpn : ∀ p ∈ Y.pn, p.1 ∉ fp)
    (xe : Y.xe = fun _ _ => False)
    (pg : PG Y tg g) (pe : PE Y elt te) (T : Turn Y.prog Y.w Y.K tg J fp it tn) (turn : Step J g te vs τ Qt Qf W) (hτ : ∀ τ2, wipe τ2 vs = τ → ∀ (k : Nat) v, τ[k]? = some (some v) → τ2[k]? = some (some v)) :
    ∀ (n i m : Nat) (s0 s : Shared) (H : Hp), m < n → Inv Y [] τ H s → tn i s.heap → (∀ b ∈ fp, H b = none) → W i m H →
      Seg (model Y.prog Y.w) B (fun n s₀ r s₁ => r = .ok .next ∧ RAll Y τ Qt n s₀ s₁) (YAll Y τ Qf) n s0
        (.compLoop (.GeneratorExp elt [⟨tg, iter, [], 0⟩] sc gpos) 0 (.ref it) .none Y.env)
        ((model Y.prog Y.w).den (.compLoop (.GeneratorExp elt [⟨tg, iter, [], 0⟩] sc gpos) 0 (.ref it) .none Y.env)) [] s := by
  intro n
  induction n with
  | zero => intro i m s0 s H hm; exact absurd hm (Nat.not_lt_zero _)
  | succ n ih =>
    intro i m s0 s H hm I st nf w0
    have fpo : ∀ {pins' : List (Addr × Obj)} {τ' : L2.St} {H' : Hp} {s' : Shared}, Inv Y pins' τ' H' s' → (∀ p ∈ pins', p.1 ∉ fp) → (∀ b ∈ fp, H' b = none) → ∀ b ∈ fp, FpOk Y pins' H' b := fun {pins' τ' H' s'} I' hp hn b hb =>
      ⟨hn b hb, (I'.ok.exf b (hfp b hb)).1, I'.ok.exfs b (hfp b hb), .inl (hfp b hb), fun x c e => (I'.ok.exf b (hfp b hb)).2 x c e, fun p q z => by
        rcases List.mem_append.mp q with q | q
        · exact hpn p q (by rw [z]; exact hb)
        · exact hp p q (by rw [z]; exact hb)⟩
    show Seg _ B _ _ _ s0 _ ((compTurn (.GeneratorExp elt [⟨tg, iter, [], 0⟩] sc gpos) 0 (.ref it) .none Y.env).onRaise (leaving Y.env)) [] s
    rw [compTurn_gen, Sem.onRaise_eq_wrap]
    apply seg_bind_wrap
    apply wpAny_standAt
    apply seg_bind_wrap
    rw [← hA]
    rcases turn i m H w0 with ⟨stop, q⟩ | ⟨go, step⟩
    · refine wpAny_mono (T.done Y rfl rfl rfl hc i [] s τ H (fun _ _ => False) I (fpo I (fun _ z => by cases z) nf) st stop) (fun r s1 h1 => ?_) (fun _ _ z => z.elim)
      obtain ⟨hr, I1⟩ := h1
      subst hr
      exact seg_end (.ok .next) ⟨rfl, H, I1, q⟩
    · refine wpAny_mono (T.item Y rfl rfl rfl hc i [] s τ H (fun _ _ => False) I (fpo I (fun _ z => by cases z) nf) st go) (fun r s1 h1 => ?_) (fun _ _ z => z.elim)
      obtain ⟨u, hr, h1⟩ := h1
      subst hr
      apply seg_bind_wrap
      rw [← hA]
      refine wpAny_mono h1 (fun _ s2 h2 => ?_) (fun _ _ z => z.elim)
      obtain ⟨x, H2, I2, r2, y2, st2, n2⟩ := h2
      have I2' := I2.pinned (fpo I2 (fun _ z => by cases z) n2) (T.obj _ _ st2)
      apply seg_bind_wrap
      rw [← hA]
      refine wpAny_mono (pg.run _ s2 τ H2 x u _ I2' r2 (step x H2 y2)) (fun _ s3 h3 => ?_) (fun e s3 z => by rw [xe] at z; exact z.elim)
      obtain ⟨τ3, H3, I3, hw3, q3⟩ := h3
      have hy : ∀ v, yieldOut Y.env v = yieldValue v := fun v => by simp only [yieldOut, hco, Bool.false_eq_true, if_false]
      simp only [List.forIn_nil, pure_bind, if_true, hy]
      rw [Sem.bind_eq_wrap', Sem.bind_eq_wrap', Sem.wrap_wrap, Sem.wrap_wrap]
      apply seg_wrap
      rw [← hA]
      refine wpAny_mono (pe.run _ s3 τ3 H3 _ I3 q3) (fun v s4 h4 => ?_) (fun e s4 z => by rw [xe] at z; exact z.elim)
      obtain ⟨yv, H4, I4, r4, b, rfl, ht, hf⟩ := h4
      have hv : v = .bool b := r4
      subst hv
      have kp : ∀ b' ∈ fp, ∀ o, s2.heap.get? b' = some o → s4.heap.get? b' = some o ∧ H4 b' = none := fun b' hb o e => by
        have z := I4.pin (b', o) (List.mem_append_right _ (List.mem_append_right _ (mem_pinsAt hb e)))
        exact ⟨z.1, z.2.1⟩
      have J4 : Inv Y [] τ H4 s4 := (I4.unpinned (pins := [])).weak (by rw [← hw3, wipe_length]) fun k v e => hτ τ3 hw3 k v e
      refine seg_at (seg_yield rfl rfl rfl ⟨b, H4, rfl, J4, hf, fun hb s5 e5 o5 b5 => ?_⟩)
      obtain ⟨m', hm', w'⟩ := ht hb
      refine seg_again rfl (ih (i + 1) m' s5 s5 H4 (by omega) (inv_samehp J4 e5 o5 b5) ?_ (fun b' hb' => ?_) w')
      · rw [e5]
        exact T.keep _ _ _ st2 fun b' hb' o e => (kp b' hb' o e).1
      · obtain ⟨o, e, _⟩ := T.obj _ _ st2 b' hb'
        exact (kp b' hb' o e).2
end
end GX
set_option Elab.async false
set_option maxRecDepth 100000
set_option maxHeartbeats 4000000
namespace GX
open PySem PySem.Spec PyProof.Rows L2

theorem seg_all_start {P : Program} {w : World} {K : PySem.W.Frag} {B : Around} {R : GenEnd} {Yp : Protocol} {n : Nat} {s0 s : Shared} {elt tg iter : Expr} {sc : Scope} {gpos : Pos} {it : Addr} {fp : List Addr} {tn : Nat → Heap → Prop} {J : It} {ce : Env}
    (T : Turn P w K tg J fp it tn) (st : tn 0 s.heap)
    (loop : Seg (model P w) B R Yp n s0 (.compLoop (.GeneratorExp elt [⟨tg, iter, [], 0⟩] sc gpos) 0 (.ref it) .none ce)
      ((model P w).den (.compLoop (.GeneratorExp elt [⟨tg, iter, [], 0⟩] sc gpos) 0 (.ref it) .none ce)) [] s) :
    Seg (model P w) B R Yp n s0 (.compStart (.GeneratorExp elt [⟨tg, iter, [], 0⟩] sc gpos) 0 (.ref it) .none ce)
      ((model P w).den (.compStart (.GeneratorExp elt [⟨tg, iter, [], 0⟩] sc gpos) 0 (.ref it) .none ce)) [] s := by
  show Seg _ B _ _ _ s0 _ ((compStart (.GeneratorExp elt [⟨tg, iter, [], 0⟩] sc gpos) 0 (.ref it) .none ce).onRaise (leaving ce)) [] s
  unfold compStart
  rw [Sem.onRaise_eq_wrap]
  show Seg _ B _ _ _ s0 _ ((ask >>= _).wrap _ _ _ _) [] s
  apply seg_bind_wrap
  apply wpAny_askSetting
  split
  · exact seg_again rfl loop
  · apply seg_bind_wrap
    apply wpAny_rule
    show Seg _ B _ _ _ s0 _ ((standAt iter.pos >>= _).wrap _ _ _ _) [] s
    apply seg_bind_wrap
    apply wpAny_standAt
    apply seg_bind_wrap
    exact T.self _ 0 s _ _ st (seg_again rfl loop)

section
variable {Y : Cx} {A : Around} {a : Addr} {g : Nat} {go : Obj} {τ : L2.St} {Qt Qf : Hp → Prop}
theorem code_all {R : Result → Shared → Prop} (hh : A.handled = none) (hroom : A.depth < recursionLimit) (hpin : (a, go) ∈ Y.pn) (hgen : ∀ h : Heap, h.get? a = some go → h.IsGen a g)
    (hT : ∀ s H, Inv Y [] τ H s → Qt H → R (.ok (.ret (.bool true))) s) (hF : ∀ s H, Inv Y [] τ H s → Qf H → R (.ok (.ret (.bool false))) s) :
    ∀ (n : Nat) (s : Shared) (gs : GenState), s.heap.IsGen a g → s.heap.NoLimit → AllBare s.gens → s.gens[g]? = some gs →
      (∀ s2 : Shared, s2.heap = s.heap → s2.os = s.os → AllBare s2.gens →
        gs.Goes (model Y.prog Y.w) A.in1.in1 (fun n s₀ r s₁ => r = .ok .next ∧ RAll Y τ Qt n s₀ s₁) (YAll Y τ Qf) n (.send .none) s2) →
      codeAny (model Y.prog Y.w) A (.builtin "all.loop" ⟨[.ref a], []⟩) R s := by
  intro n
  induction n with
  | zero =>
    intro s gs hg hl hb hgs hgo
    refine codeAny_builtin F.entry_all_loop ?_
    rw [Around.under_plainId F.plain_all_loop _]
    show wpAny _ A.in1 (pyNext (.ref a) >>= _) _ _ s
    refine wpAny_bind (GenW.wpAny_gsz (n := g + 1) (Array.getElem?_eq_some_iff.mp hgs).1 (wpAny_pyNext_genexpQ (A := A.in1) (P := RAll Y τ Qt) hh hl hroom hg hgs (hgo _ rfl rfl (allBare_setGen hb rfl)) (fun v s1 gs' hb' hv hsz => ?_) (fun s1 hp h' hk hsz => ?_)))
    · obtain ⟨b, H, rfl, I, hf, ht⟩ := hv
      apply wpAny_bind
      apply wpAny_holding
      apply wpAny_truthy_bool
      apply wpAny_bind
      apply wpAny_letGo
      cases b with
      | true => exact (ht rfl s1 rfl rfl I.bare).elim
      | false =>
        simp only [Bool.false_eq_true, if_false]
        apply wpAny_bind
        apply wpAny_rule
        apply wpAny_pure
        exact hF _ H (inv_samehp I rfl rfl (allBare_setGen I.bare hb')) (hf rfl)
    · obtain ⟨H, I, q⟩ := hp
      apply wpAny_bind
      apply wpAny_rule
      apply wpAny_pure
      have I2 := inv_samehp (s2 := s1.setGen g .finished) I rfl rfl (allBare_setGen I.bare rfl)
      exact hT _ H (I2.kept (t' := (s1.setGen g .finished).toks) hk) q
  | succ n ih =>
    intro s gs hg hl hb hgs hgo
    refine codeAny_builtin F.entry_all_loop ?_
    rw [Around.under_plainId F.plain_all_loop _]
    show wpAny _ A.in1 (pyNext (.ref a) >>= _) _ _ s
    refine wpAny_bind (GenW.wpAny_gsz (n := g + 1) (Array.getElem?_eq_some_iff.mp hgs).1 (wpAny_pyNext_genexpQ (A := A.in1) (P := RAll Y τ Qt) hh hl hroom hg hgs (hgo _ rfl rfl (allBare_setGen hb rfl)) (fun v s1 gs' hb' hv hsz => ?_) (fun s1 hp h' hk hsz => ?_)))
    · obtain ⟨b, H, rfl, I, hf, ht⟩ := hv
      apply wpAny_bind
      apply wpAny_holding
      apply wpAny_truthy_bool
      apply wpAny_bind
      apply wpAny_letGo
      cases b with
      | true =>
        simp only [if_true]
        apply wpAny_pure
        refine ⟨plainId_quiet F.plain_all_loop _, ih _ gs' (hgen _ (I.pin (a, go) (List.mem_append_left _ hpin)).1) I.nolimit (allBare_setGen I.bare hb') (setGen_at ?_) fun s2 e1 e2 e3 => ht rfl s2 e1 e2 e3⟩
        rw [GenW.setGen_size] at hsz
        exact hsz
      | false =>
        simp only [Bool.false_eq_true, if_false]
        apply wpAny_bind
        apply wpAny_rule
        apply wpAny_pure
        exact hF _ H (inv_samehp I rfl rfl (allBare_setGen I.bare hb')) (hf rfl)
    · obtain ⟨H, I, q⟩ := hp
      apply wpAny_bind
      apply wpAny_rule
      apply wpAny_pure
      have I2 := inv_samehp (s2 := s1.setGen g .finished) I rfl rfl (allBare_setGen I.bare rfl)
      exact hT _ H (I2.kept (t' := (s1.setGen g .finished).toks) hk) q
end
end GX
set_option Elab.async false
set_option maxRecDepth 100000
set_option maxHeartbeats 4000000
namespace GX
open PySem PySem.Spec PyProof.Rows L2

section
variable {X : Cx} {pins : List (Addr × Obj)} {σ : L2.St} {H : Hp} {s : Shared}

/-- a generator expression has been made, ready to be walked, in the state s5; what stood ahead of its frame: s4 -/
structure Ready (X : Cx) (pins : List (Addr × Obj)) (σ : L2.St) (own : List (Str × Nat)) (sc : Scope) (elt tg iter : Expr) (gpos : Pos) (J : It) (H1 : Hp) (a : Addr) (s5 : Shared)
    (s4 : Shared) (cv : Value) (g : Nat) (go : Obj) (it : Addr) (fp : List Addr) (tn : Nat → Heap → Prop) : Prop where
  outer : Inv X pins σ H1 s4
  fps : ∀ b ∈ fp, FpOk X pins H1 b ∧ b < s4.heap.objs.size
  turn : Turn X.prog X.w X.K tg J fp it tn
  st : tn 0 s5.heap
  inner : ∀ B : Around, (X.calm = true → B.handled = none) → B.frames = some (gEnv X sc s4.heap.objs.size cv :: X.stack) →
    Inv (genCx X B s4 H1 (gEnv X sc s4.heap.objs.size cv) fp [(a, go)]) [] (wipe σ (own.map (·.2))) H1 s5
  gen : ∀ h : Heap, h.get? a = some go → h.IsGen a g
  at_ : s5.heap.get? a = some go
  old : a ∉ fp
  gs : s5.gens[g]? = some (.fresh (.compStart (.GeneratorExp elt [⟨tg, iter, [], 0⟩] sc gpos) 0 (.ref it) .none (gEnv X sc s4.heap.objs.size cv)))
  lim : s5.heap.NoLimit
  bare : AllBare s5.gens

theorem gx_make {c P : Addr} {own : List (Str × Nat)} {sc : Scope} {elt tg iter : Expr} {gpos : Pos} {wi : TI} {k : Nat} {R : It → Hp → Prop} {Q' : Value → Shared → Prop}
    (hr : Room k X.A) (TB : GxR.TabB X.base X.mg c P) (hcode : X.env.code = .ref c) (hN : X.N.Nodup)
    (ok : BlkOk X.N X.env.scope sc own) (nocell : ∀ y ∈ sc.names, y.2 ≠ .cell) (dot : sc.names.lookup (".0" : Str) = some NameKind.local) (hco : sc.isCoroutine = false)
    (hi : PI X tg iter wi) (hs : ∀ v, genFold iter X.env v = pure v)
    (I : Inv X pins σ H s) (h : wi σ H fun J H1 => Tab H1 P ∧ R J H1)
    (hQ : ∀ J H1 a s5 s4 cv g go it fp tn, R J H1 → Ready X pins σ own sc elt tg iter gpos J H1 a s5 s4 cv g go it fp tn → Q' (.ref a) s5) :
    wpAny (model X.prog X.w) X.A (eval (.GeneratorExp elt [⟨tg, iter, [], 0⟩] sc gpos) X.env) Q' X.xe s := by
  have caught : ∀ y ∈ sc.names, y.2 = .free → ∃ c, X.env.cells.lookup y.1 = some c := fun y hy e =>
    (ok.free y hy e).elim (fun z => I.ok.has _ (.inl z)) (fun z => I.ok.has _ (.inr z))
  refine wpAny_GeneratorExp_make hco (closure_ok caught) nocell dot ok.kind (by have := hr.dp; omega) ?_ hs
  refine thn (hi.run pins s σ H _ I h) fun xv s1 h1 => thn h1 fun itv s2 h2 => ?_
  obtain ⟨it, fp, tn, J, H2, rfl, I2, T, st2, f2, hT, hR⟩ := h2
  obtain ⟨⟨rs, hPs, ht⟩, _, _⟩ := I2.hok P _ hT
  have cd : PySem.W.CodeHd s2.heap c P := TB.code.keeps I2.bk
  refine ⟨I2.nolimit, ?_⟩
  have fsz : ∀ b ∈ fp, b < s2.heap.objs.size := fun b hb => by
    obtain ⟨o, e, _⟩ := T.obj _ _ st2 b hb
    exact Heap.lt_size e
  have neP : ∀ b ∈ fp, b ≠ P := fun b hb z => by
    have q := (f2 b hb).1
    have q2 : H2 P = some (.ext (TabE P)) := hT
    rw [z, q2] at q
    cases q
  have cont : ∀ (cv : Value) (s4 : Shared), Inv X pins σ H2 s4 → (∀ b o, b ≠ P → s2.heap.get? b = some o → s4.heap.get? b = some o) → s2.heap.objs.size ≤ s4.heap.objs.size →
      wpAny (model X.prog X.w) X.A (builtinsFor X.env.globals X.env.builtins) (fun bi s₄ => ∀ h', h'.Ns s₄.heap.objs.size (fun y => if y = ".0" then some (Value.ref it) else none) →
        Heap.SameBut s₄.heap.objs.size (s₄.heap.push { cls := .type "frame", data := .dict #[] }) h' →
          Q' (.ref h'.objs.size) { s₄ with
            gens := s₄.gens.push (.fresh (.compStart (.GeneratorExp elt [⟨tg, iter, [], 0⟩] sc gpos) 0 (.ref it) .none (genEnv sc (cloFrom X.env.cells sc.names []) s₄.heap.objs.size cv bi X.env))),
            toks := s₄.toks + 1 + 1 + 1,
            heap := h'.push { cls := .type "generator", data := .fields #[.int s₄.gens.size 0, .str "<genexpr>" (s₄.toks + 1), .str (X.env.qual ++ "<genexpr>") (s₄.toks + 1 + 1)] } }) X.xe s4 := by
    intro cv s4 I4 kp sz
    obtain ⟨bm, ob, e1, e2, e3, e4, e5, e6, e7, e8⟩ := TB.bm
    refine wpAny_builtinsFor (m := X.mg) (by rw [I4.ok.glob]; exact I4.mod.glob.keeps I4.bk) e1 e2 (I4.bk _ _ e5) e6 e7 e8 ?_
    intro h' hn' hs'
    have hsz : h'.objs.size = s4.heap.objs.size + 1 := by rw [hs'.1, Heap.size_push]
    have kp4 : ∀ b o, s4.heap.get? b = some o → (h'.push { cls := .type "generator", data := .fields #[.int s4.gens.size 0, .str "<genexpr>" (s4.toks + 1), .str (X.env.qual ++ "<genexpr>") (s4.toks + 1 + 1)] }).get? b = some o := fun b o e =>
      Heap.get?_push_of_some _ (hs'.extBut b o (Nat.ne_of_lt (Heap.lt_size e)) (Heap.get?_push_of_some _ e))
    have fok : ∀ b ∈ fp, FpOk X pins H2 b ∧ b < s4.heap.objs.size := fun b hb => ⟨f2 b hb, Nat.lt_of_lt_of_le (fsz b hb) sz⟩
    refine hQ J H2 h'.objs.size _ s4 cv s4.gens.size { cls := .type "generator", data := .fields #[.int s4.gens.size 0, .str "<genexpr>" (s4.toks + 1), .str (X.env.qual ++ "<genexpr>") (s4.toks + 1 + 1)] } it fp tn hR
      ⟨I4, fok, T, ?_, fun B hB hF => gen_start I4 ok nocell hN fok hB hF hn' hs' (fun v z => by cases z) (Heap.get?_push_size _ rfl) rfl, fun h e => ⟨_, _, _, e, rfl, rfl, rfl⟩, Heap.get?_push_size _ rfl, fun z => ?_, Array.getElem?_push_size .., I4.nolimit.keeps kp4, I4.bare.push rfl⟩
    · refine T.keep _ _ _ st2 fun b hb o e => kp4 b o (kp b o (neP b hb) e)
    · have q := (fok _ z).2
      rw [hsz] at q
      exact absurd q (Nat.not_lt.mpr (Nat.le_succ _))
  cases hf : codeAmong gpos rs.toList with
  | none =>
    refine wpAny_genexprCodeX hcode (cd.code hPs ht) (cd.tab hPs) hf fun c' h' tk hx hge hlt hco' _ htab' _ => ?_
    obtain ⟨o1, vs, f1, tf, fl, tg', inF, tx, tt, op, _, _, _, _, _, _, _, _, _, htr, _⟩ := hco'
    exact cont _ { s2 with heap := h', toks := tk } (tab_grown (tk := tk) (dd := s2.drawn) (G := s2.gens) I2 hT (fun b o hb e => hx b o hb e) htab'.2 htr I2.bare) (fun b o hb e => hx b o hb e) (Nat.le_trans hge (Nat.le_of_lt hlt))
  | some cv =>
    refine wpAny_genexprCode_hit hcode (cd.code hPs ht) hf ?_
    exact cont cv s2 I2 (fun b o _ e => e) (Nat.le_refl _)

/-- all(e for x in xs): J what is walked; W by the turn and a measure -/
def tAll (P : Addr) (wi : TI) (g : TG) (te : TE) (vs : List Nat) : TE := fun σ H Q => wi σ H fun J H1 => Tab H1 P ∧
  ∃ W : Nat → Nat → Hp → Prop, (∃ m, W 0 m H1) ∧ Step J g te vs (wipe σ vs) (Q (.bl true)) (Q (.bl false)) W

theorem over_gx {A : Around} {elt tg iter : Expr} {sc : Scope} {gpos : Pos} {it : Addr} {ce : Env} :
    (A.over (.compLoop (.GeneratorExp elt [⟨tg, iter, [], 0⟩] sc gpos) 0 (.ref it) .none ce) []).frames = A.frames.map (ce :: ·) := by
  show pushEnvs [ce] (pushEnvs [] A.frames) = _
  cases A.frames <;> rfl
theorem room_gx {A : Around} {k : Nat} {elt tg iter : Expr} {sc : Scope} {gpos : Pos} {it : Addr} {ce : Env} (r : Room (k + 1) A) :
    Room k (A.in1.in1.over (.compLoop (.GeneratorExp elt [⟨tg, iter, [], 0⟩] sc gpos) 0 (.ref it) .none ce) []) := by
  refine ⟨r.hd, ?_, ?_⟩
  · have := r.dp
    show A.depth + 0 + 1 + 3 * k + 5 < _
    omega
  · have := r.un
    show A.units + 1 + 1 + 0 + 3 + 16 * k + 200 < _
    omega

theorem pe_all {c P : Addr} {own : List (Str × Nat)} {sc : Scope} {elt tg iter : Expr} {p pos gpos : Pos} {wi : TI} {g : TG} {te : TE} {k : Nat}
    (hr : Room (k + 1) X.A) (hg : Gl X "all") (hm : X.mg "all" = none) (TB : GxR.TabB X.base X.mg c P) (hcode : X.env.code = .ref c) (hc : X.calm = true) (hN : X.N.Nodup)
    (ok : BlkOk X.N X.env.scope sc own) (nocell : ∀ y ∈ sc.names, y.2 ≠ .cell) (dot : sc.names.lookup (".0" : Str) = some NameKind.local) (hco : sc.isCoroutine = false)
    (hi : PI X tg iter wi) (pg : ∀ (B : Around) (s0 : Shared) (H0 : Hp) (C : Addr) (cv : Value) (fp : List Addr) (pn : List (Addr × Obj)), PG (genCx X B s0 H0 (gEnv X sc C cv) fp pn) tg g)
    (pe : ∀ (B : Around) (s0 : Shared) (H0 : Hp) (C : Addr) (cv : Value) (fp : List Addr) (pn : List (Addr × Obj)), Room k B → PE (genCx X B s0 H0 (gEnv X sc C cv) fp pn) elt te)
    (hs : ∀ v, genFold iter X.env v = pure v := by intro _; rfl)
    (he : starEach [.GeneratorExp elt [⟨tg, iter, [], 0⟩] sc gpos] X.env = (false, eval (.GeneratorExp elt [⟨tg, iter, [], 0⟩] sc gpos) X.env) :: starEach [] X.env := by rfl) :
    PE X (.Call (.Name "all" p) [.GeneratorExp elt [⟨tg, iter, [], 0⟩] sc gpos] [] pos) (tAll P wi g te (own.map (·.2))) := by
  refine ⟨fun pins s σ H Q I h => ?_⟩
  refine wpAny_Call_Name_kw (ld_blt I hg hm (show bootBuiltins "all" = some (.builtin "all") by decide +kernel) ?_)
  refine PyProof.Rows.callWith_builtin1 ?_ he (by rfl)
  rw [he]
  show wpAny _ _ (spliced ((false, eval (.GeneratorExp elt [⟨tg, iter, [], 0⟩] sc gpos) X.env) :: backTo pos (starEach [] X.env))) _ _ s
  refine Calls.spliced_cons (gx_make (own := own) (R := fun J H1 => ∃ W : Nat → Nat → Hp → Prop, (∃ m, W 0 m H1) ∧ Step J g te (List.map Prod.snd own) (wipe σ (List.map Prod.snd own)) (Q (.bl true)) (Q (.bl false)) W)
    hr TB hcode hN ok nocell dot hco hi hs I h fun J H1 a s5 s4 cv gn go it fp tn hR rd => ?_)
  obtain ⟨W, ⟨m0, w0⟩, step⟩ := hR
  refine Calls.spliced_nil ?_
  refine call_function_tree F.kind_all F.plain_all F.entry_all (F.args_all1 _) ?_
  unfold Builtin.«all»
  apply wpAny_bind (m := oneArg "all" _)
  apply wpAny_pure
  apply wpAny_bind
  refine wpAny_pyIter_gen (rd.gen _ rd.at_) ?_
  apply wpAny_pure
  refine ⟨plainId_quiet F.plain_all_loop _, ?_⟩
  -- the element's context
  have hB : X.calm = true → (X.A.in1.in1.over (.compLoop (.GeneratorExp elt [⟨tg, iter, [], 0⟩] sc gpos) 0 (.ref it) .none (gEnv X sc s4.heap.objs.size cv)) []).handled = none := fun z => I.ok.hd z
  have hF : (X.A.in1.in1.over (.compLoop (.GeneratorExp elt [⟨tg, iter, [], 0⟩] sc gpos) 0 (.ref it) .none (gEnv X sc s4.heap.objs.size cv)) []).frames = some (gEnv X sc s4.heap.objs.size cv :: X.stack) := by
    rw [over_gx]
    show X.A.frames.map _ = _
    rw [I.ok.frames]
    rfl
  have J5 := rd.inner _ hB hF
  have back : ∀ (s6 : Shared) (H6 : Hp), Inv (genCx X (X.A.in1.in1.over (.compLoop (.GeneratorExp elt [⟨tg, iter, [], 0⟩] sc gpos) 0 (.ref it) .none (gEnv X sc s4.heap.objs.size cv)) []) s4 H1 (gEnv X sc s4.heap.objs.size cv) fp [(a, go)]) [] (wipe σ (own.map (·.2))) H6 s6 →
      Inv X pins σ H6 s6 := fun s6 H6 I6 => by
    exact rd.outer.call' (ch := fp) I6.os I6.base I6.hok I6.bare fun b hb => ⟨(rd.fps b hb).1.2.2.2.1, (rd.fps b hb).1.2.1, (rd.fps b hb).1.2.2.2.2.1, (rd.fps b hb).1.2.2.2.2.2⟩
  refine code_all (Y := genCx X (X.A.in1.in1.over (.compLoop (.GeneratorExp elt [⟨tg, iter, [], 0⟩] sc gpos) 0 (.ref it) .none (gEnv X sc s4.heap.objs.size cv)) []) s4 H1 (gEnv X sc s4.heap.objs.size cv) fp [(a, go)])
    (A := X.A) (go := go) (g := gn) (τ := wipe σ (own.map (·.2))) (Qt := Q (.bl true)) (Qf := Q (.bl false)) hr.hd hr.depth (by simp) rd.gen
    (fun s6 H6 I6 q6 => ⟨.bl true, H6, back s6 H6 I6, rfl, q6⟩) (fun s6 H6 I6 q6 => ⟨.bl false, H6, back s6 H6 I6, rfl, q6⟩) (m0 + 1) s5 _ (rd.gen _ rd.at_) rd.lim rd.bare rd.gs (fun s7 e7 o7 b7 => ?_)
  have J7 := inv_samehp J5 e7 o7 b7
  have st7 : tn 0 s7.heap := by
    rw [e7]
    exact rd.st
  refine ⟨rfl, seg_all_start rd.turn st7 ?_⟩
  refine seg_all (Y := genCx X (X.A.in1.in1.over (.compLoop (.GeneratorExp elt [⟨tg, iter, [], 0⟩] sc gpos) 0 (.ref it) .none (gEnv X sc s4.heap.objs.size cv)) []) s4 H1 (gEnv X sc s4.heap.objs.size cv) fp [(a, go)])
    rfl hc hco (fun b hb => hb) (fun q hq => ?_) rfl (pg _ _ _ _ _ _ _) (pe _ _ _ _ _ _ _ (room_gx hr)) rd.turn step (fun τ2 hw k v e => ?_) (m0 + 1) 0 m0 s7 s7 H1 (Nat.lt_succ_self _) J7 st7 (fun b hb => (rd.fps b hb).1.1) w0
  · have e : q = (a, go) := by simpa using hq
    subst e
    exact rd.old
  · rw [← hw] at e
    exact (wipe_some e).1
end
end GX
set_option Elab.async false
set_option maxRecDepth 100000
set_option maxHeartbeats 4000000
namespace GX
open PySem PySem.Spec PyProof.Rows L2

/-- a walk of n turns by a word of its own: the next turn is reached -/
def AllNx (n : Nat) (Pv : Nat → Hp → Prop) (i : Nat) (H : Hp) : Prop := ∃ m', m' < n - i ∧ (m' = n - (i + 1) ∧ i + 1 ≤ n ∧ Pv (i + 1) H)
theorem AllNx.mk {n : Nat} {Pv : Nat → Hp → Prop} {i : Nat} {H : Hp} (hi : i < n) (p : Pv (i + 1) H) : AllNx n Pv i H := ⟨n - (i + 1), by omega, rfl, hi, p⟩
theorem all_by {J : It} {g : TG} {te : TE} {vs : List Nat} {τ : L2.St} {Qt Qf : Hp → Prop} {H1 : Hp} (n : Nat) (Pv : Nat → Hp → Prop) (h0 : Pv 0 H1)
    (turn : ∀ i H, i < n → Pv i H → J.go i H ∧ ∀ x H', J.yld i H x H' → g x τ H' fun τ2 H2 => wipe τ2 vs = τ ∧ te τ2 H2 fun y H3 => ∃ b, y = V.bl b ∧ (b = true → AllNx n Pv i H3) ∧ (b = false → Qf H3))
    (stop : ∀ H, Pv n H → J.stop n H ∧ Qt H) :
    ∃ W : Nat → Nat → Hp → Prop, (∃ m, W 0 m H1) ∧ Step J g te vs τ Qt Qf W := by
  refine ⟨fun i m H => m = n - i ∧ i ≤ n ∧ Pv i H, ⟨n, rfl, Nat.zero_le _, h0⟩, ?_⟩
  rintro i m H ⟨rfl, hi, p⟩
  by_cases hlt : i < n
  · obtain ⟨go, nx⟩ := turn i H hlt p
    exact .inr ⟨go, nx⟩
  · have e : i = n := by omega
    subst e
    exact .inl (stop H p)
theorem bf {b : Bool} (h : ¬ b = true) : b = false := by
  cases b with
  | true => exact absurd rfl h
  | false => rfl
end GX

namespace RS
open PySem PySem.Spec PyProof.Rows L2 GX
/-! ### defs as constants of the module -/
/-- the def st stands as the module's x; c: its code object -/
structure DefAt (K : PySem.W.Frag) (mg : Str → Option Value) (x : Str) (st : Stmt) (c : Addr) : Prop where
  ex : ∃ (f : Addr) (oc : Value) (od : Option Addr) (kV doc pm : Value) (an : Option Addr) (ct : Value) (osl : Array (Option Value)),
    mg x = some (.ref f) ∧ K.lookup f = some ⟨oc, od, .func (PySem.W.fnOf x x (defArgs st) (defBody st) (defScope st) .none kV doc pm an (.ref c) ct), osl⟩ ∧
    PySem.W.codeIn K (.ref c) x = true ∧ PySem.W.keepIn K (.ref f) = true
/-- what a caller needs of a def: its promise -/
structure Cal (P : Program) (w : World) (K : PySem.W.Frag) (mg : Str → Option Value) (base : Heap) (CX : CXT) (k : Nat) (x : Str) (ps : List Str) (sp : Sp) : Prop where
  ex : ∃ (f : Addr) (fd : FuncData), FnOk P w K mg base CX k f fd ps sp ∧ mg x = some (.ref f) ∧ PySem.W.keepIn K (.ref f) = true ∧ Binds K fd ps []
section
variable {P : Program} {w : World} {K : PySem.W.Frag} {mg : Str → Option Value} {base : Heap}
theorem def_ok {CX : CXT} {x : Str} {st : Stmt} {c : Addr} {N ps : List Str} {k : Nat} {sp : Sp} (D : DefAt K mg x st c) (S : FnScope N ps (defScope st)) (len : ∀ vs H Q E, sp vs H Q E → vs.length = ps.length)
    (hb : ∀ (kV doc pm : Value) (an : Option Addr) (cdv ct : Value) (us : List Value), us.length = ps.length → bindArgs (PySem.W.fnOf x x (defArgs st) (defBody st) (defScope st) .none kV doc pm an cdv ct) ⟨us, []⟩ = pure (ps.zip us))
    (hbody : ∀ (f : Addr) (A : Around) (outer : List Env) (s : Shared) (H : Hp) (vs : List V) (Q : VK) (E : XK), Room k (A.deeper (envOfC x (defScope st) s.heap.objs.size f (.ref c))) → sp vs H Q E →
      ∃ t, PSs (cxOf CX P w K mg base N x (defScope st) f (.ref c) A outer s H E) (defBody st) t ∧ t { nx := fun _ H' => Q .non H', rt := Q } (start N vs) H) :
    Cal P w K mg base CX (k + 1) x ps sp := by
  obtain ⟨f, oc, od, kV, doc, pm, an, ct, osl, hm, lk, hcd, kp⟩ := D.ex
  exact ⟨f, _, fn_of lk hcd S len fun A outer s H vs Q E hr hsp => hbody f A outer s H vs Q E hr hsp, hm, kp, .all (hb kV doc pm an (.ref c) ct)⟩
/-- .. that no exception leaves -/
theorem def_ok0 {x : Str} {st : Stmt} {c : Addr} {N ps : List Str} {k : Nat} {sp : Sp} (D : DefAt K mg x st c) (S : FnScope N ps (defScope st)) (len : ∀ vs H Q E, sp vs H Q E → vs.length = ps.length)
    (hb : ∀ (kV doc pm : Value) (an : Option Addr) (cdv ct : Value) (us : List Value), us.length = ps.length → bindArgs (PySem.W.fnOf x x (defArgs st) (defBody st) (defScope st) .none kV doc pm an cdv ct) ⟨us, []⟩ = pure (ps.zip us))
    (hbody : ∀ (f : Addr) (A : Around) (outer : List Env) (s : Shared) (H : Hp) (vs : List V) (Q : VK) (E : XK), Room k (A.deeper (envOfC x (defScope st) s.heap.objs.size f (.ref c))) → sp vs H Q E →
      ∃ t, PSs (cxOf CX0 P w K mg base N x (defScope st) f (.ref c) A outer s H E).nox (defBody st) t ∧ t { nx := fun _ H' => Q .non H', rt := Q } (start N vs) H) :
    Cal P w K mg base CX0 (k + 1) x ps sp :=
  def_ok D S len hb fun f A outer s H vs Q E hr hsp => by
    obtain ⟨t, ht, q⟩ := hbody f A outer s H vs Q E hr hsp
    exact ⟨t, ht.nox, q⟩
end
section
variable {X : Cx} {CX : CXT} {k j : Nat} {ps : List Str} {sp : Sp} {E : XK} {x : Str} {p pos : Pos} {e : Expr} {es : List Expr} {t : TA}
theorem pe_c (c : Cal X.prog X.w X.K X.mg X.base CX k x ps sp) (hr : Room j X.A) (hk : k ≤ j) (hg : Gl X x) (hx : Passes CX X E) (ha : PA X (e :: es) t) (hdb : (x == ("__debug__" : Str)) = false := by decide)
    (he : starEach (e :: es) X.env = (false, eval e X.env) :: starEach es X.env := by rfl) (hpl : (backTo pos (starEach es X.env)).any (·.1) = false := by rfl) :
    PE X (.Call (.Name x p) (e :: es) [] pos) (tCall sp [] E t) := by
  obtain ⟨f, fd, F, hm, kp, hb⟩ := c.ex
  exact pe_call F (hr.mono hk) hg hm kp hb .nil hx ha hdb he hpl
end

/-! ### data -/
theorem sqT_same {K : PySem.W.Frag} {H H' : Hp} {a : Addr} {xs : List V} (e : Same H H') (h : SqT K H a xs) : SqT K H' a xs := by
  rcases h with (h | ⟨o, h⟩) | h
  · exact .inl (.inl (e _ _ h))
  · exact .inl (.inr ⟨o, e _ _ h⟩)
  · exact .inr h
mutual
theorem dp_same {K : PySem.W.Frag} {H H' : Hp} (e : Same H H') : ∀ (d : PyData) {v : V}, Dp K H v d → Dp K H' v d
  | .none, _, .non => .non
  | .bool b, _, .bl _ => .bl b
  | .int i, _, .int _ => .int i
  | .str x, _, .str _ => .str x
  | .list ds, _, .lst h hs => .lst (e.seq h) (dpAll_same e ds hs)
  | .tuple ds, _, .tup h hs => .tup (sqT_same e h) (dpAll_same e ds hs)
  | .dict _, _, h => nomatch h
theorem dpAll_same {K : PySem.W.Frag} {H H' : Hp} (e : Same H H') : ∀ (ds : List PyData) {vs : List V}, DpAll K H vs ds → DpAll K H' vs ds
  | [], _, .nil => .nil
  | d :: ds, _, .cons h hs => .cons (dp_same e d h) (dpAll_same e ds hs)
end
theorem dpLen {K : PySem.W.Frag} {H : Hp} : ∀ {vs : List V} {ds : List PyData}, DpAll K H vs ds → vs.length = ds.length
  | _, _, .nil => rfl
  | _, _, .cons _ t => congrArg (· + 1) (dpLen t)
theorem dpGet {K : PySem.W.Frag} {H : Hp} : ∀ {vs : List V} {ds : List PyData} {i : Nat} {v : V}, DpAll K H vs ds → vs[i]? = some v → ∃ d, ds[i]? = some d ∧ Dp K H v d
  | _, _, _, _, .nil, e => by simp at e
  | _, _, 0, _, .cons h _, e => by
    simp at e
    subst e
    exact ⟨_, rfl, h⟩
  | _, _, i + 1, v, .cons _ t, e => by
    obtain ⟨d, h1, h2⟩ := dpGet (i := i) (v := v) t (by simpa using e)
    exact ⟨d, by simpa using h1, h2⟩
theorem dpGet' {K : PySem.W.Frag} {H : Hp} {vs : List V} {ds : List PyData} {i : Nat} {d : PyData} (h : DpAll K H vs ds) (e : ds[i]? = some d) : ∃ v, vs[i]? = some v ∧ Dp K H v d := by
  have hl := dpLen h
  have hi : i < vs.length := by
    rw [hl]
    exact (List.getElem?_eq_some_iff.mp e).1
  obtain ⟨d', e', h'⟩ := dpGet h (List.getElem?_eq_getElem hi)
  rw [e] at e'
  cases e'
  exact ⟨_, List.getElem?_eq_getElem hi, h'⟩
theorem dpApp {K : PySem.W.Frag} {H : Hp} : ∀ {vs ws : List V} {ds es : List PyData}, DpAll K H vs ds → DpAll K H ws es → DpAll K H (vs ++ ws) (ds ++ es)
  | _, _, _, _, .nil, h => h
  | _, _, _, _, .cons h t, q => .cons h (dpApp t q)

/-- the name of a datum's type -/
def tyN : PyData → String
  | .none => "NoneType"
  | .bool _ => "bool"
  | .int _ => "int"
  | .str _ => "str"
  | .list _ => "list"
  | .tuple _ => "tuple"
  | .dict _ => "dict"
/-- isinstance(d, T), d's type being n -/
def isT (T n : String) : Bool := T == n || (T == "int" && n == "bool")
def isI (T : String) (d : PyData) : Bool := isT T (tyN d)
theorem kit_names : ∀ n ∈ ["NoneType", "bool", "int", "str", "list", "tuple"], ∀ T ∈ ["int", "bool", "str", "list", "tuple"], kitB n T = some (isT T n) := by decide +kernel
theorem dp_ty {K : PySem.W.Frag} {H : Hp} {v : V} {d : PyData} (h : Dp K H v d) : TyX K H v (.type (tyN d)) := by
  cases h with
  | non => exact .base .non
  | bl b => exact .base (.bl b)
  | int i => exact .base (.int i)
  | str x => exact .base (.str x)
  | lst q _ =>
    rcases q with (q | ⟨o, q⟩) | ⟨o, its, n, q, c, _⟩
    · exact .base (.lst q)
    · exact .base (.frz q)
    · exact .kList q c
  | tup q _ =>
    rcases q with (q | ⟨o, q⟩) | ⟨o, its, n, q, c, _⟩
    · exact .base (.tup q)
    · exact .fTuple q
    · exact .kTuple q c
theorem kit_isI {K : PySem.W.Frag} {T : String} (hT : T ∈ ["int", "bool", "str", "list", "tuple"]) {H : Hp} {v : V} {d : PyData} (h : Dp K H v d) : PySem.W.kitOne K (.type (tyN d)) (.type T) = some (isI T d) := by
  refine kit_ty (kit_names _ ?_ _ hT)
  cases h <;> simp [tyN]
theorem isi_at {K : PySem.W.Frag} {H : Hp} {v : V} {d : PyData} {T : String} {Q : VK} (h : Dp K H v d) (q : Q (.bl (isI T d)) H) (hT : T ∈ ["int", "bool", "str", "list", "tuple"] := by simp) : rIsi K [v, .ty T] H Q :=
  ⟨v, .ty T, _, _, isI T d, rfl, .ty T, dp_ty h, kit_isI hT h, q⟩
end RS
set_option Elab.async false
set_option maxRecDepth 100000
set_option maxHeartbeats 4000000
namespace RS
open PySem PySem.Spec PyProof.Rows L2 GX
section
variable {X : Cx}
/-! ### rules whose readings speak of data -/
/-- isinstance(x, T) -/
theorem call_isiD : CallR X (.builtin "isinstance") (fun xs H Q => ∃ x T d, xs = [x, .ty T] ∧ T ∈ ["int", "bool", "str", "list", "tuple"] ∧ Dp X.K H x d ∧ Q (.bl (isI T d)) H) := by
  intro pins s σ H xs us Q I r ⟨x, T, d, e, hT, hd, q⟩
  subst e
  exact call_isi pins s σ H _ us Q I r ⟨x, .ty T, _, _, isI T d, rfl, .ty T, dp_ty hd, kit_isI hT hd, q⟩
/-- how many items -/
def lenD : PyData → Option Nat
  | .list ds => some ds.length
  | .tuple ds => some ds.length
  | .str x => if x.length ≤ sizeLine then some x.length else none
  | _ => none
/-- len(x) of a list, a tuple, a text -/
theorem call_lenD : CallR X (.builtin "len") (fun xs H Q => ∃ x d n, xs = [x] ∧ Dp X.K H x d ∧ lenD d = some n ∧ Q (.int n) H) := by
  intro pins s σ H xs us Q I r ⟨x, d, n, e, hd, hn, q⟩
  subst e
  cases hd with
  | non => cases hn
  | bl _ => cases hn
  | int _ => cases hn
  | str y =>
    simp only [lenD] at hn
    split at hn
    · rename_i hz
      cases hn
      exact call_len_str pins s σ H _ us Q I r ⟨y, rfl, hz, q⟩
    · cases hn
  | @lst a ys ds h hs =>
    cases hn
    rw [← dpLen hs] at q
    exact call_len_seq pins s σ H _ us Q I r ⟨a, ys, rfl, .inl h, q⟩
  | @tup a ys ds h hs =>
    cases hn
    rw [← dpLen hs] at q
    exact call_len_seq pins s σ H _ us Q I r ⟨a, ys, rfl, .inr h, q⟩
/-- the items of a list or tuple -/
def itemsD : PyData → Option (List PyData)
  | .list ds => some ds
  | .tuple ds => some ds
  | _ => none
/-- x[i] of a list or a tuple -/
theorem ixD : IxR X (fun x y H Q => ∃ d ds i d', Dp X.K H x d ∧ itemsD d = some ds ∧ y = .int i ∧ atI ds i = some d' ∧ ∀ v, Dp X.K H v d' → Q v H) := by
  intro value slice pins s σ H x y v u Q I rx ry ⟨d, ds, i, d', hd, hi, ey, ha, q⟩ hs
  have at_ : ∀ {vs : List V}, DpAll X.K H vs ds → ∃ v, atI vs i = some v ∧ Dp X.K H v d' := fun {vs} hv => by
    unfold atI at ha ⊢
    rw [← dpLen hv] at ha
    cases hx : ixN vs.length i with
    | none => rw [hx] at ha; cases ha
    | some j =>
      rw [hx] at ha
      exact dpGet' hv ha
  cases hd with
  | non => cases hi
  | bl _ => cases hi
  | int _ => cases hi
  | str _ => cases hi
  | @lst a ys es h hes =>
    cases hi
    obtain ⟨z, hz, hzd⟩ := at_ hes
    exact ix_list value slice pins s σ H _ y v u Q I rx ry ⟨a, ys, i, z, rfl, ey, h, hz, q z hzd⟩ hs
  | @tup a ys es h hes =>
    cases hi
    obtain ⟨z, hz, hzd⟩ := at_ hes
    exact ix_tup value slice pins s σ H _ y v u Q I rx ry ⟨a, ys, i, z, rfl, ey, h, hz, q z hzd⟩ hs
end
end RS
set_option Elab.async false
set_option maxRecDepth 100000
set_option maxHeartbeats 4000000
namespace HQ
open PySem PySem.Spec PyProof.Rows L2 RS

/-! ### entries -/
theorem en_sift : entryFor table "_heapq.heapify.sift" = some Builtin.«_heapq.heapify.sift» := entryFor_of_fast (by kernel_rfl)
theorem en_heapify : entryFor table "_heapq.heapify" = some Builtin.«_heapq.heapify» := entryFor_of_fast (by kernel_rfl)
theorem en_push : entryFor table "_heapq.heappush" = some Builtin.«_heapq.heappush» := entryFor_of_fast (by kernel_rfl)
theorem en_pop : entryFor table "_heapq.heappop" = some Builtin.«_heapq.heappop» := entryFor_of_fast (by kernel_rfl)
theorem pl_sift : plainId "_heapq.heapify.sift" = true := by decide +kernel
theorem pl_heapify : plainId "_heapq.heapify" = true := by decide +kernel
theorem pl_push : plainId "_heapq.heappush" = true := by decide +kernel
theorem pl_pop : plainId "_heapq.heappop" = true := by decide +kernel
theorem ki_heapify : builtinKind "_heapq.heapify" = none := by decide +kernel
theorem ki_push : builtinKind "_heapq.heappush" = none := by decide +kernel
theorem ki_pop : builtinKind "_heapq.heappop" = none := by decide +kernel
theorem ar_heapify (a : Value) : argsOk "_heapq.heapify" ⟨[a], []⟩ := by unfold argsOk; kernel_rfl
theorem ar_push (a b : Value) : argsOk "_heapq.heappush" ⟨[a, b], []⟩ := by unfold argsOk; kernel_rfl
theorem ar_pop (a : Value) : argsOk "_heapq.heappop" ⟨[a], []⟩ := by unfold argsOk; kernel_rfl

/-! ### the order of data -/
abbrev Z := V × PyData
def ltz (x y : Z) : Bool := PySem.W.dataLt x.2 y.2
theorem swo_z : SrtO.Swo ltz := by
  refine ⟨fun x y h => ?_, fun x y z h1 h2 => ?_⟩
  · cases q : ltz y x with
    | false => rfl
    | true =>
      have t := (PyProof.Rows.listOrd PyProof.Rows.itemOrd).trans _ _ _ h q
      rw [(PyProof.Rows.listOrd PyProof.Rows.itemOrd).irrefl] at t
      cases t
  · cases q : ltz z x with
    | false => rfl
    | true =>
      rcases (PyProof.Rows.listOrd PyProof.Rows.itemOrd).negTrans _ (PySem.W.keyToks y.2) _ q with t | t
      · exact t.symm.trans h2
      · exact t.symm.trans h1

/-! ### lists as heaps -/
def dz : Z := (.non, .none)
def nth (zs : List Z) (i : Nat) : Z := zs.getD i dz
def sw (zs : List Z) (i j : Nat) : List Z := (zs.set i (nth zs j)).set j (nth zs i)
theorem nth_eq {zs : List Z} {i : Nat} (h : i < zs.length) : nth zs i = zs[i] := by
  unfold nth
  rw [List.getD_eq_getElem?_getD, List.getElem?_eq_getElem h]
  rfl
theorem nth_at {zs : List Z} {i : Nat} (h : i < zs.length) : zs[i]? = some (nth zs i) := by rw [nth_eq h, List.getElem?_eq_getElem h]
theorem nth_mem {zs : List Z} {i : Nat} (h : i < zs.length) : nth zs i ∈ zs := by rw [nth_eq h]; exact List.getElem_mem h
theorem sw_len (zs : List Z) (i j : Nat) : (sw zs i j).length = zs.length := by unfold sw; rw [List.length_set, List.length_set]
theorem sw_perm {zs : List Z} {i j : Nat} (hi : i < zs.length) (hj : j < zs.length) : (sw zs i j).Perm zs := by
  unfold sw
  rw [nth_eq hi, nth_eq hj]
  exact List.set_set_perm hi hj
theorem sw_nth {zs : List Z} {i j : Nat} (hi : i < zs.length) (hj : j < zs.length) (ne : i ≠ j) : nth (sw zs i j) = swp (nth zs) i j := by
  funext k
  unfold swp
  unfold nth sw
  simp only [List.getD_eq_getElem?_getD, List.getElem?_set, List.length_set]
  by_cases e1 : j = k
  · subst e1
    rw [if_pos rfl, if_pos hj, if_neg (Ne.symm ne), if_pos rfl]
    rfl
  · rw [if_neg e1]
    by_cases e2 : i = k
    · subst e2
      rw [if_pos rfl, if_pos hi, if_pos rfl]
      rfl
    · rw [if_neg e2, if_neg (Ne.symm e2), if_neg (Ne.symm e1)]

/-- two that can be compared: alike, or of three parts with the first numbers unlike -/
def Cmp (d d' : PyData) : Prop := PySem.W.alike d d' = true ∨ ∃ (x1 x2 y1 y2 : Int) (e e' : PyData), d = .tuple [.int x1, .int x2, e] ∧ d' = .tuple [.int y1, .int y2, e'] ∧ (x1 ≠ y1 ∨ x2 ≠ y2)
/-- items that may stand in the heap at a -/
structure Good (K : PySem.W.Frag) (H : Hp) (a : Addr) (zs : List Z) : Prop where
  dp : ∀ z ∈ zs, ∀ u, Dp K (upd H a (.lst u)) z.1 z.2
  nn : ∀ z ∈ zs, z.2 ≠ .none
  dep : ∀ z ∈ zs, z.2.depth ≤ 60
  al : ∀ z ∈ zs, ∀ y ∈ zs, Cmp z.2 y.2
theorem Good.perm {K : PySem.W.Frag} {H : Hp} {a : Addr} {zs ys : List Z} (G : Good K H a zs) (p : ys.Perm zs) : Good K H a ys :=
  ⟨fun z h => G.dp z (p.mem_iff.mp h), fun z h => G.nn z (p.mem_iff.mp h), fun z h => G.dep z (p.mem_iff.mp h), fun z h y g => G.al z (p.mem_iff.mp h) y (p.mem_iff.mp g)⟩
theorem Good.sub {K : PySem.W.Frag} {H : Hp} {a : Addr} {zs ys : List Z} (G : Good K H a zs) (p : ∀ y ∈ ys, y ∈ zs) : Good K H a ys :=
  ⟨fun z h => G.dp z (p _ h), fun z h => G.nn z (p _ h), fun z h => G.dep z (p _ h), fun z h y g => G.al z (p _ h) y (p _ g)⟩
abbrev hp (H : Hp) (a : Addr) (zs : List Z) : Hp := upd H a (.lst (zs.map (·.1)))
section
variable {X : Cx} {pins : List (Addr × Obj)} {σ : L2.St} {H : Hp} {a : Addr} {zs : List Z} {s : Shared}
theorem less_ {x y : Z} {u v : Value} {E : Value → Shared → Prop} {Q : Value → Shared → Prop} {A : Around} (hu : A.units + 61 < cLine) (G : Good X.K H a zs) (I : Inv X pins σ (hp H a zs) s) (hx : x ∈ zs) (hy : y ∈ zs) (rx : RelV x.1 u) (ry : RelV y.1 v)
    (h : Q (.bool (ltz x y)) s) : wpAny (model X.prog X.w) A (richCompare .Lt u v) Q E s := by
  obtain ⟨as, r1⟩ := Dp.reads I _ _ _ (G.dp x hx _) rx
  obtain ⟨bs, r2⟩ := Dp.reads I _ _ _ (G.dp y hy _) ry
  rcases G.al x hx y hy with al | ⟨x1, x2, y1, y2, e, e', e1, e2, ne⟩
  · exact PySem.W.rcLt_alike x.2 y.2 A s u v as bs r1 r2 al (G.nn x hx) (by have := G.dep x hx; omega) X.prog X.w E Q h
  · unfold ltz at h
    rw [e1] at r1 h
    rw [e2] at r2 h
    exact rc_tri r1 r2 ne (by omega) X.prog X.w E Q h
/-- what the sifting does next -/
def Nx (X : Cx) (a : Addr) (after : Int) (res : Value) (R : Result → Shared → Prop) (s : Shared) : Prop :=
  if after < 0 then R (.ok (.ret res)) s else codeAny (model X.prog X.w) X.A (.builtin "_heapq.heapify.sift" ⟨[.ref a, .bool false, .bool true, rawInt (after.toNat : Nat), rawInt (after.toNat : Nat), res, rawInt (after - 1)], []⟩) R s

theorem at_ {M : Model} {A : Around} {xs : Array Value} {i : Nat} {u : Value} {f : Sem Value} {Q : Value → Shared → Prop} {E : Value → Shared → Prop} {s : Shared} (h : xs[i]? = some u) (q : Q u s) :
    wpAny M A (match xs[i]? with | some v => pure v | none => f) Q E s := by
  rw [h]
  exact wpAny_pure q
theorem vals_at {zs : List Z} {its : List Value} (r : Vals (zs.map (·.1)) its) {i : Nat} (h : i < zs.length) : ∃ u, its[i]? = some u ∧ its.toArray[i]? = some u ∧ RelV (nth zs i).1 u := by
  obtain ⟨u, h1, h2⟩ := r.get (i := i) (x := (nth zs i).1) (by rw [List.getElem?_map, nth_at h]; rfl)
  exact ⟨u, h1, by rw [← Array.getElem?_toList]; exact h1, h2⟩
theorem sw_map {zs : List Z} {i j : Nat} {its : List Value} (r : Vals (zs.map (·.1)) its) {u v : Value} (hu : RelV (nth zs i).1 u) (hv : RelV (nth zs j).1 v) :
    Vals ((sw zs i j).map (·.1)) ((its.set i v).set j u) := by
  unfold sw
  rw [List.map_set, List.map_set]
  exact (r.set hv i).set hu j
theorem swap_inv {i j : Nat} {its : List Value} {n : Nat} (I : Inv X pins σ (hp H a zs) s) (r : Vals (zs.map (·.1)) its) (e : s.heap.get? a = some { cls := .type "list", data := .seq its.toArray n }) (z : zs.length ≤ sizeLine) {u v : Value}
    (hu : RelV (nth zs i).1 u) (hv : RelV (nth zs j).1 v) :
    Inv X pins σ (hp H a (sw zs i j)) { s with heap := s.heap.update a (Obj.mapSeq fun xs => (xs.setIfInBounds i v).setIfInBounds j u) } := by
  have q := I.lset (l := a) (its' := (its.set i v).set j u) (f := fun xs => (xs.setIfInBounds i v).setIfInBounds j u) (t' := s.toks) upd_same e (by simp) (sw_map (i := i) (j := j) r hu hv) (by rw [List.length_map, sw_len]; exact z)
  rw [upd_upd] at q
  exact q
theorem up_run (hu : X.A.units + 64 < cLine) {top : Nat} {after : Int} {res : Value} {R : Result → Shared → Prop} (hz : zs.length ≤ sizeLine) (G : Good X.K H a zs)
    (hend : ∀ s' ys, ys.Perm zs → From ltz zs.length (nth ys) top → Inv X pins σ (hp H a ys) s' → Nx X a after res R s') :
    ∀ (m pos : Nat) (ys : List Z) (s : Shared), pos ≤ m → pos < zs.length → ys.Perm zs → Up ltz zs.length (nth ys) top pos → Inv X pins σ (hp H a ys) s →
      codeAny (model X.prog X.w) X.A (.builtin "_heapq.heapify.sift" ⟨[.ref a, .bool false, .bool false, rawInt pos, rawInt top, res, rawInt after], []⟩) R s := by
  intro m
  induction m using Nat.strongRecOn with
  | ind m ih =>
    intro pos ys s hm hp p U I
    obtain ⟨z, its, n, r, hl, e⟩ := I.lstM (l := a) (xs := ys.map (·.1)) upd_same
    rw [List.length_map] at hl z
    have lz := p.length_eq
    refine codeAny_builtin en_sift ?_
    rw [Around.under_plainId pl_sift _]
    show wpAny _ X.A.in1 (_ >>= _) _ _ _
    refine wpAny_bind (wpAny_bind (wpAny_seqItems e rfl (wpAny_pure ?_)))
    show wpAny _ X.A.in1 (if pos > top then _ else _) _ _ _
    have stop : ∀ s' : Shared, Nx X a after res R s' → wpAny (model X.prog X.w) X.A.in1 (if after < 0 then ret res else again (.builtin "_heapq.heapify.sift" ⟨[.ref a, .bool false, .bool true, rawInt (after.toNat : Nat), rawInt (after.toNat : Nat), res, rawInt (after - 1)], []⟩))
        (fun fin s' => match fin with | .done f => R (.ok f) s' | .again c' => c'.quiet = true ∧ codeAny (model X.prog X.w) X.A c' R s') (fun e s' => R (.error e) s') s' := by
      intro s' q
      unfold Nx at q
      by_cases g : after < 0
      · rw [if_pos g] at q ⊢
        exact wpAny_pure q
      · rw [if_neg g] at q ⊢
        exact wpAny_pure ⟨plainId_quiet pl_sift _, q⟩
    by_cases h1 : pos > top
    · rw [if_pos h1]
      have hpp := par_lt (i := pos) (by omega)
      obtain ⟨u, u1, u2, u3⟩ := vals_at r (i := pos) (by omega)
      obtain ⟨v, v1, v2, v3⟩ := vals_at r (i := par pos) (by omega)
      refine wpAny_bind (at_ u2 ?_)
      refine wpAny_bind (at_ v2 ?_)
      show wpAny _ X.A.in1 (_ >>= _) _ _ _
      refine wpAny_bind (wpAny_bind (wpAny_holding (wpAny_bind (less_ (x := nth ys pos) (y := nth ys (par pos)) (by show X.A.units + 1 + 61 < cLine; omega) (G.perm p) I (nth_mem (by omega)) (nth_mem (by omega)) u3 v3 (wpAny_truthy_bool ?_)))))
      refine wpAny_bind (wpAny_bind (wpAny_seqItems e rfl (wpAny_pure ?_)))
      show wpAny _ X.A.in1 (if (its.toArray.size != its.toArray.size) = true then _ else _) _ _ _
      rw [if_neg (by simp)]
      refine wpAny_pure ?_
      show wpAny _ X.A.in1 (if ltz (nth ys pos) (nth ys (par pos)) = true then _ else _) _ _ _
      by_cases h2 : ltz (nth ys pos) (nth ys (par pos)) = true
      · rw [if_pos h2]
        refine wpAny_bind (wpAny_bind (wpAny_bind (wpAny_seqItems e rfl (wpAny_pure ?_))))
        refine wpAny_bind (at_ v2 ?_)
        refine wpAny_bind (at_ u2 ?_)
        refine wpAny_updateSeq e rfl ?_ (by rw [List.size_toArray]; omega) (by simp only [Array.size_setIfInBounds, List.size_toArray]; omega)
        refine wpAny_pure ⟨plainId_quiet pl_sift _, ?_⟩
        have I2 := swap_inv (i := par pos) (j := pos) I r e z v3 u3
        have U2 := U.step swo_z hp h1 h2
        rw [← sw_nth (by omega) (by omega) (by omega)] at U2
        exact ih (par pos) (by omega) (par pos) _ _ (Nat.le_refl _) (by omega) ((sw_perm (by omega) (by omega)).trans p) U2 I2
      · rw [if_neg h2]
        exact stop _ (hend s ys p (U.stop (by
          cases q : ltz (nth ys pos) (nth ys (par pos)) with
          | false => rfl
          | true => exact absurd q h2)) I)
    · rw [if_neg h1]
      exact stop _ (hend s ys p (U.top h1) I)

theorem down_run (hu : X.A.units + 64 < cLine) {top : Nat} {after : Int} {res : Value} {R : Result → Shared → Prop} (hz : zs.length ≤ sizeLine) (G : Good X.K H a zs)
    (hend : ∀ s' ys, ys.Perm zs → From ltz zs.length (nth ys) top → Inv X pins σ (hp H a ys) s' → Nx X a after res R s') :
    ∀ (m pos : Nat) (ys : List Z) (s : Shared), zs.length - pos ≤ m → pos < zs.length → ys.Perm zs → Down ltz zs.length (nth ys) top pos → Inv X pins σ (hp H a ys) s →
      codeAny (model X.prog X.w) X.A (.builtin "_heapq.heapify.sift" ⟨[.ref a, .bool false, .bool true, rawInt pos, rawInt top, res, rawInt after], []⟩) R s := by
  intro m
  induction m using Nat.strongRecOn with
  | ind m ih =>
    intro pos ys s hm hp p D I
    obtain ⟨z, its, n, r, hl, e⟩ := I.lstM (l := a) (xs := ys.map (·.1)) upd_same
    rw [List.length_map] at hl z
    have lz := p.length_eq
    have sz : its.toArray.size = zs.length := by rw [List.size_toArray, ← hl, lz]
    refine codeAny_builtin en_sift ?_
    rw [Around.under_plainId pl_sift _]
    show wpAny _ X.A.in1 (_ >>= _) _ _ _
    refine wpAny_bind (wpAny_bind (wpAny_seqItems e rfl (wpAny_pure ?_)))
    show wpAny _ X.A.in1 (if pos < its.toArray.size / 2 then _ else _) _ _ _
    rw [sz]
    by_cases h1 : pos < zs.length / 2
    · rw [if_pos h1]
      obtain ⟨u, u1, u2, u3⟩ := vals_at r (i := pos) (by omega)
      obtain ⟨l, l1, l2, l3⟩ := vals_at r (i := 2 * pos + 1) (by omega)
      have nxt : ∀ c, (c = 2 * pos + 1 ∨ c = 2 * pos + 2) → c < zs.length → (∀ d, (d = 2 * pos + 1 ∨ d = 2 * pos + 2) → d < zs.length → ltz (nth ys d) (nth ys c) = false) → ∀ w, RelV (nth ys c).1 w →
          codeAny (model X.prog X.w) X.A (.builtin "_heapq.heapify.sift" ⟨[.ref a, .bool false, .bool true, rawInt c, rawInt top, res, rawInt after], []⟩) R { s with heap := s.heap.update a (Obj.mapSeq fun xs => (xs.setIfInBounds c u).setIfInBounds pos w) } := by
        intro c hc hl2 hmin w rw'
        have I2 := swap_inv (i := c) (j := pos) I r e z rw' u3
        have D2 := D.step swo_z hl2 hc hmin
        rw [← sw_nth (by omega) (by omega) (by omega)] at D2
        exact ih (zs.length - c) (by omega) c _ _ (Nat.le_refl _) hl2 ((sw_perm (by omega) (by omega)).trans p) D2 I2
      by_cases h2 : 2 * pos + 1 + 1 < zs.length
      · rw [if_pos (show 2 * (pos : Int).toNat + 1 + 1 < zs.length from h2)]
        obtain ⟨q, q1, q2, q3⟩ := vals_at r (i := 2 * pos + 1 + 1) (by omega)
        refine wpAny_bind (at_ l2 ?_)
        refine wpAny_bind (at_ q2 ?_)
        show wpAny _ X.A.in1 (_ >>= _) _ _ _
        refine wpAny_bind (wpAny_bind (wpAny_holding (wpAny_bind (less_ (x := nth ys (2 * pos + 1)) (y := nth ys (2 * pos + 1 + 1)) (by show X.A.units + 1 + 61 < cLine; omega) (G.perm p) I (nth_mem (by omega)) (nth_mem (by omega)) l3 q3 (wpAny_truthy_bool ?_)))))
        refine wpAny_bind (wpAny_bind (wpAny_seqItems e rfl (wpAny_pure ?_)))
        show wpAny _ X.A.in1 (if (its.toArray.size != zs.length) = true then _ else _) _ _ _
        rw [if_neg (by rw [sz]; simp)]
        refine wpAny_pure ?_
        show wpAny _ X.A.in1 (if (!ltz (nth ys (2 * pos + 1)) (nth ys (2 * pos + 1 + 1))) = true then _ else _) _ _ _
        by_cases h3 : ltz (nth ys (2 * pos + 1)) (nth ys (2 * pos + 1 + 1)) = true
        · rw [if_neg (by rw [h3]; decide)]
          refine wpAny_bind (wpAny_bind (wpAny_bind (wpAny_seqItems e rfl (wpAny_pure ?_))))
          refine wpAny_bind (at_ l2 ?_)
          refine wpAny_bind (at_ u2 ?_)
          refine wpAny_updateSeq e rfl ?_ (by rw [List.size_toArray]; omega) (by simp only [Array.size_setIfInBounds, List.size_toArray]; omega)
          refine wpAny_pure ⟨plainId_quiet pl_sift _, ?_⟩
          exact nxt _ (.inl rfl) (by omega) (fun d hd _ => by
                      rcases hd with e1 | e1
                      · subst e1; exact swo_z.refl _
                      · subst e1; exact swo_z.asym _ _ h3) l l3
        · have h3' : ltz (nth ys (2 * pos + 1)) (nth ys (2 * pos + 1 + 1)) = false := by
            cases q : ltz (nth ys (2 * pos + 1)) (nth ys (2 * pos + 1 + 1)) with
            | false => rfl
            | true => exact absurd q h3
          rw [if_pos (by rw [h3']; decide)]
          refine wpAny_bind (wpAny_bind (wpAny_bind (wpAny_seqItems e rfl (wpAny_pure ?_))))
          refine wpAny_bind (at_ q2 ?_)
          refine wpAny_bind (at_ u2 ?_)
          refine wpAny_updateSeq e rfl ?_ (by rw [List.size_toArray]; omega) (by simp only [Array.size_setIfInBounds, List.size_toArray]; omega)
          refine wpAny_pure ⟨plainId_quiet pl_sift _, ?_⟩
          exact nxt _ (.inr rfl) (by omega) (fun d hd _ => by
                      rcases hd with e1 | e1
                      · subst e1; exact h3'
                      · subst e1; exact swo_z.refl _) q q3
      · rw [if_neg (show ¬ 2 * (pos : Int).toNat + 1 + 1 < zs.length from h2)]
        refine wpAny_bind (wpAny_bind (wpAny_bind (wpAny_seqItems e rfl (wpAny_pure ?_))))
        refine wpAny_bind (at_ l2 ?_)
        refine wpAny_bind (at_ u2 ?_)
        refine wpAny_updateSeq e rfl ?_ (by rw [List.size_toArray]; omega) (by simp only [Array.size_setIfInBounds, List.size_toArray]; omega)
        refine wpAny_pure ⟨plainId_quiet pl_sift _, ?_⟩
        exact nxt _ (.inl rfl) (by omega) (fun d hd hd2 => by
                  rcases hd with e1 | e1
                  · subst e1; exact swo_z.refl _
                  · omega) l l3
    · rw [if_neg h1]
      refine wpAny_pure ⟨plainId_quiet pl_sift _, ?_⟩
      exact up_run hu hz G hend pos pos ys s (Nat.le_refl _) hp p (D.leaf h1) I
end
end HQ
set_option Elab.async false
set_option maxRecDepth 100000
set_option maxHeartbeats 4000000
namespace RS
open PySem PySem.Spec PyProof.Rows L2 GX HQ
/-! ### min of pairs of numbers -/
def plt (p q : Int × Int) : Bool := if p.1 = q.1 then decide (p.2 < q.2) else decide (p.1 < q.1)
abbrev prD (p : Int × Int) : PyData := .tuple [.int p.1, .int p.2]
theorem plt_eq (p q : Int × Int) : PySem.W.dataLt (prD p) (prD q) = plt p q := PySem.W.DatumOrd.lt_eq (α := Int × Int) p q
theorem pr_alike (p q : Int × Int) : PySem.W.alike (prD p) (prD q) = true := PySem.W.DatumOrd.alike (α := Int × Int) p q
theorem plt_iff {p q : Int × Int} : plt p q = true ↔ p.1 < q.1 ∨ (p.1 = q.1 ∧ p.2 < q.2) := by
  unfold plt
  by_cases h : p.1 = q.1
  · rw [if_pos h, decide_eq_true_eq]
    omega
  · rw [if_neg h, decide_eq_true_eq]
    omega
theorem plt_no {p q : Int × Int} : plt p q = false ↔ q.1 < p.1 ∨ (p.1 = q.1 ∧ q.2 ≤ p.2) := by
  unfold plt
  by_cases h : p.1 = q.1
  · rw [if_pos h, decide_eq_false_iff_not]
    omega
  · rw [if_neg h, decide_eq_false_iff_not]
    omega
theorem best_min (f : Nat → Int × Int) : ∀ k, argBest (fun i j => plt (f i) (f j)) k ≤ k ∧ ∀ j, j ≤ k → plt (f j) (f (argBest (fun i j => plt (f i) (f j)) k)) = false
  | 0 => ⟨Nat.le_refl _, fun j hj => by
    have : j = 0 := by omega
    subst this
    exact plt_no.mpr (.inr ⟨rfl, Int.le_refl _⟩)⟩
  | k + 1 => by
    obtain ⟨h1, h2⟩ := best_min f k
    show (if plt (f (k + 1)) (f (argBest (fun i j => plt (f i) (f j)) k)) = true then k + 1 else argBest (fun i j => plt (f i) (f j)) k) ≤ k + 1 ∧ ∀ j, j ≤ k + 1 → plt (f j) (f (if plt (f (k + 1)) (f (argBest (fun i j => plt (f i) (f j)) k)) = true then k + 1 else argBest (fun i j => plt (f i) (f j)) k)) = false
    by_cases hb : plt (f (k + 1)) (f (argBest (fun i j => plt (f i) (f j)) k)) = true
    · rw [if_pos hb]
      refine ⟨Nat.le_refl _, fun j hj => ?_⟩
      rcases Nat.lt_or_ge k j with h | h
      · have : j = k + 1 := by omega
        subst this
        exact plt_no.mpr (.inr ⟨rfl, Int.le_refl _⟩)
      · have a := plt_no.mp (h2 j h)
        have b := plt_iff.mp hb
        exact plt_no.mpr (by omega)
    · rw [if_neg hb]
      refine ⟨Nat.le_succ_of_le h1, fun j hj => ?_⟩
      rcases Nat.lt_or_ge k j with h | h
      · have : j = k + 1 := by omega
        subst this
        exact Bool.eq_false_iff.mpr hb
      · exact h2 j h
theorem best_congr (f g : Nat → Nat → Bool) (h : ∀ i j, f i j = g i j) (k : Nat) : argBest f k = argBest g k := by
  have : f = g := by
    funext i j
    exact h i j
  rw [this]
section
variable {X : Cx}
theorem pr_getD (ps : List (Int × Int)) (i : Nat) (h : i < ps.length) : (ps.map prD).getD i .none = prD (ps.getD i (0, 0)) := by
  rw [List.getD_eq_getElem?_getD, List.getD_eq_getElem?_getD, List.getElem?_map, List.getElem?_eq_getElem h]
  rfl
theorem depth_pr (p : Int × Int) : (prD p).depth ≤ 2 := by
  have h : (prD p).depth = PyData.depth (.tuple [.int 0, .int 0]) := rfl
  rw [h]
  decide +kernel
theorem depth_prs : ∀ ps : List (Int × Int), PyData.depthAll (ps.map prD) ≤ 2
  | [] => Nat.zero_le _
  | p :: ps => Nat.max_le.mpr ⟨depth_pr p, depth_prs ps⟩
theorem alike_prs (ps : List (Int × Int)) : PySem.W.AlikeAll (ps.map prD) := by
  constructor
  · intro x hx y hy
    obtain ⟨p, _, rfl⟩ := List.mem_map.mp hx
    obtain ⟨q, _, rfl⟩ := List.mem_map.mp hy
    exact pr_alike p q
  · intro x hx e
    obtain ⟨p, _, rfl⟩ := List.mem_map.mp hx
    cases e
/-- min(xs) of a list of pairs: an item, of the least -/
def rMinP (K : PySem.W.Frag) : List V → Hp → VK → Prop := fun vs H Q => ∃ (a : Addr) (us : List V) (ps : List (Int × Int)), vs = [.ref a] ∧ SqL K H a us ∧ DpAll K H us (ps.map prD) ∧ ps ≠ [] ∧
  ∀ (i : Nat) (u : V) (p : Int × Int), us[i]? = some u → ps[i]? = some p → (∀ q ∈ ps, plt q p = false) → Q u H
theorem best_prs {ps : List (Int × Int)} {n : Nat} (hn : n = ps.length) (h0 : ps ≠ []) : ∃ (i : Nat) (p : Int × Int), argBest (fun i j => PySem.W.dataLt ((ps.map prD).getD i .none) ((ps.map prD).getD j .none)) (n - 1) = i ∧ ps[i]? = some p ∧ ∀ q ∈ ps, plt q p = false := by
  subst hn
  have hp : 0 < ps.length := List.length_pos_iff.mpr h0
  have e : ∀ k, k < ps.length → argBest (fun i j => PySem.W.dataLt ((ps.map prD).getD i .none) ((ps.map prD).getD j .none)) k = argBest (fun i j => plt (ps.getD i (0, 0)) (ps.getD j (0, 0))) k := by
    intro k
    induction k with
    | zero => intro _; rfl
    | succ k ih =>
      intro hk
      have h1 := ih (by omega)
      have h2 := (best_min (fun i => ps.getD i (0, 0)) k).1
      show (if PySem.W.dataLt ((ps.map prD).getD (k + 1) .none) ((ps.map prD).getD (argBest _ k) .none) = true then k + 1 else argBest _ k) = (if plt (ps.getD (k + 1) (0, 0)) (ps.getD (argBest _ k) (0, 0)) = true then k + 1 else argBest _ k)
      rw [h1, pr_getD ps (k + 1) hk, pr_getD ps _ (by omega), plt_eq]
  obtain ⟨a, b⟩ := best_min (fun i => ps.getD i (0, 0)) (ps.length - 1)
  have lt : argBest (fun i j => plt (ps.getD i (0, 0)) (ps.getD j (0, 0))) (ps.length - 1) < ps.length := by omega
  refine ⟨_, ps.getD (argBest (fun i j => plt (ps.getD i (0, 0)) (ps.getD j (0, 0))) (ps.length - 1)) (0, 0), e _ (by omega), ?_, fun q hq => ?_⟩
  · rw [List.getD_eq_getElem?_getD, List.getElem?_eq_getElem lt]
    rfl
  · obtain ⟨j, hj, ej⟩ := List.mem_iff_getElem.mp hq
    have := b j (by omega)
    rw [show ps.getD j (0, 0) = q by rw [List.getD_eq_getElem?_getD, List.getElem?_eq_getElem hj]; exact ej] at this
    exact this
theorem cr_minP (hc : X.calm = true) (hu : X.A.units + 64 < cLine) : CallR X (.builtin "min") (rMinP X.K) := by
  intro pins s σ H vs us0 Q I r h
  obtain ⟨a, us, ps, rfl, hs, hd, h0, q⟩ := h
  obtain ⟨its, rv, hl, _⟩ := I.list hs
  rw [Vals.ref1 r]
  have hh := I.ok.hd hc
  obtain ⟨as, rs⟩ := Dp.readsAll I _ _ _ hd rv
  have hr : ReadsAll s.heap its.toArray.toList (ps.map prD) as := by simpa using rs
  have hn : its.toArray.size = ps.length := by
    have := PySem.W.readsAll_len hr
    rwa [List.length_map] at this
  refine PySem.call_min_walkH (PySem.W.iter_listW (A := X.A.in1) hh hl.isList fun s₂ e W st hfp hw hk => ?_)
  have hdp := depth_prs ps
  have hp : 0 < ps.length := List.length_pos_iff.mpr h0
  refine ⟨_, _, _, _, _, _, _, s.heap, _, rfl, W, st, hfp, by omega, hw, hk, PySem.W.cmpIn_lt (A := X.A.in1) hr (alike_prs ps) (by show X.A.units + 1 + _ < _; omega), fun v s' hP m => ?_⟩
  obtain ⟨h', tk, rfl, hk'⟩ := PySem.W.moved_old e rfl m
  obtain ⟨i, p, e1, e2, e3⟩ := best_prs hn h0
  rw [e1] at hP
  have hi : i < us.length := by
    have := (List.getElem?_eq_some_iff.mp e2).1
    have l1 := rv.length
    have l2 : its.length = ps.length := by simpa using hn
    omega
  obtain ⟨u, g1, g2⟩ := rv.get (i := i) (x := us[i]) (List.getElem?_eq_getElem hi)
  have ev : v = u := by
    have : its[i]? = some v := by rw [← hP]; simp
    rw [g1] at this
    exact (Option.some.inj this).symm
  subst ev
  exact ⟨us[i], H, I.kept hk', g2, q i _ p (List.getElem?_eq_getElem hi) e2 e3⟩
/-- min(x, y) of two pairs -/
def rMin2P (K : PySem.W.Frag) : List V → Hp → VK → Prop := fun vs H Q => ∃ (u v : V) (p q : Int × Int), vs = [u, v] ∧ Dp K H u (prD p) ∧ Dp K H v (prD q) ∧ Q (if plt q p = true then v else u) H
theorem call_min2P (hc : X.calm = true) (hu : X.A.units + 64 < cLine) : CallR X (.builtin "min") (rMin2P X.K) := by
  intro pins s σ H vs us0 Q I r h
  obtain ⟨u, v, p, q, rfl, hp, hq, k⟩ := h
  obtain ⟨x, y, rfl, rx, ry⟩ := vals2 r
  have hh := I.ok.hd hc
  obtain ⟨as, r1⟩ := Dp.reads I _ _ _ hp rx
  obtain ⟨bs, r2⟩ := Dp.reads I _ _ _ hq ry
  have hname : (toString "min" ++ toString ".loop" : String) = "min.loop" := by decide
  refine call_function_tree F.kind_min F.plain_min F.entry_min (F.args_min2 _ _) ?_
  show wpAny _ X.A.in1 (Builtin.Builtins.bindParams "min" ["key", "default"] 0 ⟨[], []⟩ >>= _) _ _ s
  refine wpAny_bind (wpAny_of_eq (show Builtin.Builtins.bindParams "min" ["key", "default"] 0 ⟨[], []⟩ = pure [none, none] from rfl) ?_)
  show wpAny _ X.A.in1 (newTuple [x, y] >>= _) _ _ s
  refine wpAny_bind (wpAny_newObj_type ?_)
  have hT : (s.heap.push { cls := .type "tuple", data := .seq #[x, y] }).IsTuple s.heap.objs.size #[x, y] := ⟨_, Heap.get?_push_size _ rfl, rfl, 0, rfl⟩
  have ho : ∀ b o, s.heap.get? b = some o → (s.heap.push { cls := .type "tuple", data := .seq #[x, y] }).get? b = some o := fun b o e => Heap.get?_push_of_some _ e
  have hr : ReadsAll (s.heap.push { cls := .type "tuple", data := .seq #[x, y] }) (#[x, y] : Array Value).toList [prD p, prD q] _ := .cons (PySem.W.reads_keeps ho r1) (.cons (PySem.W.reads_keeps ho r2) .nil)
  refine wpAny_bind (PySem.W.iter_tupleW (A := X.A.in1) (s := { s with heap := s.heap.push { cls := .type "tuple", data := .seq #[x, y] } }) hh hT fun s₂ e W st hfp hw hk => ?_)
  refine wpAny_bind (wpAny_newObj_type ?_)
  have hSf : s₂.heap.objs.size ∉ _ := fun hm => Nat.lt_irrefl _ (hfp _ hm)
  rw [hname]
  have hdp := depth_prs [p, q]
  refine wpAny_pure ⟨plainId_quiet F.plain_min_loop _, codeAny_min_loop_firstH W (s.heap.push { cls := .type "tuple", data := .seq #[x, y] }) hw _ (PySem.W.cmpIn_lt (A := X.A.in1) (s := { s with heap := s.heap.push { cls := .type "tuple", data := .seq #[x, y] } }) hr (alike_prs [p, q]) (by show X.A.units + 1 + _ < _; exact Nat.lt_of_le_of_lt (Nat.add_le_add_left hdp _) (by omega))) s₂.heap.objs.size hSf (fresh_in hk) _ (by show 0 < 2; decide) (fun b o e => Heap.get?_push_of_some _ (hk b o e)) (W.frame 0 s₂ _ s₂.toks st (Nat.le_refl _) fun b _ o e => Heap.get?_push_of_some _ e) (Heap.get?_push_size _ rfl) fun v' s' hP hm => ?_⟩
  obtain ⟨h', tk, rfl, hk'⟩ := PySem.W.moved_old e rfl (Moved.drop_new (tk := s₂.toks) hm (Nat.le_refl _))
  obtain ⟨i, z, e1, e2, e3⟩ := best_prs (ps := [p, q]) (n := 2) rfl (by intro z; cases z)
  have hP : (#[x, y] : Array Value)[argBest (fun i j => PySem.W.dataLt ([prD p, prD q].getD i .none) ([prD p, prD q].getD j .none)) 1]? = some v' := hP
  have hb : argBest (fun i j => PySem.W.dataLt ([prD p, prD q].getD i .none) ([prD p, prD q].getD j .none)) 1 = if plt q p = true then 1 else 0 := by
    show (if PySem.W.dataLt (prD q) (prD p) = true then 1 else 0) = _
    rw [plt_eq]
  rw [hb] at hP
  by_cases h1 : plt q p = true
  · rw [if_pos h1] at hP k
    exact ⟨v, H, I.kept fun b o eb => hk' b o (ho b o eb), by rw [← Option.some.inj hP]; exact ry, k⟩
  · rw [if_neg h1] at hP k
    exact ⟨u, H, I.kept fun b o eb => hk' b o (ho b o eb), by rw [← Option.some.inj hP]; exact rx, k⟩
end
end RS
set_option Elab.async false
set_option maxRecDepth 100000
set_option maxHeartbeats 4000000
namespace RS
open PySem L2
def top (i : Nat) : Stmt := PySem.Challenge.pw_runsorts_k10_papers_judged.main.body.getD i (.Pass ⟨0, 0, 0, 0⟩)

abbrev s_BadRows_init : Stmt := inClass (top 4) 0
abbrev s_BadRuns_init : Stmt := inClass (top 5) 0
abbrev s_BadText_init : Stmt := inClass (top 16) 0
abbrev sIsNumber : Stmt := top 18
abbrev s_Stretches_init : Stmt := inClass (top 20) 0
abbrev s_Stretches_inner_first : Stmt := inClass (top 20) 1
abbrev s_Stretches_noted : Stmt := inClass (top 20) 2
abbrev s_Stretches_note : Stmt := inClass (top 20) 3
abbrev s_Stretches_least : Stmt := inClass (top 20) 4
abbrev s_Stretches_limit : Stmt := inClass (top 20) 5
abbrev s_Stretches_plan : Stmt := inClass (top 20) 6
abbrev s_check_lengths : Stmt := top 26
abbrev s_check_ways : Stmt := top 27
abbrev s_check_merging : Stmt := top 28
abbrev s_bound : Stmt := top 29
abbrev s_paper : Stmt := top 30
abbrev s_cheapest_stretches : Stmt := top 31
abbrev s_told_numbers : Stmt := top 32
abbrev sBegun : Stmt := top 34
abbrev sTake : Stmt := top 35
abbrev sAlike : Stmt := top 36
abbrev sClass : Stmt := top 37
abbrev sTold : Stmt := top 38
abbrev sAll : Stmt := top 39
abbrev s__law_lengths : Stmt := top 40
abbrev s__law_plan : Stmt := top 41
abbrev s__law_side : Stmt := top 42
abbrev s__law_in : Stmt := top 43
abbrev s__law_cost : Stmt := top 44
abbrev s__law_fits : Stmt := top 45
abbrev s__law_cuts : Stmt := top 46
abbrev s__law_due : Stmt := top 47
abbrev s__law_bent : Stmt := top 48
abbrev sLaw : Stmt := top 49

abbrev nKinds : Str := "_law_kinds"

/-- what the module's names hold -/
structure Txt (K : PySem.W.Frag) (mg : Str → Option Value) : Prop where
  isinstance : mg "isinstance" = none
  int_ : mg "int" = none
  bool_ : mg "bool" = none
  str_ : mg "str" = none
  list_ : mg "list" = none
  tuple_ : mg "tuple" = none
  len : mg "len" = none
  all : mg "all" = none
  zip : mg "zip" = none
  enumerate : mg "enumerate" = none
  ord : mg "ord" = none
  range : mg "range" = none
  sorted : mg "sorted" = none
  max : mg "max" = none
  min : mg "min" = none
  lengths : ∃ t, mg "MOST_LENGTHS" = some (.int 40 t)
  length : ∃ t, mg "MOST_LENGTH" = some (.int 1000000 t)
  leastw : ∃ t, mg "LEAST_WAYS" = some (.int 2 t)
  mostw : ∃ t, mg "MOST_WAYS" = some (.int 6 t)
end RS
set_option Elab.async false
set_option maxRecDepth 100000
set_option maxHeartbeats 4000000
namespace RS
open PySem PySem.Spec PyProof.Rows L2 GX

/-! ### the mathematics: what a number, a word, a value, a row is -/
def isNum (d : PyData) : Bool := isI "int" d && !isI "bool" d

section
variable {P : Program} {w : World} {K : PySem.W.Frag} {mg : Str → Option Value} {base : Heap}
theorem scIsNumber : FnScope ["value"] ["value"] (defScope sIsNumber) := ⟨rfl, rfl, rfl, by decide +kernel, rfl, by decide +kernel, by decide +kernel⟩
def spNum (K : PySem.W.Frag) : Sp := fun vs H Q _ => ∃ (v : V) (d : PyData), vs = [v] ∧ Dp K H v d ∧ Q (.bl (isNum d)) H
theorem is_number_ok {c : Addr} (D : DefAt K mg "is_number" sIsNumber c) (T : Txt K mg) : Cal P w K mg base CX0 1 "is_number" ["value"] (spNum K) := by
  have sc := scIsNumber
  refine def_ok0 D sc (fun vs H Q E h => ?_) (fun _ _ _ _ _ _ us hl => match us, hl with | [_], _ => rfl) (fun f A outer s H vs Q E hr h => ?_)
  · obtain ⟨v, d, rfl, _⟩ := h
    rfl
  · obtain ⟨v, d, rfl, hd, k⟩ := h
    refine ⟨_, (pss_one (ps_ret (pe_and (pe_callB call_isiD (by rfl) T.isinstance (by decide +kernel) (pa_cons (pv 0) (pa_cons (pe_bltn (v := V.ty "int") (u := Value.type "int") (by rfl) T.int_ (by decide +kernel) rfl) pa_nil))) (pe_one (pe_not (pe_callB call_isiD (by rfl) T.isinstance (by decide +kernel) (pa_cons (pv 0) (pa_cons (pe_bltn (v := V.ty "bool") (u := Value.type "bool") (by rfl) T.bool_ (by decide +kernel) rfl) pa_nil)))))))), ?_⟩
    refine ⟨_, rfl, _, _, _, rfl, by simp, hd, _, rfl, ?_⟩
    refine ite2 (fun h1 => ?_) (fun h1 => ?_)
    · refine ⟨_, rfl, _, _, _, rfl, by simp, hd, _, rfl, ?_⟩
      have e : isNum d = !isI "bool" d := by unfold isNum; rw [h1, Bool.true_and]
      rw [← e]
      exact k
    · have e : isNum d = false := by unfold isNum; rw [bf h1, Bool.false_and]
      rw [← e]
      exact k

end
end RS
set_option Elab.async false
set_option maxRecDepth 100000
set_option maxHeartbeats 4000000
namespace RS
open PySem PySem.Spec PyProof.Rows L2 GX

/-- many new objects are laid and tracked at once -/
theorem laid_many {X : Cx} {pins : List (Addr × Obj)} {σ : L2.St} {H H2 : Hp} {s : Shared} {g : Heap} {tk : Nat} (I : Inv X pins σ H s) (kp : ∀ b u, s.heap.get? b = some u → g.get? b = some u)
    (old : ∀ b, b < s.heap.objs.size → H2 b = H b) (new : ∀ b o, s.heap.objs.size ≤ b → H2 b = some o → ObjOk X.prog X.w H2 g b o) : Inv X pins σ H2 { s with heap := g, toks := tk } := by
  have up : ∀ b o, H b = some o → H2 b = some o := fun b o e => by rw [old b (I.hok.lt e)]; exact e
  refine I.un (t' := tk) ⟨fun b o e _ _ _ => kp b o e, fun b o e _ _ _ => ⟨o.slots, kp b o e⟩, fun b o e n _ => by rw [old b (Heap.lt_size e)]; exact n, fun b o e _ => ⟨o, kp b o e⟩,
    fun b xs e => up b _ e, fun b o u e => up b _ e, fun b ps e => ⟨#[], by rw [up b _ e, Array.append_empty]⟩⟩ (fun b o e => ?_)
  by_cases hb : b < s.heap.objs.size
  · rw [old b hb] at e
    exact (I.hok b o e).stay (fun c u _ q => kp c u q) (fun c q => up c _ q) (fun c xs q => up c _ q)
  · exact new b o (Nat.le_of_not_lt hb) e

theorem enum_no_len : typeLookup (.type "enumerate") "__len__" = pure none := by rw [typeLookup_type, builtinLookup_eq_fast]; kernel_rfl
theorem enum_no_hint : typeLookup (.type "enumerate") "__length_hint__" = pure none := by rw [typeLookup_type, builtinLookup_eq_fast]; kernel_rfl

/-- the enumeration e over the iterator it of the list l stands ahead of item i -/
def EnumAt (h : Heap) (e it l : Addr) (i : Nat) : Prop :=
  h.IsListIter it l i ∧ ((i = 0 ∧ IsEnum h e it 0 .none) ∨ ∃ (T : Addr) (f : Bool) (x : Value) (o : Obj), IsEnumHeld h e it (i : Int) x T f ∧ h.get? T = some o ∧ T ≠ e ∧ T ≠ it)
/-- the pairs that have been put into acc -/
def Pairs (h : Heap) (lo : Nat) (items : Array Value) (acc : Array Value) : Prop :=
  ∀ j v, acc[j]? = some v → ∃ (T : Addr) (tk : Nat) (x : Value), v = .ref T ∧ lo ≤ T ∧ items[j]? = some x ∧ h.get? T = some { cls := .type "tuple", data := .seq #[.int (j : Nat) tk, x] }
section
variable {prog : Program} {w : World} {A : Around} {s0 : Shared} {S e it l : Addr} {items : Array Value}
theorem enum_next {E : Value → Shared → Prop} {s : Shared} {i : Nat} {x : Value} {Q : Option Value → Shared → Prop} (hs : EnumAt s.heap e it l i) (hl : s.heap.IsList l items) (hx : items[i]? = some x) (hne : e ≠ it)
    (he : e < s.heap.objs.size) (hi : it < s.heap.objs.size)
    (hQ : ∀ g, EnumAt g e it l (i + 1) → g.get? s.heap.objs.size = some { cls := .type "tuple", data := .seq #[.int (i : Nat) s.toks, x] } → (∀ b o, b ≠ e → b ≠ it → s.heap.get? b = some o → g.get? b = some o) →
      Q (some (.ref s.heap.objs.size)) { s with heap := g, toks := s.toks + 1 }) : wpAny (model prog w) A (pyNext (.ref e)) Q E s := by
  obtain ⟨hit, ⟨rfl, h0⟩ | ⟨T, f, y, o, h1, hT, hTe, hTi⟩⟩ := hs
  · refine wpAny_pyNext_enum_item (i := 0) h0 hit hl hx hne fun g a b c _ d => hQ g ⟨b, .inr ⟨_, _, _, _, a, c, Nat.ne_of_gt he, Nat.ne_of_gt hi⟩⟩ c d
  · exact wpAny_pyNext_enum_item_held h1 hT hTe hTi hit hl hx hne fun g a b c _ d => hQ g ⟨b, .inr ⟨T, true, y, o, a, d T o hTe hTi hT, hTe, hTi⟩⟩ c d
theorem enum_stop {E : Value → Shared → Prop} {s : Shared} {i : Nat} {Q : Option Value → Shared → Prop} (hh : A.handled = none) (hs : EnumAt s.heap e it l i) (hl : s.heap.IsList l items) (hx : items[i]? = none)
    (hQ : ∀ g, Heap.ExtBut it s.heap g → Q none { s with heap := g }) : wpAny (model prog w) A (pyNext (.ref e)) Q E s := by
  obtain ⟨hit, ⟨rfl, h0⟩ | ⟨T, f, y, o, h1, hT, hTe, hTi⟩⟩ := hs
  · exact wpAny_pyNext_enum_end hh h0 hit hl hx hQ
  · exact wpAny_pyNext_enum_end_held hh h1 hit hl hx hQ

theorem enum_loop {R : Result → Shared → Prop} {res : Value} (hh : A.handled = none) (hne : e ≠ it) (hSe : S ≠ e) (hSi : S ≠ it) (hSl : S ≠ l) (hle : l ≠ e) (hli : l ≠ it) (lo : Nat) (hz : items.size ≤ sizeLine)
    (hend : ∀ g tk acc c, g.get? S = some (lstObj acc c) → acc.size = items.size → Pairs g lo items acc → (∀ b o, b ≠ e → b ≠ it → b ≠ S → s0.heap.get? b = some o → g.get? b = some o) → R (.ok (.ret res)) { s0 with heap := g, toks := tk }) :
    ∀ (k i : Nat) (g : Heap) (tk : Nat) (acc : Array Value) (c : Nat), items.size - i = k → i ≤ items.size → acc.size = i → g.get? S = some (lstObj acc c) → EnumAt g e it l i → g.IsList l items → lo ≤ g.objs.size → e < lo → it < lo → S < lo →
      Pairs g lo items acc → (∀ b o, b ≠ e → b ≠ it → b ≠ S → s0.heap.get? b = some o → g.get? b = some o) →
      codeAny (model prog w) A (.builtin "list.extend.loop" ⟨[.ref S, .ref e, res], []⟩) R { s0 with heap := g, toks := tk } := by
  intro k
  induction k with
  | zero =>
    intro i g tk acc c hk hi ha hS he hl hlo helo hilo hSlo hp hkp
    have hin : i = items.size := by omega
    refine codeAny_builtin F.entry_extend_loop ?_
    rw [Around.under_plainId F.plain_extend_loop _]
    show wpAny _ A.in1 (pyNext (.ref e) >>= _) _ _ _
    refine wpAny_bind (enum_stop (s := { s0 with heap := g, toks := tk }) hh he hl (by rw [hin]; simp) fun g2 ext => ?_)
    refine wpAny_pure (hend g2 tk acc c (ext S _ hSi hS) (by omega) (fun j v hv => ?_) (fun b o h1 h2 h3 q => ext b o h2 (hkp b o h1 h2 h3 q)))
    obtain ⟨T, tk', x, e1, e2, e3, e4⟩ := hp j v hv
    exact ⟨T, tk', x, e1, e2, e3, ext T _ (Nat.ne_of_gt (Nat.lt_of_lt_of_le hilo e2)) e4⟩
  | succ k ih =>
    intro i g tk acc c hk hi ha hS he hl hlo helo hilo hSlo hp hkp
    have hlt : i < items.size := by omega
    refine codeAny_builtin F.entry_extend_loop ?_
    rw [Around.under_plainId F.plain_extend_loop _]
    show wpAny _ A.in1 (pyNext (.ref e) >>= _) _ _ _
    refine wpAny_bind (enum_next (s := { s0 with heap := g, toks := tk }) he hl (Array.getElem?_eq_getElem hlt) hne (Nat.lt_of_lt_of_le helo hlo) (Nat.lt_of_lt_of_le hilo hlo) fun g2 he2 hT2 hk2 => ?_)
    have hS2 : g2.get? S = some (lstObj acc c) := hk2 S _ hSe hSi hS
    have gT : g.objs.size ≠ S := fun z => Nat.lt_irrefl _ (Nat.lt_of_lt_of_le (by rw [z]; exact hSlo) hlo)
    have gTe : g.objs.size ≠ e := fun z => Nat.lt_irrefl _ (Nat.lt_of_lt_of_le (by rw [z]; exact helo) hlo)
    have gTi : g.objs.size ≠ it := fun z => Nat.lt_irrefl _ (Nat.lt_of_lt_of_le (by rw [z]; exact hilo) hlo)
    show wpAny _ A.in1 (updateSeq S (·.push (.ref g.objs.size)) >>= _) _ _ _
    apply wpAny_bind
    refine wpAny_updateSeq hS2 rfl (wpAny_pure ⟨plainId_quiet F.plain_extend_loop _, ?_⟩) (by omega) (by show (acc.push _).size ≤ sizeLine + 1; rw [Array.size_push]; omega)
    have up : ∀ b o, b ≠ S → g2.get? b = some o → (g2.update S (Obj.mapSeq (·.push (.ref g.objs.size)))).get? b = some o := fun b o hb q => (Heap.get?_update_other _ _ (Ne.symm hb)).trans q
    have lt2 : g.objs.size < g2.objs.size := Heap.lt_size hT2
    refine ih (i + 1) _ _ (acc.push (.ref g.objs.size)) _ (by omega) hlt (by rw [Array.size_push]; omega) (Heap.get?_update_self _ hS2 rfl) ?_ ?_ ?_ helo hilo hSlo (fun j v hv => ?_) (fun b o h1 h2 h3 q => up b o h3 (hk2 b o h1 h2 (hkp b o h1 h2 h3 q)))
    · obtain ⟨⟨oi, hoi, r⟩, hd⟩ := he2
      refine ⟨⟨oi, up it oi (Ne.symm hSi) hoi, r⟩, ?_⟩
      rcases hd with ⟨z, q⟩ | ⟨T, f, x, o, q1, q2, q3, q4⟩
      · exact .inl ⟨z, up e _ (Ne.symm hSe) q⟩
      · by_cases hTS : T = S
        · subst hTS
          exact .inr ⟨T, f, x, _, up e _ (Ne.symm hSe) q1, Heap.get?_update_self _ hS2 rfl, q3, q4⟩
        · exact .inr ⟨T, f, x, o, up e _ (Ne.symm hSe) q1, up T o hTS q2, q3, q4⟩
    · obtain ⟨ol, hol, r⟩ := hl
      exact ⟨ol, up l ol (Ne.symm hSl) (hk2 l ol hle hli hol), r⟩
    · rw [Heap.size_update]
      exact Nat.le_trans hlo (Nat.le_of_lt lt2)
    · rw [Array.getElem?_push] at hv
      split at hv
      · rename_i hj
        cases hv
        have ej : j = i := by omega
        subst ej
        exact ⟨g.objs.size, tk, items[j], rfl, hlo, Array.getElem?_eq_getElem hlt, up _ _ gT hT2⟩
      · obtain ⟨T, tk', x, e1, e2, e3, e4⟩ := hp j v hv
        have nTS : T ≠ S := Nat.ne_of_gt (Nat.lt_of_lt_of_le hSlo e2)
        exact ⟨T, tk', x, e1, e2, e3, up T _ nTS (hk2 T _ (Nat.ne_of_gt (Nat.lt_of_lt_of_le helo e2)) (Nat.ne_of_gt (Nat.lt_of_lt_of_le hilo e2)) e4)⟩
end
end RS
set_option Elab.async false
set_option maxRecDepth 100000
set_option maxHeartbeats 4000000
namespace RS
open PySem PySem.Spec PyProof.Rows L2 GX

/-- list(e), e an enumeration of the list l that has just been made -/
theorem list_of_enum {P : Program} {w : World} {A : Around} {E : Value → Shared → Prop} {s : Shared} {e it l : Addr} {items : Array Value} {Q : Value → Shared → Prop} (hh : A.handled = none) (he : IsEnum s.heap e it 0 .none) (hit : s.heap.IsListIter it l 0) (hl : s.heap.IsList l items)
    (hne : e ≠ it) (hle : l ≠ e) (hli : l ≠ it) (hz : items.size ≤ sizeLine)
    (hQ : ∀ g tk acc c, g.get? s.heap.objs.size = some (lstObj acc c) → acc.size = items.size → Pairs g (s.heap.objs.size + 1) items acc → (∀ b o, b ≠ e → b ≠ it → s.heap.get? b = some o → g.get? b = some o) → Q (.ref s.heap.objs.size) { s with heap := g, toks := tk }) :
    wpAny (model P w) A (call (.type "list") [.ref e]) Q E s := by
  have lte : e < s.heap.objs.size := Heap.lt_size he
  have lti : it < s.heap.objs.size := by obtain ⟨o, ho, _⟩ := hit; exact Heap.lt_size ho
  have ltl : l < s.heap.objs.size := by obtain ⟨o, ho, _⟩ := hl; exact Heap.lt_size ho
  have hSe : s.heap.objs.size ≠ e := Nat.ne_of_gt lte
  have tyE : ∀ {g : Heap}, (∀ b o, s.heap.get? b = some o → g.get? b = some o) → ({ s with heap := g } : Shared).TypeIs (.ref e) "enumerate" := fun {g} q => ⟨_, q _ _ he, rfl⟩
  refine callType_codes (Q₁ := fun obj s₁ => obj = .ref s.heap.objs.size ∧ s₁ = { s with heap := s.heap.push { cls := .type "list", data := .seq #[] } }) PySem.F.called_list (PySem.F.typeCall_list_1 _) PySem.F.entry_list_init
    (code_list_new _ ⟨rfl, rfl⟩) fun obj s₁ h₁ => ?_
  obtain ⟨rfl, rfl⟩ := h₁
  have hS : (s.heap.push { cls := .type "list", data := .seq #[] }).get? s.heap.objs.size = some { cls := .type "list", data := .seq #[] } := Heap.get?_push_size _ rfl
  refine ⟨⟨_, hS, rfl⟩, PySem.F.args_list_init_2 _ _, ?_⟩
  show wpAny _ A.in1.in1 (do
    let old ← Builtin.List.listItems (.ref s.heap.objs.size)
    Builtin.List.listUpdate (.ref s.heap.objs.size) (fun _ => #[])
    letGo old.toList.reverse
    Builtin.List.listExtendWith (.ref s.heap.objs.size) (.ref e) .none) _ _ _
  apply wpAny_bind
  unfold Builtin.List.listItems
  refine wpAny_bind (wpAny_seqItems hS rfl (wpAny_pure ?_))
  show wpAny _ A.in1.in1 (updateSeq s.heap.objs.size (fun _ => #[]) >>= fun _ => letGo (#[] : Array Value).toList.reverse >>= fun _ =>
    Builtin.List.listExtendWith (.ref s.heap.objs.size) (.ref e) .none) _ _ _
  refine wpAny_bind (wpAny_updateSeq hS rfl ?_)
  have hS2 := Heap.get?_update_self (Obj.mapSeq (fun _ => (#[] : Array Value))) hS rfl
  apply wpAny_bind
  apply wpAny_letGo
  unfold Builtin.List.listExtendWith
  have up : ∀ (h : Heap) (f : Obj → Obj), (∀ b o, s.heap.get? b = some o → h.get? b = some o) → ∀ b o, s.heap.get? b = some o → (h.update s.heap.objs.size f).get? b = some o := fun h f q b o y =>
    (Heap.get?_update_other _ _ (Ne.symm (Nat.ne_of_lt (Heap.lt_size y)))).trans (q b o y)
  have k1 : ∀ b o, s.heap.get? b = some o → (s.heap.push { cls := .type "list", data := .seq #[] }).get? b = some o := fun b o y => Heap.get?_push_of_some _ y
  have k2 := up _ (Obj.mapSeq (fun _ => (#[] : Array Value))) k1
  apply wpAny_bind
  refine wpAny_typeOf (tyE k2) ?_
  have h1 : Builtin.List.listSameRef (.ref s.heap.objs.size) (.ref e) = false := by simp [Builtin.List.listSameRef, hSe]
  have h2 : (Value.type "enumerate" == Value.type "list") = false := by decide
  have h3 : (Value.type "enumerate" == Value.type "tuple") = false := by decide
  simp only [h1, h2, h3, Bool.or_false, Bool.false_eq_true, if_false]
  apply wpAny_bind
  refine wpAny_pyIter_enum (s := { s with heap := _ }) (k2 _ _ he) ?_
  apply wpAny_bind
  apply wpAny_holding
  unfold Builtin.List.listLengthHint
  apply wpAny_bind
  refine wpAny_specialOf (tyE k2) enum_no_len ?_
  show wpAny _ A.in1.in1 (specialOf (Value.ref e) (Str.ofString "__length_hint__") >>= _) _ _ _
  apply wpAny_bind
  refine wpAny_specialOf (tyE k2) enum_no_hint ?_
  apply wpAny_pure
  show wpAny _ A.in1.in1 (rule "list.extend.makes-room" >>= fun _ => Builtin.List.listTouch (.ref s.heap.objs.size) >>= fun _ =>
    again (.builtin "list.extend.loop" ⟨[.ref s.heap.objs.size, .ref e, .none], []⟩)) _ _ _
  apply wpAny_bind
  apply wpAny_rule
  apply wpAny_bind
  show wpAny _ A.in1.in1 (updateSeq s.heap.objs.size (·.push .none) >>= fun _ => updateSeq s.heap.objs.size (·.pop)) _ _ _
  refine wpAny_bind (wpAny_updateSeq hS2 rfl ?_)
  have hS3 := Heap.get?_update_self (Obj.mapSeq (·.push Value.none)) hS2 rfl
  refine wpAny_updateSeq (hz := by seq_fits) hS3 rfl ?_
  have hS4 := Heap.get?_update_self (Obj.mapSeq (·.pop)) hS3 rfl
  have k4 := up _ (Obj.mapSeq (·.pop)) (up _ (Obj.mapSeq (·.push Value.none)) k2)
  refine wpAny_pure ⟨plainId_quiet PySem.F.plain_extend_loop _, ?_⟩
  refine enum_loop (s0 := s) (A := A.in1) (S := s.heap.objs.size) hh hne hSe (Nat.ne_of_gt lti) (Nat.ne_of_gt ltl) hle hli (s.heap.objs.size + 1) hz
    (fun g tk acc c q1 q2 q3 q4 => ⟨rfl, hQ g tk acc c q1 q2 q3 fun b o n1 n2 y => q4 b o n1 n2 (Nat.ne_of_lt (Heap.lt_size y)) y⟩) items.size 0 _ s.toks #[] _ (Nat.sub_zero _) (Nat.zero_le _) rfl hS4 ⟨?_, .inl ⟨rfl, k4 _ _ he⟩⟩ ?_ ?_
    (Nat.lt_succ_of_lt lte) (Nat.lt_succ_of_lt lti) (Nat.lt_succ_self _) (fun j v hv => by simp at hv) (fun b o _ _ _ y => k4 b o y)
  · obtain ⟨o, ho, r⟩ := hit
    exact ⟨o, k4 _ _ ho, r⟩
  · obtain ⟨o, ho, r⟩ := hl
    exact ⟨o, k4 _ _ ho, r⟩
  · exact Heap.lt_size hS4

/-- list(enumerate(e)) -/
def tLE (K : PySem.W.Frag) (te : TE) : TE := fun σ H Q => te σ H fun v H1 => ∃ a xs, v = .ref a ∧ SqL K H1 a xs ∧
  ∀ (H2 : Hp) (p : Addr) (ts : List Addr), Same H1 H2 → H1 p = none → H2 p = some (.lst (ts.map V.ref)) → ts.length = xs.length →
    (∀ (i : Nat) (x : V), xs[i]? = some x → ∃ T, ts[i]? = some T ∧ H1 T = none ∧ H2 T = some (.tup [.int i, x])) → Q (.ref p) H2
section
variable {X : Cx} {e : Expr} {te : TE} {p1 p2 q1 q2 : Pos}
theorem pe_le (hc : X.calm = true) (hg : Gl X "list") (hm : X.mg "list" = none) (hg2 : Gl X "enumerate") (hm2 : X.mg "enumerate" = none) (he : PE X e te)
    (hs : starEach [e] X.env = [(false, eval e X.env)] := by rfl)
    (hs2 : starEach [.Call (.Name "enumerate" q1) [e] [] q2] X.env = [(false, eval (.Call (.Name "enumerate" q1) [e] [] q2) X.env)] := by rfl) :
    PE X (.Call (.Name "list" p1) [.Call (.Name "enumerate" q1) [e] [] q2] [] p2) (tLE X.K te) := by
  refine ⟨fun pins s σ H Q I h => ?_⟩
  refine wpAny_Call_Name_kw (ld_blt I hg hm (show bootBuiltins "list" = some (.type "list") by decide +kernel) ?_)
  refine PyProof.Rows.callWith_type1 ?_ hs2 rfl
  rw [hs2]
  show wpAny _ _ (spliced [(false, eval (.Call (.Name "enumerate" q1) [e] [] q2) X.env)]) _ _ s
  refine Calls.spliced_cons ?_
  refine wpAny_Call_Name_kw (ld_blt I hg2 hm2 (show bootBuiltins "enumerate" = some (.type "enumerate") by decide +kernel) ?_)
  refine PyProof.Rows.callWith_type1 ?_ hs rfl
  rw [hs]
  show wpAny _ _ (spliced [(false, eval e X.env)]) _ _ s
  refine Calls.spliced_cons (thn (he.run pins s σ H _ I h) fun u s1 ⟨v, H1, I1, r1, a, xs, ev, hq, q⟩ => ?_)
  subst ev
  cases r1
  obtain ⟨its, rv, pl, hz⟩ := I1.list hq
  have lits : its.toArray.size = xs.length := by rw [List.size_toArray]; exact rv.length.symm
  have lta : a < s1.heap.objs.size := by obtain ⟨o, ho, _⟩ := pl.isList; exact Heap.lt_size ho
  refine Calls.spliced_nil ?_
  refine call_enumerate_list pl.isList fun g hen hit hsz hk => ?_
  refine Calls.spliced_nil ?_
  have I2 : Inv X pins σ H1 { s1 with heap := g } := I1.kept (t' := s1.toks) hk
  have hl2 : g.IsList a its.toArray := by
    obtain ⟨o, ho, r⟩ := pl.isList
    exact ⟨o, hk _ _ ho, r⟩
  refine list_of_enum (s := { s1 with heap := g }) (I1.ok.hd hc) hen hit hl2 (Nat.succ_ne_self _) (Nat.ne_of_lt (Nat.lt_succ_of_lt lta)) (Nat.ne_of_lt lta) (by rw [lits]; exact hz) fun g2 tk acc c hS ha hp hk2 => ?_
  -- what is new
  have szg : g.objs.size = s1.heap.objs.size + 2 := hsz
  have kall : ∀ b o, s1.heap.get? b = some o → g2.get? b = some o := fun b o y => by
    have lt := Heap.lt_size y
    exact hk2 b o (Nat.ne_of_lt (Nat.lt_succ_of_lt lt)) (Nat.ne_of_lt lt) (hk b o y)
  have sym : ∀ (i : Nat) (x : V), xs[i]? = some x → ∃ (T : Addr) (tk' : Nat) (u : Value), acc[i]? = some (.ref T) ∧ g.objs.size + 1 ≤ T ∧ RelV x u ∧ g2.get? T = some { cls := .type "tuple", data := .seq #[.int (i : Nat) tk', u] } := fun i x hx => by
    have hi : i < acc.size := by
      rw [ha, lits]
      exact (List.getElem?_eq_some_iff.mp hx).1
    obtain ⟨T, tk', u, e1, e2, e3, e4⟩ := hp i _ (Array.getElem?_eq_getElem hi)
    obtain ⟨u', hu', ru⟩ := rv.get hx
    have e3' : its[i]? = some u := by simpa using e3
    rw [hu'] at e3'
    cases e3'
    exact ⟨T, tk', u, by rw [Array.getElem?_eq_getElem hi, e1], e2, ru, e4⟩
  let adr : Value → Addr := fun v => match v with | .ref b => b | _ => 0
  have hts : ∀ v ∈ acc.toList, v = .ref (adr v) := fun v hv => by
    obtain ⟨j, hj⟩ := List.getElem?_of_mem hv
    obtain ⟨T, _, _, e1, _⟩ := hp j v (by simpa using hj)
    rw [e1]
  have tlen : (acc.toList.map adr).length = xs.length := by rw [List.length_map, Array.length_toList, ha, lits]
  have tget : ∀ (i : Nat) (x : V), xs[i]? = some x → ∃ (T : Addr) (tk' : Nat) (u : Value), (acc.toList.map adr)[i]? = some T ∧ g.objs.size + 1 ≤ T ∧ RelV x u ∧ g2.get? T = some { cls := .type "tuple", data := .seq #[.int (i : Nat) tk', u] } := fun i x hx => by
    obtain ⟨T, tk', u, e1, e2, e3, e4⟩ := sym i x hx
    refine ⟨T, tk', u, ?_, e2, e3, e4⟩
    rw [List.getElem?_map, Array.getElem?_toList, e1]
    rfl
  -- the new abstract heap
  let mk : Addr → Option HO := fun b => if b = g.objs.size then some (.lst ((acc.toList.map adr).map V.ref)) else
    match (List.range xs.length).find? (fun i => (acc.toList.map adr)[i]? == some b) with
    | some i => (xs[i]?).map fun x => .tup [.int (i : Nat), x]
    | none => none
  let H2 : Hp := fun b => if b < g.objs.size then H1 b else mk b
  have at_T : ∀ (i : Nat) (x : V) (T : Addr), xs[i]? = some x → (acc.toList.map adr)[i]? = some T → H2 T = some (.tup [.int (i : Nat), x]) := fun i x T hx hT => by
    obtain ⟨T', tk', u, f1, f2, _, f4⟩ := tget i x hx
    rw [hT] at f1
    cases f1
    show (if T < g.objs.size then H1 T else if T = g.objs.size then _ else _) = _
    rw [if_neg (Nat.not_lt.mpr (Nat.le_of_succ_le f2)), if_neg (Nat.ne_of_gt f2)]
    cases hf : (List.range xs.length).find? (fun i => (acc.toList.map adr)[i]? == some T) with
    | none =>
      have z := List.find?_eq_none.mp hf i (List.mem_range.mpr (List.getElem?_eq_some_iff.mp hx).1)
      rw [hT] at z
      simp at z
    | some j =>
      have hj := List.find?_some hf
      have hj2 := List.mem_range.mp (List.mem_of_find?_eq_some hf)
      have hj3 : (acc.toList.map adr)[j]? = some T := by simpa using hj
      obtain ⟨T2, tk2, u2, g1, _, g3, g4⟩ := tget j xs[j] (List.getElem?_eq_getElem hj2)
      rw [hj3] at g1
      cases g1
      rw [f4] at g4
      have e0 : (#[Value.int (i : Nat) tk', u] : Array Value) = #[.int (j : Nat) tk2, u2] := by
        injection (Option.some.inj g4) with _ _ d
        injection d
      have e5 : i = j := by
        have z := congrArg (fun a : Array Value => a[0]?) e0
        simp at z
        omega
      subst e5
      show Option.map (fun x => HO.tup [V.int (i : Nat), x]) xs[i]? = _
      rw [hx]
      rfl
  have I3 : Inv X pins σ H2 { s1 with heap := g2, toks := tk } := by
    have I3 := laid_many (H2 := H2) (g := g2) (tk := tk) I1 kall (fun b hb => if_pos (show b < g.objs.size by omega)) (fun b o hb e => ?_)
    · exact I3
    · by_cases h1 : b < g.objs.size
      · have e' : H1 b = some o := (if_pos h1).symm.trans e
        rw [I1.hok.fresh hb] at e'
        cases e'
      · have e' : mk b = some o := (if_neg h1).symm.trans e
        by_cases h2 : b = g.objs.size
        · have e2 : some (HO.lst ((acc.toList.map adr).map V.ref)) = some o := (if_pos h2).symm.trans e'
          cases e2
          subst h2
          refine ⟨by rw [List.length_map, tlen]; exact hz, acc.toList, c, ?_, by rw [Array.toArray_toList]; exact hS⟩
          have vals : ∀ l : List Value, (∀ v ∈ l, v = .ref (adr v)) → Vals ((l.map adr).map V.ref) l := fun l => by
            induction l with
            | nil => intro _; exact .nil
            | cons v r ih => intro hv; exact .cons (hv v List.mem_cons_self) (ih fun u hu => hv u (List.mem_cons_of_mem _ hu))
          exact vals _ hts
        · have e2 : (match (List.range xs.length).find? (fun i => (acc.toList.map adr)[i]? == some b) with
              | some i => (xs[i]?).map fun x => HO.tup [.int (i : Nat), x]
              | none => none) = some o := (if_neg h2).symm.trans e'
          cases hf : (List.range xs.length).find? (fun i => (acc.toList.map adr)[i]? == some b) with
          | none =>
            rw [hf] at e2
            cases e2
          | some j =>
            rw [hf] at e2
            have hj := List.find?_some hf
            have hj2 := List.mem_range.mp (List.mem_of_find?_eq_some hf)
            have hj3 : (acc.toList.map adr)[j]? = some b := by simpa using hj
            have e3 : some (HO.tup [.int (j : Nat), xs[j]]) = some o := by
              rw [← e2]
              show _ = Option.map (fun x => HO.tup [V.int (j : Nat), x]) xs[j]?
              rw [List.getElem?_eq_getElem hj2]
              rfl
            cases e3
            obtain ⟨T2, tk2, u2, g1, _, g3, g4⟩ := tget j xs[j] (List.getElem?_eq_getElem hj2)
            rw [hj3] at g1
            cases g1
            exact ⟨by show 2 ≤ sizeLine; decide, [.int (j : Nat) tk2, u2], .cons ⟨_, rfl⟩ (.cons g3 .nil), ⟨_, g4, rfl, _, rfl⟩⟩
  have same : Same H1 H2 := fun b o y => by
    show (if b < g.objs.size then H1 b else mk b) = some o
    rw [if_pos (show b < g.objs.size from Nat.lt_of_lt_of_le (I1.hok.lt y) (by rw [szg]; exact Nat.le_add_right _ _))]
    exact y
  have Snone : H1 g.objs.size = none := I1.hok.fresh (by omega)
  refine ⟨.ref g.objs.size, H2, I3, rfl, q H2 g.objs.size (acc.toList.map adr) same Snone ?_ tlen fun i x hx => ?_⟩
  · show (if g.objs.size < g.objs.size then H1 _ else mk _) = _
    rw [if_neg (Nat.lt_irrefl _)]
    exact if_pos rfl
  · obtain ⟨T, tk', u, e1, e2, e3, e4⟩ := tget i x hx
    exact ⟨T, e1, I1.hok.fresh (by omega), at_T i x T hx e1⟩
end
end RS
set_option Elab.async false
set_option maxRecDepth 100000
set_option maxHeartbeats 4000000
namespace RS
open PySem PySem.Spec PyProof.Rows L2 GX
/-- a for of n turns by a word of its own: the next turn -/
def ForNx (n : Nat) (Pv : Nat → L2.St → Hp → Prop) (i : Nat) (σ : L2.St) (H : Hp) : Prop := Pv (i + 1) σ H
theorem for_by {J : It} {g : TG} {tb : TS} {D : Ends} {σ : L2.St} {H : Hp} (n : Nat) (Pv : Nat → L2.St → Hp → Prop) (h0 : Pv 0 σ H)
    (turn : ∀ i σ H, i < n → Pv i σ H → J.go i H ∧ ∀ x H', J.yld i H x H' → g x σ H' fun σ2 H2 => tb { D with nx := Pv (i + 1), ct := Pv (i + 1), bk := D.nx } σ2 H2)
    (stop : ∀ σ H, Pv n σ H → J.stop n H ∧ D.nx σ H) :
    ∃ W : Nat → Nat → L2.St → Hp → Prop, (∃ m, W 0 m σ H) ∧ ∀ i m σ H, W i m σ H →
      (J.stop i H ∧ D.nx σ H) ∨ (J.go i H ∧ ∃ N : L2.St → Hp → Prop, (∀ σ' H', N σ' H' → ∃ m', m' < m ∧ W (i + 1) m' σ' H') ∧ ∀ x H', J.yld i H x H' → g x σ H' fun σ2 H2 => tb { D with nx := N, ct := N, bk := D.nx } σ2 H2) := by
  refine ⟨fun i m σ H => m = n - i ∧ i ≤ n ∧ Pv i σ H, ⟨n, rfl, Nat.zero_le _, h0⟩, ?_⟩
  rintro i m σ H ⟨rfl, hi, p⟩
  by_cases hlt : i < n
  · obtain ⟨go, nx⟩ := turn i σ H hlt p
    exact .inr ⟨go, Pv (i + 1), fun σ' H' p' => ⟨n - (i + 1), by omega, rfl, hlt, p'⟩, nx⟩
  · have e : i = n := by omega
    subst e
    exact .inl (stop σ H p)
theorem lc_by {J : It} {g : TG} {tt : TT} {te : TE} {vs : List Nat} {σ : L2.St} {H1 : Hp} {D : Addr} {Qd : Hp → Prop} (n : Nat) (Pv : Nat → Hp → Prop) (h0 : Pv 0 (upd H1 D (.lst [])))
    (turn : ∀ i H, i < n → Pv i H → J.go i H ∧ ∀ x H', J.yld i H x H' → g x (wipe σ vs) H' fun σ2 H2 => wipe σ2 vs = wipe σ vs ∧ tt σ2 H2 fun b H3 =>
      if b = true then te σ2 H3 fun y H4 => ∃ acc, H4 D = some (.lst acc) ∧ acc.length < sizeLine ∧ Pv (i + 1) (upd H4 D (.lst (acc ++ [y]))) else Pv (i + 1) H3)
    (stop : ∀ H, Pv n H → J.stop n H ∧ Qd H) :
    ∃ W : Nat → Nat → Hp → Prop, (∃ m, W 0 m (upd H1 D (.lst []))) ∧ ∀ i m H, W i m H →
      (J.stop i H ∧ Qd H) ∨ (J.go i H ∧ ∃ Nx : Hp → Prop, (∀ H', Nx H' → ∃ m', m' < m ∧ W (i + 1) m' H') ∧ ∀ x H', J.yld i H x H' → g x (wipe σ vs) H' fun σ2 H2 => wipe σ2 vs = wipe σ vs ∧ tt σ2 H2 fun b H3 =>
        if b = true then te σ2 H3 fun y H4 => ∃ acc, H4 D = some (.lst acc) ∧ acc.length < sizeLine ∧ Nx (upd H4 D (.lst (acc ++ [y]))) else Nx H3) := by
  refine ⟨fun i m H => m = n - i ∧ i ≤ n ∧ Pv i H, ⟨n, rfl, Nat.zero_le _, h0⟩, ?_⟩
  rintro i m H ⟨rfl, hi, p⟩
  by_cases hlt : i < n
  · obtain ⟨go, nx⟩ := turn i H hlt p
    exact .inr ⟨go, Pv (i + 1), fun H' p' => ⟨n - (i + 1), by omega, rfl, hlt, p'⟩, nx⟩
  · have e : i = n := by omega
    subst e
    exact .inl (stop H p)

/-! ### numbered things -/
def enumP {α : Type} : Nat → List α → List (Nat × α)
  | _, [] => []
  | k, x :: xs => (k, x) :: enumP (k + 1) xs
theorem enumP_get {α : Type} : ∀ (l : List α) (k i : Nat), (enumP k l)[i]? = l[i]?.map fun x => (k + i, x)
  | [], k, i => by simp [enumP]
  | x :: xs, k, 0 => by simp [enumP]
  | x :: xs, k, i + 1 => by
    show (enumP (k + 1) xs)[i]? = _
    rw [enumP_get xs (k + 1) i]
    have e : k + 1 + i = k + (i + 1) := by omega
    rw [e]
    simp
theorem enumP_length {α : Type} : ∀ (l : List α) (k : Nat), (enumP k l).length = l.length
  | [], _ => rfl
  | _ :: xs, k => congrArg (· + 1) (enumP_length xs (k + 1))
/-- a (number, row) -/
def pairD (q : Nat × List PyData) : PyData := .tuple [.int q.1, .tuple q.2]
def pairsD (l : List (Nat × List PyData)) : PyData := .list (l.map pairD)

/-- data by places -/
theorem dpAll_by {K : PySem.W.Frag} {H : Hp} : ∀ {vs : List V} {ds : List PyData}, vs.length = ds.length → (∀ (i : Nat) (v : V) (d : PyData), vs[i]? = some v → ds[i]? = some d → Dp K H v d) → DpAll K H vs ds
  | [], [], _, _ => .nil
  | [], _ :: _, h, _ => by simp at h
  | _ :: _, [], h, _ => by simp at h
  | v :: vs, d :: ds, h, k => .cons (k 0 v d rfl rfl) (dpAll_by (by simpa using h) fun i v d e1 e2 => k (i + 1) v d (by simpa using e1) (by simpa using e2))
end RS
set_option Elab.async false
set_option maxRecDepth 100000
set_option maxHeartbeats 4000000
namespace RS
open PySem PySem.Spec PyProof.Rows L2 GX
/-! ### data without lists -/
mutual
def noL : PyData → Bool
  | .list _ => false
  | .dict _ => false
  | .tuple ds => noLs ds
  | _ => true
def noLs : List PyData → Bool
  | [] => true
  | d :: ds => noL d && noLs ds
end
theorem noLs_iff : ∀ {ds : List PyData}, noLs ds = true ↔ ∀ d ∈ ds, noL d = true
  | [] => by simp [noLs]
  | d :: ds => by
    unfold noLs
    rw [Bool.and_eq_true, noLs_iff]
    simp
theorem sqT_upd {K : PySem.W.Frag} {H : Hp} {a b : Addr} {xs u ys : List V} (hH : H a = some (.lst xs)) (h : SqT K H b ys) : SqT K (upd H a (.lst u)) b ys := by
  rcases h with (h | ⟨o, h⟩) | h
  · refine .inl (.inl ?_)
    rw [upd_ne (fun z => by rw [z, hH] at h; cases h)]
    exact h
  · refine .inl (.inr ⟨o, ?_⟩)
    rw [upd_ne (fun z => by rw [z, hH] at h; cases h)]
    exact h
  · exact .inr h
mutual
theorem dp_upd {K : PySem.W.Frag} {H : Hp} {a : Addr} {xs u : List V} (hH : H a = some (.lst xs)) : ∀ (d : PyData) {v : V}, noL d = true → Dp K H v d → Dp K (upd H a (.lst u)) v d
  | .none, _, _, .non => .non
  | .bool b, _, _, .bl _ => .bl b
  | .int i, _, _, .int _ => .int i
  | .str x, _, _, .str _ => .str x
  | .list ds, _, h, _ => by cases h
  | .tuple ds, _, h, .tup q hs => .tup (sqT_upd hH q) (dpAll_upd hH ds h hs)
  | .dict _, _, h, _ => by cases h
theorem dpAll_upd {K : PySem.W.Frag} {H : Hp} {a : Addr} {xs u : List V} (hH : H a = some (.lst xs)) : ∀ (ds : List PyData) {vs : List V}, noLs ds = true → DpAll K H vs ds → DpAll K (upd H a (.lst u)) vs ds
  | [], _, _, .nil => .nil
  | d :: ds, _, h, .cons q hs => by
    unfold noLs at h
    rw [Bool.and_eq_true] at h
    exact .cons (dp_upd hH d h.1 q) (dpAll_upd hH ds h.2 hs)
end
/-- a list is changed that is none of those ahead -/
theorem dp_upd' {K : PySem.W.Frag} {H H' : Hp} {a : Addr} {xs u : List V} (s : Same H H') (hn : H a = none) {d : PyData} {v : V} (q : Dp K H v d) : Dp K (upd H' a (.lst u)) v d :=
  dp_same (fun b o e => by rw [upd_ne (ne_of_none e hn)]; exact s b o e) d q

theorem depth0 : ∀ {ds : List PyData}, (∀ d ∈ ds, d.depth = 0) → PyData.depthAll ds = 0
  | [], _ => by simp [PyData.depthAll]
  | d :: ds, h => by
    simp only [PyData.depthAll]
    rw [h d List.mem_cons_self, depth0 fun e he => h e (List.mem_cons_of_mem _ he)]
    rfl
theorem upd_no {H : Hp} {a b : Addr} {o : HO} (e : upd H a o b = none) : H b = none := by
  by_cases z : b = a
  · rw [z, upd_same] at e
    cases e
  · rw [upd_ne z] at e
    exact e
theorem cond_by {tc : TT} {σ : L2.St} {H : Hp} {Q : Bool → Hp → Prop} (b : Bool) (N : Hp → Prop) (h1 : ∀ Q' : Bool → Hp → Prop, (∀ H2, N H2 → Q' b H2) → tc σ H Q') (h2 : ∀ H2, N H2 → Q b H2) : tc σ H Q := h1 Q h2
theorem iteT' {b : Bool} {A B : Prop} (e : b = true) (h : A) : if b = true then A else B := by
  rw [if_pos e]
  exact h
theorem iteF' {b : Bool} {A B : Prop} (e : b = false) (h : B) : if b = true then A else B := by
  rw [if_neg (by rw [e]; decide)]
  exact h
end RS
set_option Elab.async false
set_option maxRecDepth 100000
set_option maxHeartbeats 4000000
namespace RS
open PySem PySem.Spec PyProof.Rows L2 GX
/-! ### lengths and ways -/
def lensD (ls : List Nat) : PyData := .list (ls.map fun n => .int (n : Nat))
structure OkLens (ls : List Nat) : Prop where
  one : 1 ≤ ls.length
  most : ls.length ≤ 40
  each : ∀ n ∈ ls, 1 ≤ n ∧ n ≤ 1000000
section
variable {P : Program} {w : World} {K : PySem.W.Frag} {mg : Str → Option Value} {base : Heap}
theorem scCheckLengths : FnScope ["lengths", "length"] ["lengths"] (defScope s_check_lengths) := ⟨rfl, rfl, rfl, by decide +kernel, rfl, by decide +kernel, by decide +kernel⟩
def spCheckLengths (K : PySem.W.Frag) (p : Addr) : Sp := fun vs H Q _ => ∃ (vl : V) (ls : List Nat), vs = [vl] ∧ Dp K H vl (lensD ls) ∧ OkLens ls ∧ Tab H p ∧ ∀ H', Same H H' → Q .non H'
theorem check_lengths_ok {c p : Addr} (D : DefAt K mg "check_lengths" s_check_lengths c) (T : Txt K mg) (TB : GxR.TabB base mg c p) (cN : Cal P w K mg base CX0 1 "is_number" ["value"] (spNum K)) : Cal P w K mg base CX0 3 "check_lengths" ["lengths"] (spCheckLengths K p) := by
  have sc := scCheckLengths
  obtain ⟨tA, hA⟩ := T.lengths
  obtain ⟨tB, hB⟩ := T.length
  refine def_ok0 D sc (fun vs H Q E h => ?_) (fun _ _ _ _ _ _ us hl => match us, hl with | [_], _ => rfl) (fun f A outer s H vs Q E hr h => ?_)
  · obtain ⟨vl, ls, rfl, _⟩ := h
    rfl
  · obtain ⟨vl, ls, rfl, hl, ok, ht, k⟩ := h
    refine ⟨_, (pss_cons (ps_if ((pw_or (pt_not (pt_val (pe_callB call_isiD (by rfl) T.isinstance (by decide +kernel) (pa_cons (pv 0) (pa_cons (pe_bltn (v := V.ty "list") (u := Value.type "list") (by rfl) T.list_ (by decide +kernel) rfl) pa_nil))))) (pw_or1 (pt_not (pt_chain op_le op_le pe_int (pe_callB call_lenD (by rfl) T.len PySem.boot_len (pa_cons (pv 0) pa_nil)) (pe_glob (v := V.int 40) (by rfl) hA ⟨_, rfl⟩))))).pt) pss_never pss_nil) (pss_one (ps_if (pt_not (pt_val (pe_all (own := [("length", 1)])  hr rfl T.all TB rfl rfl sc.nd (blkOk_by (N := ["lengths", "length"]) (sc := defScope s_check_lengths) (own := [("length", 1)]) (by decide +kernel)) (by decide +kernel) rfl rfl (pi_list (pv 0)) (fun _ _ _ _ _ _ _ => (pg_name (i := 1) sc.nd rfl (Or.inl rfl))) (fun _ _ _ _ _ _ _ hr => pe_and (pe_c cN hr (by decide) (by rfl) pass0 (pa_cons (pv 1) pa_nil)) (pe_one (pe_chain op_le op_le pe_int (pv 1) (pe_glob (v := V.int 1000000) (by rfl) hB ⟨_, rfl⟩))))))) pss_never pss_nil))), ?_⟩
    refine ⟨_, rfl, _, _, _, rfl, by simp, hl, _, rfl, ?_⟩
    refine iteF ⟨_, rfl, _, _, (ls.map fun n => PyData.int (n : Nat)).length, rfl, hl, rfl, _, _, rfl, rfl, _, rfl, ?_⟩
    rw [List.length_map]
    have o1 := ok.one
    have o2 := ok.most
    have e1 : decide ((1 : Int) ≤ (ls.length : Nat)) = true := decide_eq_true (by omega)
    have e2 : decide (((ls.length : Nat) : Int) ≤ 40) = true := decide_eq_true (by omega)
    rw [e1]
    refine iteT ⟨_, _, rfl, rfl, _, rfl, ?_⟩
    rw [e2]
    refine iteF ?_
    cases hl with
    | @lst a xs _ hS hI =>
      refine ⟨_, rfl, a, rfl, ⟨xs, hS⟩, ht, ?_⟩
      have lx : xs.length = ls.length := by rw [dpLen hI, List.length_map]
      refine all_by xs.length (fun i H' => Same H H') (Same.refl H) (fun i H' hi sm => ?_) (fun H' sm => ?_)
      · refine ⟨⟨xs, xs[i], sm.seq hS, List.getElem?_eq_getElem hi⟩, fun y H2 ⟨e, hy⟩ => ?_⟩
        have ey := hy xs (sm.seq hS)
        obtain ⟨d, ed, hd⟩ := dpGet hI ey
        obtain ⟨n, en, rfl⟩ : ∃ n, ls[i]? = some n ∧ d = PyData.int (n : Nat) := by
          rw [List.getElem?_map] at ed
          cases q : ls[i]? with
          | none => rw [q] at ed; cases ed
          | some b => rw [q] at ed; exact ⟨b, rfl, (Option.some.inj ed).symm⟩
        cases hd
        obtain ⟨m1, m2⟩ := ok.each n (List.mem_of_getElem? en)
        subst e
        refine ⟨rfl, _, rfl, _, _, rfl, .int (n : Int), _, rfl, ?_⟩
        have hn : isNum (.int (n : Int)) = true := by simp [isNum, isI, isT, tyN]
        rw [hn]
        refine iteT ⟨_, rfl, _, _, rfl, rfl, _, rfl, ?_⟩
        have e3 : decide ((1 : Int) ≤ (n : Nat)) = true := decide_eq_true (by omega)
        have e4 : decide (((n : Nat) : Int) ≤ 1000000) = true := decide_eq_true (by omega)
        rw [e3]
        refine iteT ⟨_, _, rfl, rfl, _, rfl, fun _ => .mk hi ?_, fun z => ?_⟩
        · exact sm
        · rw [e4] at z
          cases z
      · exact ⟨⟨xs, sm.seq hS, Nat.le_refl _⟩, _, rfl, iteF (k _ sm)⟩

theorem scCheckWays : FnScope ["ways"] ["ways"] (defScope s_check_ways) := ⟨rfl, rfl, rfl, by decide +kernel, rfl, by decide +kernel, by decide +kernel⟩
def spCheckWays : Sp := fun vs H Q _ => ∃ (n : Int), vs = [.int n] ∧ 2 ≤ n ∧ n ≤ 6 ∧ Q .non H
theorem check_ways_ok {c : Addr} (D : DefAt K mg "check_ways" s_check_ways c) (T : Txt K mg) (cN : Cal P w K mg base CX0 1 "is_number" ["value"] (spNum K)) : Cal P w K mg base CX0 2 "check_ways" ["ways"] spCheckWays := by
  have sc := scCheckWays
  obtain ⟨tA, hA⟩ := T.leastw
  obtain ⟨tB, hB⟩ := T.mostw
  refine def_ok0 D sc (fun vs H Q E h => ?_) (fun _ _ _ _ _ _ us hl => match us, hl with | [_], _ => rfl) (fun f A outer s H vs Q E hr h => ?_)
  · obtain ⟨n, rfl, _⟩ := h
    rfl
  · obtain ⟨n, rfl, h1, h2, k⟩ := h
    refine ⟨_, (pss_one (ps_if ((pw_or (pt_not (pt_val (pe_c cN hr (by decide) (by rfl) pass0 (pa_cons (pv 0) pa_nil)))) (pw_or1 (pt_not (pt_chain op_le op_le (pe_glob (v := V.int 2) (by rfl) hA ⟨_, rfl⟩) (pv 0) (pe_glob (v := V.int 6) (by rfl) hB ⟨_, rfl⟩))))).pt) pss_never pss_nil)), ?_⟩
    refine ⟨_, rfl, _, _, rfl, .int n, _, rfl, ?_⟩
    have hn : isNum (.int n) = true := by simp [isNum, isI, isT, tyN]
    rw [hn]
    refine iteF ⟨_, rfl, _, _, rfl, rfl, _, rfl, ?_⟩
    rw [decide_eq_true h1]
    refine iteT ⟨_, _, rfl, rfl, _, rfl, ?_⟩
    rw [decide_eq_true h2]
    exact iteF k

theorem scCheckMerging : FnScope ["lengths", "ways"] ["lengths", "ways"] (defScope s_check_merging) := ⟨rfl, rfl, rfl, by decide +kernel, rfl, by decide +kernel, by decide +kernel⟩
def spCheckMerging (K : PySem.W.Frag) (p : Addr) : Sp := fun vs H Q _ => ∃ (vl : V) (ls : List Nat) (n : Int), vs = [vl, .int n] ∧ Dp K H vl (lensD ls) ∧ OkLens ls ∧ 2 ≤ n ∧ n ≤ 6 ∧ Tab H p ∧ ∀ H', Same H H' → Q .non H'
theorem check_merging_ok {c p : Addr} (D : DefAt K mg "check_merging" s_check_merging c) (cL : Cal P w K mg base CX0 3 "check_lengths" ["lengths"] (spCheckLengths K p)) (cW : Cal P w K mg base CX0 2 "check_ways" ["ways"] spCheckWays) : Cal P w K mg base CX0 4 "check_merging" ["lengths", "ways"] (spCheckMerging K p) := by
  have sc := scCheckMerging
  refine def_ok0 D sc (fun vs H Q E h => ?_) (fun _ _ _ _ _ _ us hl => match us, hl with | [_, _], _ => rfl) (fun f A outer s H vs Q E hr h => ?_)
  · obtain ⟨vl, ls, n, rfl, _⟩ := h
    rfl
  · obtain ⟨vl, ls, n, rfl, hl, ok, h1, h2, ht, k⟩ := h
    refine ⟨_, (pss_cons (ps_expr (pe_c cL hr (by decide) (by rfl) pass0 (pa_cons (pv 0) pa_nil))) (pss_one (ps_expr (pe_c cW hr (by decide) (by rfl) pass0 (pa_cons (pv 1) pa_nil))))), ?_⟩
    refine ⟨_, rfl, vl, ls, rfl, hl, ok, ht, fun H' sm => ?_⟩
    exact ⟨_, rfl, n, rfl, h1, h2, k H' sm⟩
end
end RS
set_option Elab.async false
set_option maxRecDepth 100000
set_option maxHeartbeats 4000000
namespace RS
open PySem PySem.Spec PyProof.Rows L2 GX
/-! ### the drawer -/
structure BoxAt (H : Hp) (B L : Addr) : Prop where
  ne : B ≠ L
  b : ∃ s : Int, H B = some (.lst [.ref L, .int s])
  l : ∃ ms : List Int, H L = some (.lst (ms.map V.int))
/-- all but the drawer stays -/
def SameX (B L : Addr) (H H' : Hp) : Prop := ∀ b o, b ≠ B → b ≠ L → H b = some o → H' b = some o
theorem SameX.refl {B L : Addr} {H : Hp} : SameX B L H H := fun _ _ _ _ e => e
theorem SameX.trans {B L : Addr} {H H1 H2 : Hp} (a : SameX B L H H1) (b : SameX B L H1 H2) : SameX B L H H2 := fun c o h1 h2 e => b c o h1 h2 (a c o h1 h2 e)
theorem SameX.of {B L : Addr} {H H' : Hp} (s : Same H H') : SameX B L H H' := fun b o _ _ e => s b o e
theorem BoxAt.same {H H' : Hp} {B L : Addr} (h : BoxAt H B L) (s : Same H H') : BoxAt H' B L := by
  obtain ⟨n, ⟨x, hb⟩, ⟨ms, hl⟩⟩ := h
  exact ⟨n, ⟨x, s _ _ hb⟩, ⟨ms, s _ _ hl⟩⟩
section
variable {P : Program} {w : World} {K : PySem.W.Frag} {mg : Str → Option Value} {base : Heap}
theorem dpInts {K : PySem.W.Frag} {H : Hp} : ∀ {ns : List Int}, DpAll K H (ns.map V.int) (ns.map .int)
  | [] => .nil
  | n :: _ => .cons (.int n) dpInts
theorem scBegun : FnScope ["_law_script", "_law_stirred", "_law_cell"] ["_law_script"] (defScope sBegun) := ⟨rfl, rfl, rfl, by decide +kernel, rfl, by decide +kernel, by decide +kernel⟩
def spBegun (K : PySem.W.Frag) : Sp := fun vs H Q _ => ∃ (a : Addr) (ns : List Int), vs = [.ref a] ∧ SqL K H a (ns.map V.int) ∧
  ∀ (H' : Hp) (B L : Addr), Same H H' → H B = none → H L = none → BoxAt H' B L → Q (.ref B) H'
theorem begun_ok {c : Addr} (D : DefAt K mg "_law_begun" sBegun c) (T : Txt K mg) : Cal P w K mg base CX0 1 "_law_begun" ["_law_script"] (spBegun K) := by
  have sc := scBegun
  refine def_ok0 D sc (fun vs H Q E h => ?_) (fun _ _ _ _ _ _ us hl => match us, hl with | [_], _ => rfl) (fun f A outer s H vs Q E hr h => ?_)
  · obtain ⟨a, ns, rfl, _⟩ := h
    rfl
  · obtain ⟨a, ns, rfl, hS, k⟩ := h
    refine ⟨_, (pss_cons (ps_set (i := 1) sc.nd rfl (Or.inl rfl) pe_int) (pss_cons (ps_for PassesOwn.never rfl (pi_list (pv 0)) (pg_name (i := 2) sc.nd rfl (Or.inl rfl)) (pss_one (ps_set (i := 1) sc.nd rfl (Or.inl rfl) (pe_op op_mod (pe_op op_add (pe_op op_add (pe_op op_mul (pv 1) pe_int) (pe_op op_mul (pv 2) pe_int)) pe_int) pe_int)))) (pss_one (ps_ret (pe_lst (pa_cons (pe_callTy call_list_of (by rfl) T.list_ (by decide +kernel) (pa_cons (pv 0) pa_nil)) (pa_cons (pe_op op_mul (pv 1) (pe_callTy call_int1 (by rfl) T.int_ (by decide +kernel) (pa_cons (pe_cmpR op_gt (pe_callB call_lenD (by rfl) T.len PySem.boot_len (pa_cons (pv 0) pa_nil)) pe_int (nomark _)) pa_nil))) pa_nil))))))), ?_⟩
    refine ⟨_, rfl, a, rfl, ⟨_, hS⟩, for_list (K := K) (a := a) (xs := ns.map V.int) (fun i σ H' => ∃ (st : Int) (v2 : Option V), σ = [some (.ref a), some (.int st), v2] ∧ 0 ≤ st ∧ st < 2147483647 ∧ H' = H)
      ⟨0, none, rfl, by decide, by decide, rfl⟩ (fun i σ H' _ ⟨_, _, _, _, _, e⟩ => by rw [e]; exact hS) ?_ ?_⟩
    · rintro i x σ H' hx ⟨st, v2, rfl, h0, h1, rfl⟩
      obtain ⟨n, en, rfl⟩ : ∃ n, ns[i]? = some n ∧ x = V.int n := by
        rw [List.getElem?_map] at hx
        cases q : ns[i]? with
        | none => rw [q] at hx; cases hx
        | some b => rw [q] at hx; exact ⟨b, rfl, (Option.some.inj hx).symm⟩
      refine ⟨_, rfl, _, _, rfl, rfl, .inl ⟨by omega, by omega⟩, ?_⟩
      refine ⟨_, rfl, _, _, rfl, rfl, .inr ⟨by omega, by omega⟩, ?_⟩
      refine ⟨_, _, rfl, rfl, _, _, rfl, rfl, _, _, rfl, rfl, (by show (0 : Int) < 2147483647; decide), ?_⟩
      exact ⟨_, _, rfl, Int.emod_nonneg _ (by decide), Int.emod_lt_of_pos _ (by decide), rfl⟩
    · rintro σ H' ⟨st, v2, rfl, h0, h1, rfl⟩
      refine ⟨_, rfl, a, _, rfl, .inl hS, fun L hL => ?_⟩
      have s1 : Same H' (upd H' L (.lst (ns.map V.int))) := fun b o e => by
        rw [upd_ne (ne_of_none e hL)]
        exact e
      refine ⟨_, rfl, _, rfl, .ref a, _, _, rfl, .lst (s1.seq hS) dpInts, rfl, _, _, rfl, rfl, .inr ⟨_, rfl, ?_⟩⟩
      refine ⟨_, _, rfl, rfl, .inl ⟨by omega, by omega⟩, ?_⟩
      refine ⟨by show 2 ≤ sizeLine; decide, fun B hB => ?_⟩
      have n1 : L ≠ B := fun z => by rw [← z, upd_same] at hB; cases hB
      exact k _ B L (fun b o e => by rw [upd_ne (ne_of_none (s1 _ _ e) hB)]; exact s1 _ _ e) (s1.free hB) hL ⟨Ne.symm n1, ⟨_, upd_same⟩, ⟨ns, (upd_ne n1).trans upd_same⟩⟩
end
end RS
set_option Elab.async false
set_option maxRecDepth 100000
set_option maxHeartbeats 4000000
namespace RS
open PySem PySem.Spec PyProof.Rows L2 GX
section
variable {P : Program} {w : World} {K : PySem.W.Frag} {mg : Str → Option Value} {base : Heap}
theorem scTake : FnScope ["_law_box", "_law_many", "_law_number"] ["_law_box", "_law_many"] (defScope sTake) := ⟨rfl, rfl, rfl, by decide +kernel, rfl, by decide +kernel, by decide +kernel⟩
def spTake : Sp := fun vs H Q _ => ∃ (B L : Addr) (m : Int), vs = [.ref B, .int m] ∧ BoxAt H B L ∧ 1 ≤ m ∧ m ≤ 1000000000000000000 ∧
  ∀ (H' : Hp) (k : Int), SameX B L H H' → BoxAt H' B L → 0 ≤ k → k < m → Q (.int k) H'
theorem eqv_nil (ds : List PyData) : PyData.eqv (.list ds) (.list []) = ds.isEmpty := by
  cases ds <;> simp [PyData.eqv, PyData.eqvAll]
theorem shaped_ints (ms : List Int) : SeqAt.shaped (.list (ms.map .int)) = true := by
  have h1 : PyData.canLayAll0 (ms.map .int) = true := by
    induction ms with
    | nil => simp [PyData.canLayAll0]
    | cons m ms ih => simp [PyData.canLayAll0, PyData.canLay0, ih]
  have h2 : PyData.depthAll (ms.map .int) = 0 := depth0 fun d hd => by
    obtain ⟨n, _, rfl⟩ := List.mem_map.mp hd
    simp [PyData.depth]
  simp [SeqAt.shaped, PyData.canLay0, PyData.depth, h1, h2]
theorem take_ok {c : Addr} (D : DefAt K mg "_law_take" sTake c) : Cal P w K mg base CX0 1 "_law_take" ["_law_box", "_law_many"] spTake := by
  have sc := scTake
  refine def_ok0 D sc (fun vs H Q E h => ?_) (fun _ _ _ _ _ _ us hl => match us, hl with | [_, _], _ => rfl) (fun f A outer s H vs Q E hr h => ?_)
  · obtain ⟨B, L, m, rfl, _⟩ := h
    rfl
  · obtain ⟨B, L, m, rfl, ⟨nBL, ⟨st, hB⟩, ⟨ms, hL⟩⟩, hm, hm2, k⟩ := h
    have hu := hr.units
    refine ⟨_, (pss_cons (ps_if (pt_cmpR (op_eqD hu) (pe_ix ix_list (pv 0) pe_int (fun _ _ => rfl)) (pe_lst pa_nil) (nomark _)) (pss_cons (ps_asg (pe_op op_mod (pe_op op_mul (pe_ix ix_list (pv 0) pe_int (fun _ _ => rfl)) pe_int) pe_int) (pg_sub (pv 0) pe_int set_list)) (pss_one (ps_ret (pe_op op_mod (pe_op op_fdiv (pe_ix ix_list (pv 0) pe_int (fun _ _ => rfl)) pe_int) (pv 1))))) pss_nil) (pss_cons (ps_set (i := 2) sc.nd rfl (Or.inl rfl) (pe_ix ix_list (pe_ix ix_list (pv 0) pe_int (fun _ _ => rfl)) pe_int (fun _ _ => rfl))) (pss_cons (ps_asg (pe_op op_fdivW (pv 2) (pv 1)) (pg_sub (pe_ix ix_list (pv 0) pe_int (fun _ _ => rfl)) pe_int set_list)) (pss_cons (ps_if ((pw_or (pt_cmpR op_eq (pe_ix ix_list (pe_ix ix_list (pv 0) pe_int (fun _ _ => rfl)) pe_int (fun _ _ => rfl)) pe_int (nomark _)) (pw_or1 (pt_cmpR op_eq (pe_ix ix_list (pe_ix ix_list (pv 0) pe_int (fun _ _ => rfl)) pe_int (fun _ _ => rfl)) (pe_un un_neg pe_int) (nomark _)))).pt) (pss_one (ps_expr (pe_bm PySem.F.plainAttrs_list PySem.F.slot_list_pop PySem.F.type_list_pop mt_popAt (pe_ix ix_list (pv 0) pe_int (fun _ _ => rfl)) (pa_cons pe_int pa_nil)))) pss_nil) (pss_one (ps_ret (pe_op op_mod (pv 2) (pv 1)))))))), ?_⟩
    refine ⟨_, rfl, B, _, _, _, rfl, rfl, SqL.of hB, rfl, Nat.zero_le _, fun e0 he0 => ?_⟩
    have s0 : Same H (upd H e0 (.lst [])) := fun b o e => by
      rw [upd_ne (ne_of_none e he0)]
      exact e
    refine ⟨.list (ms.map .int), .list [], .lst (s0.seq (SqL.of hL)) dpInts, .lst (SqL.of upd_same) .nil, ?_, rfl, _, rfl, ?_⟩
    · exact shaped_ints ms
    rw [eqv_nil]
    have hB0 := s0 _ _ hB
    have hL0 := s0 _ _ hL
    cases ms with
    | nil =>
      refine iteT ⟨_, rfl, B, _, _, _, rfl, rfl, SqL.of hB0, atI_nat (j := 1) rfl, _, _, rfl, rfl, .inr ⟨by decide, by decide⟩, ?_⟩
      refine ⟨_, _, rfl, rfl, (by show (0 : Int) < 2147483647; decide), ?_⟩
      refine ⟨_, rfl, B, _, _, 1, rfl, rfl, hB0, rfl, ?_⟩
      refine ⟨_, rfl, B, _, _, _, rfl, rfl, SqL.of upd_same, atI_nat (j := 1) rfl, ?_⟩
      refine ⟨_, _, rfl, rfl, ⟨by decide, by decide⟩, _, rfl, _, _, rfl, rfl, (by show (0 : Int) < m; omega), ?_⟩
      refine k _ _ (fun b o h1 h2 e => ?_) ⟨nBL, ⟨_, upd_same⟩, ⟨[], (upd_ne (Ne.symm nBL)).trans hL0⟩⟩ (Int.emod_nonneg _ (by omega)) (Int.emod_lt_of_pos _ (by omega))
      rw [upd_ne h1]
      exact s0 _ _ e
    | cons m0 ms =>
      refine iteF ⟨_, rfl, B, _, _, _, rfl, rfl, SqL.of hB0, atI_nat (j := 0) rfl, L, _, _, _, rfl, rfl, SqL.of hL0, atI_nat (j := 0) rfl, ?_⟩
      refine ⟨_, rfl, _, rfl, _, _, rfl, rfl, wide_div (b := 64) (by omega) (by show m.natAbs < 18446744073709551616; omega) (by decide) (by decide), ?_⟩
      refine ⟨_, rfl, B, _, _, _, rfl, rfl, SqL.of hB0, atI_nat (j := 0) rfl, L, _, _, 0, rfl, rfl, hL0, by simp [ixN], ?_⟩
      have hB1 : upd (upd H e0 (.lst [])) L (.lst (((m0 :: ms).map V.int).set 0 (.int (m0 / m)))) B = some (.lst [.ref L, .int st]) := (upd_ne nBL).trans hB0
      refine ⟨_, rfl, B, _, _, _, rfl, rfl, SqL.of hB1, atI_nat (j := 0) rfl, L, _, _, _, rfl, rfl, SqL.of upd_same, atI_nat (j := 0) rfl, ?_⟩
      have sx : ∀ (u : HO) (b : Addr) (o : HO), b ≠ B → b ≠ L → H b = some o → upd (upd H e0 (.lst [])) L u b = some o := fun u b o h1 h2 e => by
        rw [upd_ne h2]
        exact s0 _ _ e
      have ret : ∀ (H2 : Hp), SameX B L H H2 → BoxAt H2 B L → (∃ v, (some (V.int m0) : Option V) = some v ∧ v = .int m0) → Q (.int (m0 % m)) H2 := fun H2 s2 b2 _ => k H2 _ s2 b2 (Int.emod_nonneg _ (by omega)) (Int.emod_lt_of_pos _ (by omega))
      have box1 : BoxAt (upd (upd H e0 (.lst [])) L (.lst (V.int (m0 / m) :: ms.map V.int))) B L := ⟨nBL, ⟨_, hB1⟩, ⟨m0 / m :: ms, upd_same⟩⟩
      have box2 : BoxAt (upd (upd (upd H e0 (.lst [])) L (.lst (V.int (m0 / m) :: ms.map V.int))) L (.lst (ms.map V.int))) B L := ⟨nBL, ⟨_, (upd_ne nBL).trans hB1⟩, ⟨ms, upd_same⟩⟩
      have sx2 : SameX B L H (upd (upd (upd H e0 (.lst [])) L (.lst (V.int (m0 / m) :: ms.map V.int))) L (.lst (ms.map V.int))) := fun b o h1 h2 e => by
        rw [upd_ne h2]
        exact sx _ b o h1 h2 e
      have sk : seqIndex? 0 (V.int (m0 / m) :: ms.map V.int).length = some 0 := by
        simp [seqIndex?]
      refine ⟨rfl, _, rfl, ?_⟩
      refine ite2 (fun h1 => ?_) (fun h1 => ?_)
      · refine iteT ⟨_, rfl, B, _, _, _, rfl, rfl, SqL.of hB1, atI_nat (j := 0) rfl, .inl ⟨rfl, _, SqL.of upd_same⟩, L, _, 0, 0, _, rfl, rfl, upd_same, by decide, by decide, sk, rfl, ?_⟩
        exact ⟨_, rfl, _, rfl, _, _, rfl, rfl, (by show (0 : Int) < m; omega), ret _ sx2 box2 ⟨_, rfl, rfl⟩⟩
      · refine ⟨_, rfl, B, _, _, _, rfl, rfl, SqL.of hB1, atI_nat (j := 0) rfl, L, _, _, _, rfl, rfl, SqL.of upd_same, atI_nat (j := 0) rfl, ?_⟩
        refine ⟨_, rfl, rfl, _, rfl, ?_⟩
        refine ite2 (fun h1 => ?_) (fun h1 => ?_)
        · refine ⟨_, rfl, B, _, _, _, rfl, rfl, SqL.of hB1, atI_nat (j := 0) rfl, .inl ⟨rfl, _, SqL.of upd_same⟩, L, _, 0, 0, _, rfl, rfl, upd_same, by decide, by decide, sk, rfl, ?_⟩
          exact ⟨_, rfl, _, rfl, _, _, rfl, rfl, (by show (0 : Int) < m; omega), ret _ sx2 box2 ⟨_, rfl, rfl⟩⟩
        · exact ⟨_, rfl, _, rfl, _, _, rfl, rfl, (by show (0 : Int) < m; omega), ret _ (sx _) box1 ⟨_, rfl, rfl⟩⟩
end
end RS
set_option Elab.async false
set_option maxRecDepth 100000
set_option maxHeartbeats 8000000
namespace RS
open PySem PySem.Spec PyProof.Rows L2 GX
mutual
def few : PyData → Prop
  | .list ds => ds.length ≤ 1000000 ∧ fews ds
  | .tuple ds => ds.length ≤ 1000000 ∧ fews ds
  | .dict _ => False
  | _ => True
def fews : List PyData → Prop
  | [] => True
  | d :: ds => few d ∧ fews ds
end
theorem fews_iff : ∀ {ds : List PyData}, fews ds ↔ ∀ d ∈ ds, few d
  | [] => by simp [fews]
  | d :: ds => by
    unfold fews
    rw [fews_iff]
    simp
theorem depth_mem : ∀ {ds : List PyData} {d : PyData}, d ∈ ds → d.depth ≤ PyData.depthAll ds
  | [], _, h => by cases h
  | e :: ds, d, h => by
    simp only [PyData.depthAll]
    rcases List.mem_cons.mp h with q | q
    · subst q
      omega
    · have := depth_mem q
      omega
end RS
set_option Elab.async false
set_option maxRecDepth 100000
set_option maxHeartbeats 4000000
namespace RS
open PySem PySem.Spec PyProof.Rows L2 GX
/-! ### plans -/
mutual
def leaf : PyData → List Nat
  | .int i => [i.toNat]
  | .tuple ds => leafs ds
  | _ => []
def leafs : List PyData → List Nat
  | [] => []
  | d :: ds => leaf d ++ leafs ds
end
mutual
def okP (w : Nat) : PyData → Prop
  | .int i => 0 ≤ i ∧ i < 40
  | .tuple ds => 2 ≤ ds.length ∧ ds.length ≤ w ∧ okPs w ds
  | _ => False
def okPs (w : Nat) : List PyData → Prop
  | [] => True
  | d :: ds => okP w d ∧ okPs w ds
end
mutual
def sizeP : PyData → Nat
  | .tuple ds => 1 + sizePs ds
  | _ => 1
def sizePs : List PyData → Nat
  | [] => 0
  | d :: ds => sizeP d + sizePs ds
end
theorem okPs_iff {w : Nat} : ∀ {ds : List PyData}, okPs w ds ↔ ∀ d ∈ ds, okP w d
  | [] => by simp [okPs]
  | d :: ds => by
    unfold okPs
    rw [okPs_iff]
    simp
theorem leafs_app : ∀ xs ys : List PyData, leafs (xs ++ ys) = leafs xs ++ leafs ys
  | [], _ => rfl
  | d :: xs, ys => by
    show leaf d ++ leafs (xs ++ ys) = (leaf d ++ leafs xs) ++ leafs ys
    rw [leafs_app xs ys, List.append_assoc]
theorem sizePs_app : ∀ xs ys : List PyData, sizePs (xs ++ ys) = sizePs xs + sizePs ys
  | [], _ => by simp [sizePs]
  | d :: xs, ys => by
    show sizeP d + sizePs (xs ++ ys) = (sizeP d + sizePs xs) + sizePs ys
    rw [sizePs_app xs ys]
    omega
theorem okPs_app {w : Nat} {xs ys : List PyData} : okPs w (xs ++ ys) ↔ okPs w xs ∧ okPs w ys := by
  rw [okPs_iff, okPs_iff, okPs_iff]
  constructor
  · exact fun h => ⟨fun d hd => h d (List.mem_append_left _ hd), fun d hd => h d (List.mem_append_right _ hd)⟩
  · rintro ⟨h1, h2⟩ d hd
    rcases List.mem_append.mp hd with q | q
    · exact h1 d q
    · exact h2 d q
mutual
theorem okP_noL {w : Nat} : ∀ d : PyData, okP w d → noL d = true
  | .int _, _ => rfl
  | .tuple ds, h => by
    unfold okP at h
    show noLs ds = true
    exact okPs_noL ds h.2.2
  | .none, h => by simp [okP] at h
  | .bool _, h => by simp [okP] at h
  | .str _, h => by simp [okP] at h
  | .list _, h => by simp [okP] at h
  | .dict _, h => by simp [okP] at h
theorem okPs_noL {w : Nat} : ∀ ds : List PyData, okPs w ds → noLs ds = true
  | [], _ => rfl
  | d :: ds, h => by
    unfold okPs at h
    unfold noLs
    rw [okP_noL d h.1, okPs_noL ds h.2]
    rfl
end
mutual
/-- as many runs as deep, and one more -/
theorem leaf_depth {w : Nat} : ∀ d : PyData, okP w d → d.depth + 1 ≤ (leaf d).length
  | .int _, _ => by simp [leaf, PyData.depth]
  | .tuple ds, h => by
    unfold okP at h
    have := leafs_depth ds h.2.2
    unfold leaf
    simp only [PyData.depth]
    omega
  | .none, h => by simp [okP] at h
  | .bool _, h => by simp [okP] at h
  | .str _, h => by simp [okP] at h
  | .list _, h => by simp [okP] at h
  | .dict _, h => by simp [okP] at h
theorem leafs_depth {w : Nat} : ∀ ds : List PyData, okPs w ds → PyData.depthAll ds + ds.length ≤ (leafs ds).length
  | [], _ => by simp [leafs, PyData.depthAll]
  | d :: ds, h => by
    unfold okPs at h
    have h1 := leaf_depth d h.1
    have h2 := leafs_depth ds h.2
    unfold leafs
    simp only [PyData.depthAll, List.length_append, List.length_cons]
    omega
end
mutual
theorem okP_few {w : Nat} (hw : w ≤ 1000) : ∀ d : PyData, okP w d → few d
  | .int _, _ => by simp [few]
  | .tuple ds, h => by
    unfold okP at h
    unfold few
    exact ⟨by omega, okPs_few hw ds h.2.2⟩
  | .none, h => by simp [okP] at h
  | .bool _, h => by simp [okP] at h
  | .str _, h => by simp [okP] at h
  | .list _, h => by simp [okP] at h
  | .dict _, h => by simp [okP] at h
theorem okPs_few {w : Nat} (hw : w ≤ 1000) : ∀ ds : List PyData, okPs w ds → fews ds
  | [], _ => by simp [fews]
  | d :: ds, h => by
    unfold okPs at h
    unfold fews
    exact ⟨okP_few hw d h.1, okPs_few hw ds h.2⟩
end
theorem okP_cases {w : Nat} {d : PyData} (h : okP w d) : (∃ n : Nat, d = .int (n : Nat) ∧ n < 40) ∨ ∃ ds, d = .tuple ds ∧ 2 ≤ ds.length ∧ ds.length ≤ w ∧ okPs w ds := by
  cases d with
  | int i =>
    unfold okP at h
    exact .inl ⟨i.toNat, by rw [Int.toNat_of_nonneg h.1], by omega⟩
  | tuple ds => unfold okP at h; exact .inr ⟨ds, rfl, h⟩
  | _ => simp [okP] at h
/-- all runs once -/
structure OkPlan (n w : Nat) (d : PyData) : Prop where
  ok : okP w d
  all : (leaf d).Perm (List.range n)
theorem OkPlan.depth {n w : Nat} {d : PyData} (h : OkPlan n w d) : d.depth + 1 ≤ n := by
  have := leaf_depth d h.ok
  rw [h.all.length_eq, List.length_range] at this
  exact this
end RS
set_option Elab.async false
set_option maxRecDepth 100000
set_option maxHeartbeats 4000000
namespace RS
open PySem PySem.Spec PyProof.Rows L2 GX HQ
/-! ### mathematics of stretches: what the parts of one come to, and its plan -/
theorem plt_tri {p q : Int × Int} (h1 : plt p q = false) (h2 : plt q p = false) : p = q := by
  have a := plt_no.mp h1
  have b := plt_no.mp h2
  exact Prod.ext (by omega) (by omega)
/-- the least of some pairs -/
def lstF : List (Int × Int) → Int × Int
  | [] => (0, 0)
  | x :: xs => match xs with
    | [] => x
    | _ :: _ => if plt (lstF xs) x = true then lstF xs else x
theorem lstF_cons {x y : Int × Int} {xs : List (Int × Int)} : lstF (x :: y :: xs) = if plt (lstF (y :: xs)) x = true then lstF (y :: xs) else x := by
  rw [lstF]
theorem lstF_ok : ∀ {xs : List (Int × Int)}, xs ≠ [] → lstF xs ∈ xs ∧ ∀ q ∈ xs, plt q (lstF xs) = false
  | [], h => absurd rfl h
  | [x], _ => ⟨List.mem_singleton.mpr rfl, fun q hq => by
    rw [List.mem_singleton.mp hq]
    exact plt_no.mpr (.inr ⟨rfl, Int.le_refl _⟩)⟩
  | x :: y :: xs, _ => by
    obtain ⟨h1, h2⟩ := lstF_ok (xs := y :: xs) (by intro z; cases z)
    rw [lstF_cons]
    by_cases hb : plt (lstF (y :: xs)) x = true
    · rw [if_pos hb]
      refine ⟨List.mem_cons_of_mem _ h1, fun q hq => ?_⟩
      rcases List.mem_cons.mp hq with e | hq
      · rw [e]
        have := plt_iff.mp hb
        exact plt_no.mpr (by omega)
      · exact h2 q hq
    · rw [if_neg hb]
      refine ⟨List.mem_cons_self, fun q hq => ?_⟩
      rcases List.mem_cons.mp hq with e | hq
      · rw [e]
        exact plt_no.mpr (.inr ⟨rfl, Int.le_refl _⟩)
      · have a := plt_no.mp (h2 q hq)
        have b := plt_no.mp (Bool.eq_false_iff.mpr hb)
        exact plt_no.mpr (by omega)
theorem lstF_uni {xs : List (Int × Int)} {p : Int × Int} (hp : p ∈ xs) (h : ∀ q ∈ xs, plt q p = false) : p = lstF xs := by
  obtain ⟨h1, h2⟩ := lstF_ok (List.ne_nil_of_mem hp)
  exact plt_tri (h2 p hp) (h _ h1)
/-- what a stretch comes to, cut in two behind a place, and the place -/
def cands (f : Nat → Nat → Int) (g : Nat → Nat → Int × Int) (b e : Nat) : List (Int × Int) := (List.range (e - (b + 1))).map fun i => (f b (b + 1 + i) + (g (b + 1 + i) e).1, ((b + 1 + i : Nat) : Int))
theorem cands_mem {f : Nat → Nat → Int} {g : Nat → Nat → Int × Int} {b e : Nat} {q : Int × Int} : q ∈ cands f g b e ↔ ∃ c, b < c ∧ c < e ∧ q = (f b c + (g c e).1, (c : Int)) := by
  unfold cands
  rw [List.mem_map]
  constructor
  · rintro ⟨i, hi, rfl⟩
    rw [List.mem_range] at hi
    exact ⟨b + 1 + i, by omega, by omega, rfl⟩
  · rintro ⟨c, h1, h2, rfl⟩
    refine ⟨c - (b + 1), List.mem_range.mpr (by omega), ?_⟩
    rw [show b + 1 + (c - (b + 1)) = c by omega]
theorem cands_ne {f : Nat → Nat → Int} {g : Nat → Nat → Int × Int} {b e : Nat} (h : b + 2 ≤ e) : cands f g b e ≠ [] :=
  List.ne_nil_of_mem (cands_mem.mpr ⟨b + 1, by omega, by omega, rfl⟩)
theorem cands_len {f : Nat → Nat → Int} {g : Nat → Nat → Int × Int} {b e : Nat} : (cands f g b e).length = e - (b + 1) := by
  unfold cands
  rw [List.length_map, List.length_range]
/-- what up to p + 1 parts of a stretch come to, and where the first one ends -/
def pt (f : Nat → Nat → Int) : Nat → Nat → Nat → Int × Int
  | 0, b, e => (f b e, (e : Int))
  | p + 1, b, e => if 1 < e - b then (if plt (lstF (cands f (pt f p) b e)) (f b e, (e : Int)) = true then lstF (cands f (pt f p) b e) else (f b e, (e : Int))) else (f b e, (e : Int))
/-- the least of two or more parts -/
def leastT (f : Nat → Nat → Int) (p b e : Nat) : Int × Int := lstF (cands f (pt f p) b e)
theorem leastT_snd {f : Nat → Nat → Int} {p b e : Nat} (h : b + 2 ≤ e) : ∃ c : Nat, (leastT f p b e).2 = (c : Int) ∧ b < c ∧ c < e := by
  obtain ⟨h1, _⟩ := lstF_ok (cands_ne (f := f) (g := pt f p) h)
  obtain ⟨c, h2, h3, h4⟩ := cands_mem.mp h1
  exact ⟨c, by unfold leastT; rw [h4], h2, h3⟩
theorem pt_snd {f : Nat → Nat → Int} : ∀ {p b e : Nat}, b < e → ∃ c : Nat, (pt f p b e).2 = (c : Int) ∧ b < c ∧ c ≤ e
  | 0, b, e, h => ⟨e, rfl, h, Nat.le_refl _⟩
  | p + 1, b, e, h => by
    rw [pt]
    by_cases h1 : 1 < e - b
    · rw [if_pos h1]
      by_cases h2 : plt (lstF (cands f (pt f p) b e)) (f b e, (e : Int)) = true
      · rw [if_pos h2]
        obtain ⟨c, a1, a2, a3⟩ := leastT_snd (f := f) (p := p) (b := b) (e := e) (by omega)
        exact ⟨c, a1, a2, by omega⟩
      · rw [if_neg h2]
        exact ⟨e, rfl, h, Nat.le_refl _⟩
    · rw [if_neg h1]
      exact ⟨e, rfl, h, Nat.le_refl _⟩
def cutP (f : Nat → Nat → Int) (p b e : Nat) : Nat := (pt f p b e).2.toNat
def cutL (f : Nat → Nat → Int) (p b e : Nat) : Nat := (leastT f p b e).2.toNat
theorem cutP_ok {f : Nat → Nat → Int} {p b e : Nat} (h : b < e) : (pt f p b e).2 = (cutP f p b e : Nat) ∧ b < cutP f p b e ∧ cutP f p b e ≤ e := by
  obtain ⟨c, h1, h2, h3⟩ := pt_snd (f := f) (p := p) h
  have : cutP f p b e = c := by unfold cutP; rw [h1]; rfl
  rw [this]
  exact ⟨h1, h2, h3⟩
theorem cutP_zero {f : Nat → Nat → Int} {b e : Nat} : cutP f 0 b e = e := rfl
theorem cutL_ok {f : Nat → Nat → Int} {p b e : Nat} (h : b + 2 ≤ e) : (leastT f p b e).2 = (cutL f p b e : Nat) ∧ b < cutL f p b e ∧ cutL f p b e < e := by
  obtain ⟨c, h1, h2, h3⟩ := leastT_snd (f := f) (p := p) h
  have : cutL f p b e = c := by unfold cutL; rw [h1]; rfl
  rw [this]
  exact ⟨h1, h2, h3⟩
/-- the plans of the parts behind the first one -/
def restT (f : Nat → Nat → Int) (g : Nat → Nat → PyData) : Nat → Nat → Nat → List PyData
  | 0, c, e => [g c e]
  | p + 1, c, e => g c (cutP f (p + 1) c e) :: (if cutP f (p + 1) c e < e then restT f g p (cutP f (p + 1) c e) e else [])
/-- the plan of a stretch -/
def planT (f : Nat → Nat → Int) (w : Nat) : Nat → Nat → Nat → PyData
  | 0, b, _ => .int (b : Nat)
  | n + 1, b, e => if e - b ≤ 1 then .int (b : Nat) else .tuple (planT f w n b (cutL f (w - 2) b e) :: restT f (planT f w n) (w - 2) (cutL f (w - 2) b e) e)
theorem restT_len {f : Nat → Nat → Int} {g : Nat → Nat → PyData} : ∀ {p c e : Nat}, 1 ≤ (restT f g p c e).length ∧ (restT f g p c e).length ≤ p + 1
  | 0, c, e => ⟨Nat.le_refl _, Nat.le_refl _⟩
  | p + 1, c, e => by
    rw [restT]
    by_cases h : cutP f (p + 1) c e < e
    · rw [if_pos h, List.length_cons]
      obtain ⟨h1, h2⟩ := restT_len (f := f) (g := g) (p := p) (c := cutP f (p + 1) c e) (e := e)
      omega
    · rw [if_neg h]
      exact ⟨Nat.le_refl _, by simp⟩
theorem range_app {b c e : Nat} (h1 : b ≤ c) (h2 : c ≤ e) : List.range' b (c - b) ++ List.range' c (e - c) = List.range' b (e - b) := by
  have := @List.range'_append_1 b (c - b) (e - c)
  rw [show b + (c - b) = c by omega, show c - b + (e - c) = e - b by omega] at this
  exact this
theorem restT_ok {f : Nat → Nat → Int} {g : Nat → Nat → PyData} {w e k : Nat} (hg : ∀ x y, k ≤ x → x < y → y ≤ e → okP w (g x y) ∧ leaf (g x y) = List.range' x (y - x)) : ∀ {p c : Nat}, k ≤ c → c < e → okPs w (restT f g p c e) ∧ leafs (restT f g p c e) = List.range' c (e - c)
  | 0, c, h0, h => by
    obtain ⟨a, b⟩ := hg c e h0 h (Nat.le_refl _)
    refine ⟨⟨a, trivial⟩, ?_⟩
    show leaf (g c e) ++ [] = _
    rw [List.append_nil, b]
  | p + 1, c, h0, h => by
    obtain ⟨_, c1, c2⟩ := cutP_ok (f := f) (p := p + 1) h
    obtain ⟨a, b⟩ := hg c (cutP f (p + 1) c e) h0 c1 c2
    rw [restT]
    by_cases hl : cutP f (p + 1) c e < e
    · rw [if_pos hl]
      obtain ⟨a2, b2⟩ := restT_ok hg (p := p) (c := cutP f (p + 1) c e) (by omega) hl
      refine ⟨⟨a, a2⟩, ?_⟩
      show leaf _ ++ leafs _ = _
      rw [b, b2, range_app (by omega) c2]
    · rw [if_neg hl]
      refine ⟨⟨a, trivial⟩, ?_⟩
      show leaf _ ++ [] = _
      rw [List.append_nil, b]
      have : cutP f (p + 1) c e = e := by omega
      rw [this]
theorem planT_ok {f : Nat → Nat → Int} {w : Nat} (hw : 2 ≤ w) : ∀ {n b e : Nat}, b < e → e ≤ 40 → e - b ≤ n + 1 → okP w (planT f w n b e) ∧ leaf (planT f w n b e) = List.range' b (e - b)
  | 0, b, e, h, h4, hn => by
    refine ⟨⟨by omega, by omega⟩, ?_⟩
    show [(b : Int).toNat] = _
    rw [show e - b = 1 by omega]
    rfl
  | n + 1, b, e, h, h4, hn => by
    rw [planT]
    by_cases h1 : e - b ≤ 1
    · rw [if_pos h1]
      refine ⟨⟨by omega, by omega⟩, ?_⟩
      show [(b : Int).toNat] = _
      rw [show e - b = 1 by omega]
      rfl
    · rw [if_neg h1]
      obtain ⟨_, c1, c2⟩ := cutL_ok (f := f) (p := w - 2) (b := b) (e := e) (by omega)
      obtain ⟨a1, a2⟩ := planT_ok (f := f) hw (n := n) (b := b) (e := cutL f (w - 2) b e) c1 (by omega) (by omega)
      obtain ⟨b1, b2⟩ := restT_ok (f := f) (g := planT f w n) (w := w) (e := e) (k := b + 1) (fun x y q1 q2 q3 => planT_ok (f := f) hw (n := n) q2 (by omega) (by omega)) (p := w - 2) (c := cutL f (w - 2) b e) (by omega) c2
      obtain ⟨l1, l2⟩ := restT_len (f := f) (g := planT f w n) (p := w - 2) (c := cutL f (w - 2) b e) (e := e)
      refine ⟨⟨?_, ?_, a1, b1⟩, ?_⟩
      · rw [List.length_cons]; omega
      · rw [List.length_cons]; omega
      · show leaf _ ++ leafs _ = _
        rw [a2, b2, range_app (by omega) (by omega)]
/-- the most that the number of a stretch may be -/
def limT (ls : List Nat) (f : Nat → Nat → Int) (w b e : Nat) : Int := (((ls.take e).drop b).sum : Nat) + (leastT f (w - 2) b e).1
/-- what parts come to rests on the numbers of what lies within alone -/
theorem cands_congr {f f' : Nat → Nat → Int} {g g' : Nat → Nat → Int × Int} {b e : Nat} (h1 : ∀ c, b < c → c < e → f b c = f' b c) (h2 : ∀ c, b < c → c < e → g c e = g' c e) : cands f g b e = cands f' g' b e := by
  unfold cands
  refine List.map_congr_left fun i hi => ?_
  rw [List.mem_range] at hi
  rw [h1 (b + 1 + i) (by omega) (by omega), h2 (b + 1 + i) (by omega) (by omega)]
theorem pt_congr {f f' : Nat → Nat → Int} : ∀ {p b e : Nat}, (∀ x y, b ≤ x → x < y → y ≤ e → f x y = f' x y) → b < e → pt f p b e = pt f' p b e
  | 0, b, e, h, hb => by rw [pt, pt, h b e (Nat.le_refl _) hb (Nat.le_refl _)]
  | p + 1, b, e, h, hb => by
    rw [pt, pt, h b e (Nat.le_refl _) hb (Nat.le_refl _), cands_congr (f := f) (f' := f') (g := pt f p) (g' := pt f' p) (fun c c1 c2 => h b c (Nat.le_refl _) c1 (by omega)) fun c c1 c2 => pt_congr (fun x y h1 h2 h3 => h x y (by omega) h2 h3) c2]
theorem leastT_congr {f f' : Nat → Nat → Int} {p b e : Nat} (h : ∀ x y, b ≤ x → x < y → y ≤ e → y - x < e - b → f x y = f' x y) : leastT f p b e = leastT f' p b e := by
  unfold leastT
  rw [cands_congr (f := f) (f' := f') (g := pt f p) (g' := pt f' p) (fun c c1 c2 => h b c (Nat.le_refl _) c1 (by omega) (by omega)) fun c c1 c2 => pt_congr (fun x y h1 h2 h3 => h x y (by omega) h2 h3 (by omega)) c2]
/-- the numbers of a cheapest plan of each stretch, those of up to so many runs -/
def numU (ls : List Nat) (w : Nat) : Nat → Nat → Nat → Int
  | 0, _, _ => 0
  | n + 1, b, e => if e - b ≤ 1 then 0 else limT ls (numU ls w n) w b e
def numC (ls : List Nat) (w b e : Nat) : Int := numU ls w (e - b) b e
theorem numU_fix (ls : List Nat) (w : Nat) : ∀ {n m b e : Nat}, e - b ≤ n → e - b ≤ m → numU ls w n b e = numU ls w m b e
  | 0, 0, _, _, _, _ => rfl
  | 0, m + 1, b, e, h1, _ => by rw [numU, numU, if_pos (by omega)]
  | n + 1, 0, b, e, _, h2 => by rw [numU, numU, if_pos (by omega)]
  | n + 1, m + 1, b, e, h1, h2 => by
    rw [numU, numU]
    by_cases h : e - b ≤ 1
    · rw [if_pos h, if_pos h]
    · rw [if_neg h, if_neg h]
      unfold limT
      rw [leastT_congr (f := numU ls w n) (f' := numU ls w m) fun x y _ _ _ h4 => numU_fix ls w (by omega) (by omega)]
theorem numC_one {ls : List Nat} {w b : Nat} : numC ls w b (b + 1) = 0 := by
  unfold numC
  rw [show b + 1 - b = 0 + 1 by omega, numU, if_pos (by omega)]
theorem numC_lim {ls : List Nat} {w b e : Nat} (h : b + 2 ≤ e) : numC ls w b e = limT ls (numC ls w) w b e := by
  obtain ⟨n, hn⟩ : ∃ n, e - b = n + 1 := ⟨e - b - 1, by omega⟩
  unfold numC
  rw [hn, numU, if_neg (by omega)]
  unfold limT
  rw [leastT_congr (f := numU ls w n) (f' := fun b e => numU ls w (e - b) b e) fun x y _ _ _ h4 => numU_fix ls w (by omega) (Nat.le_refl _)]
end RS
set_option Elab.async false
set_option maxRecDepth 100000
set_option maxHeartbeats 4000000
namespace GX
open PySem PySem.Spec PyProof.Rows L2
/-! ### xs.extend(t), t any tuple -/
theorem ext_tup (l b : Addr) (xs ys : Array Value) (n m : Nat) (dd : Option Addr) (sl : Array (Option Value)) (h0 : ¬(!xs.isEmpty && Builtin.List.listTooLong (xs.size + ys.size)) = true) (h1 : xs.size ≤ sizeLine) (h2 : xs.size + ys.size ≤ sizeLine + 1) :
    Meets (Builtin.«list.extend» ⟨[.ref l, .ref b], []⟩) (fun _ R s => s.heap.get? l = some ⟨.type "list", none, .seq xs n, #[]⟩ ∧ s.heap.get? b = some ⟨.type "tuple", dd, .seq ys m, sl⟩ ∧ R (.ok (.ret .none)) { s with heap := s.heap.update l (Obj.mapSeq fun x => x ++ ys), toks := s.toks }) := .of_wp fun prog w A R s h => by
    obtain ⟨hp, g, d, tk, os⟩ := s
    obtain ⟨hl, hb, h⟩ := h
    have g1 := PySem.AutoSeq1.idx_int
    have g2 := PySem.AutoSeq1.sub_tuple_tuple
    have g3 := PySem.AutoSeq1.sub_list_list
    have g4 := PySem.AutoSeq1.sub_tuple_list
    have g5 := PySem.AutoSeq1.sub_list_tuple
    have z : (xs ++ ys).size ≤ sizeLine + 1 := (Array.size_append (xs := xs) (ys := ys)).symm ▸ h2
    wp_walk using (wpAny_updateSeq hl rfl (hz := h1) (_hz' := z)), PySem.AutoSeq1.wpAny_loadPart' hl, PySem.AutoSeq1.wpAny_loadPart' hb
    exact ⟨_, rfl, h⟩
section
variable {X : Cx}
def rExtT (K : PySem.W.Frag) : V → List V → Hp → VK → Prop := fun x vs H Q => ∃ l b xs zs, x = .ref l ∧ vs = [.ref b] ∧ H l = some (.lst xs) ∧ SqT K H b zs ∧ xs.length + zs.length ≤ sizeLine ∧ Q .non (upd H l (.lst (xs ++ zs)))
theorem mt_extT : MtM X "list.extend" (rExtT X.K) := by
  intro pins s σ H x vs v us Q I rx rv h
  obtain ⟨l, b, xs, zs, rfl, rfl, hH, hB, hz, q⟩ := h
  cases rx
  obtain ⟨u, rfl, ru⟩ := rv.one
  cases ru
  obtain ⟨z, its, n, r, hl, e⟩ := I.lstM hH
  obtain ⟨its2, r2, ⟨⟨oc, dd, dt, sl⟩, e2, hc, m, hd⟩, hz2⟩ := I.tuple hB
  subst hc hd
  have hl2 := r2.length
  have hsz : its.toArray.size + its2.toArray.size ≤ sizeLine := by rw [List.size_toArray, List.size_toArray]; omega
  have hlong : ¬ (!its.toArray.isEmpty && Builtin.List.listTooLong (its.toArray.size + its2.toArray.size)) = true := fun w => by
    rw [notLongL hsz, Bool.and_false] at w
    cases w
  refine call_meets F.slot_list_extend ⟨_, e, rfl⟩ F.entry_list_extend (F.args_list_extend_2 _ _) (ext_tup l b its.toArray its2.toArray n m dd sl hlong (by rw [List.size_toArray]; omega) (by omega)) ⟨e, e2, ?_⟩
  refine ⟨.non, _, I.lset (its' := its ++ its2) hH e (by simp) (r.append r2) (by rw [List.length_append]; omega), rfl, q⟩
/-- len(d) of a dict -/
theorem len_dic : CallR X (.builtin "len") (fun vs H Q => ∃ p es, vs = [V.ref p] ∧ H p = some (.dK es) ∧ Q (.int es.length) H) := fun pins s σ H vs us Q I r ⟨p, es, e, hp, q⟩ => by
  subst e
  obtain ⟨u, rfl, ru⟩ := vals1 r
  cases ru
  exact d_len I (.inl hp) fun tk s1 I1 => ⟨.int es.length, _, I1, ⟨tk, rfl⟩, q⟩
end
end GX
set_option Elab.async false
set_option maxRecDepth 100000
set_option maxHeartbeats 4000000
namespace RS
open PySem PySem.Spec PyProof.Rows L2 GX
theorem le64 {n : Nat} (h : n + 64 < cLine) : n + 1 < cLine := by omega
def keysD (js : List Nat) : List (Key × V) := js.map fun (j : Nat) => ((Sum.inl (j : Int) : Key), V.bl true)
theorem valV_js {js : List Nat} {i : Nat} (h : i ∉ js) : valV (keysD js) (Sum.inl (i : Int)) = none := by
  unfold keysD
  induction js with
  | nil => rfl
  | cons j js ih =>
    rw [List.map_cons, valV_neg]
    · exact ih fun z => h (List.mem_cons_of_mem _ z)
    · intro z
      have : (j : Int) = (i : Int) := Sum.inl.inj z
      exact h (by rw [show i = j by omega]; exact List.mem_cons_self)
theorem dpAll_snoc {K : PySem.W.Frag} {H : Hp} : ∀ {xs : List V} {y : V} {ds : List PyData}, DpAll K H (xs ++ [y]) ds → ∃ ds0 d, ds = ds0 ++ [d] ∧ DpAll K H xs ds0 ∧ Dp K H y d
  | [], _, _, .cons h .nil => ⟨[], _, rfl, .nil, h⟩
  | _ :: xs, _, _, .cons h t => by
    obtain ⟨ds0, d, rfl, h1, h2⟩ := dpAll_snoc (xs := xs) t
    exact ⟨_ :: ds0, d, rfl, .cons h h1, h2⟩
end RS
set_option Elab.async false
set_option maxRecDepth 100000
set_option maxHeartbeats 4000000
namespace RS
open PySem PySem.Spec PyProof.Rows L2 GX
section
variable {X : Cx} {o e : Expr} {es : List Expr} {to : TE} {t : TA} {name : Str} {apos cpos : Pos} {T id : String} {r : V → List V → Hp → VK → Prop} {K : PySem.W.Frag}
/-- a method called where the frame's own facts are named -/
theorem pe_bmC (eK : X.K = K) (pa : PlainAttrs T) (slot : Slot T name id) (hty : typeOf (.builtin id) = pure (.type "method_descriptor")) (hm : MtR X id r) (ho : PE X o to) (ha : PA X (e :: es) t) (h1 : attributeBase o name X.env (eval o X.env) = eval o X.env := by rfl) (h2 : ((backTo cpos (starEach (e :: es) X.env)).all (fun x => !x.1) && (backToKw cpos (keywordEach [] X.env)).all (fun x => x.1.isSome) && decide ((e :: es).length + ([] : List Keyword).length + (if ([] : List Keyword).isEmpty then 0 else 1) < 30)) = true := by rfl) (h3 : (apos.endLine == cpos.line) = true := by rfl) (h4 : starEach (e :: es) X.env = (false, eval e X.env) :: starEach es X.env := by rfl) (h5 : (backTo cpos (starEach es X.env)).any (·.1) = false := by rfl) : PE X (.Call (.Attribute o name apos) (e :: es) [] cpos) (tBM K T r to t) := by
  subst eK
  exact pe_bm pa slot hty hm ho ha h1 h2 h3 h4 h5
theorem len_seqC (eK : X.K = K) : CallR X (.builtin "len") (fun xs H Q => ∃ p ys, xs = [.ref p] ∧ (SqL K H p ys ∨ SqT K H p ys) ∧ Q (.int ys.length) H) := by
  subst eK
  exact call_len_seq
end
end RS
set_option Elab.async false
set_option maxRecDepth 100000
set_option maxHeartbeats 4000000
namespace RS
open PySem PySem.Spec PyProof.Rows L2 GX
theorem dpAll_tk {K : PySem.W.Frag} {H : Hp} : ∀ {xs : List V} {ds : List PyData}, DpAll K H xs ds → ∀ k : Nat, DpAll K H (xs.take k) (ds.take k) ∧ DpAll K H (xs.drop k) (ds.drop k)
  | _, _, .nil, k => by
    rw [List.take_nil, List.take_nil, List.drop_nil, List.drop_nil]
    exact ⟨.nil, .nil⟩
  | _, _, .cons h t, 0 => ⟨.nil, .cons h t⟩
  | _, _, .cons h t, k + 1 => ⟨.cons h (dpAll_tk t k).1, (dpAll_tk t k).2⟩
theorem dpAll_er {K : PySem.W.Frag} {H : Hp} : ∀ {xs : List V} {ds : List PyData}, DpAll K H xs ds → ∀ k : Nat, DpAll K H (xs.eraseIdx k) (ds.eraseIdx k)
  | _, _, .nil, _ => .nil
  | _, _, .cons _ t, 0 => t
  | _, _, .cons h t, k + 1 => .cons h (dpAll_er t k)
theorem leafs_nats : ∀ l : List Nat, leafs (l.map fun c => PyData.int (c : Nat)) = l
  | [] => rfl
  | c :: l => by
    show [((c : Nat) : Int).toNat] ++ leafs (l.map fun c => PyData.int (c : Nat)) = c :: l
    rw [leafs_nats l, Int.toNat_natCast]
    rfl
theorem leafs_perm {xs ys : List PyData} (p : xs.Perm ys) : (leafs xs).Perm (leafs ys) := by
  induction p with
  | nil => exact List.Perm.refl _
  | cons x _ ih => exact ih.append_left (leaf x)
  | swap x y l =>
    show (leaf y ++ (leaf x ++ leafs l)).Perm (leaf x ++ (leaf y ++ leafs l))
    rw [← List.append_assoc, ← List.append_assoc]
    exact List.perm_append_comm.append_right _
  | trans _ _ h1 h2 => exact h1.trans h2
theorem okPs_perm {w : Nat} {xs ys : List PyData} (p : xs.Perm ys) (h : okPs w xs) : okPs w ys := okPs_iff.mpr fun d hd => okPs_iff.mp h d (p.mem_iff.mpr hd)
end RS
set_option Elab.async false
set_option maxRecDepth 100000
set_option maxHeartbeats 4000000
namespace RS
open PySem PySem.Spec PyProof.Rows L2 GX
/-! ### how many rows a plan moves -/
def wts (L js : List Nat) : Nat := (js.map fun j => L.getD j 0).sum
mutual
def costP (L : List Nat) : PyData → Nat
  | .tuple ds => costPs L ds + wts L (leafs ds)
  | _ => 0
def costPs (L : List Nat) : List PyData → Nat
  | [] => 0
  | d :: ds => costP L d + costPs L ds
end
theorem nsum_app (l m : List Nat) : (l ++ m).sum = l.sum + m.sum := by
  induction l with
  | nil => simp
  | cons x l ih => rw [List.cons_append, List.sum_cons, List.sum_cons, ih]; omega
theorem wts_app (L a b : List Nat) : wts L (a ++ b) = wts L a + wts L b := by
  unfold wts
  rw [List.map_append, nsum_app]
abbrev St2 := List (PyData × Nat)
def entD (q : PyData × Nat) : PyData := .tuple [q.1, .int (q.2 : Nat)]
def tot (L : List Nat) : St2 → Nat
  | [] => 0
  | q :: st => (costP L q.1 + q.2 * wts L (leaf q.1)) + tot L st
theorem tot_app (L : List Nat) : ∀ a b : St2, tot L (a ++ b) = tot L a + tot L b
  | [], b => by simp [tot]
  | q :: a, b => by
    show (costP L q.1 + q.2 * wts L (leaf q.1)) + tot L (a ++ b) = _
    rw [tot_app L a b]
    show _ = ((costP L q.1 + q.2 * wts L (leaf q.1)) + tot L a) + tot L b
    omega
theorem tot_in (L : List Nat) (e : Nat) : ∀ ds : List PyData, tot L (ds.map fun d => (d, e)) = costPs L ds + e * wts L (leafs ds)
  | [] => by simp [tot, costPs, leafs, wts]
  | d :: ds => by
    show (costP L d + e * wts L (leaf d)) + tot L (ds.map fun d => (d, e)) = (costP L d + costPs L ds) + e * wts L (leaf d ++ leafs ds)
    rw [tot_in L e ds, wts_app, Nat.mul_add]
    omega
end RS
set_option Elab.async false
set_option maxRecDepth 100000
set_option maxHeartbeats 4000000
namespace NB
/-! ### trees of weights, merged side by side -/
inductive WT where
  | l : Nat → WT
  | n : List WT → WT
mutual
def fr : WT → List Nat
  | .l a => [a]
  | .n ts => frs ts
def frs : List WT → List Nat
  | [] => []
  | t :: ts => fr t ++ frs ts
end
mutual
def co : WT → Nat
  | .l _ => 0
  | .n ts => cos ts + (frs ts).sum
def cos : List WT → Nat
  | [] => 0
  | t :: ts => co t + cos ts
end
mutual
def okT (w : Nat) : WT → Prop
  | .l _ => True
  | .n ts => 2 ≤ ts.length ∧ ts.length ≤ w ∧ okTs w ts
def okTs (w : Nat) : List WT → Prop
  | [] => True
  | t :: ts => okT w t ∧ okTs w ts
end
theorem frs_app : ∀ a b : List WT, frs (a ++ b) = frs a ++ frs b
  | [], _ => rfl
  | t :: a, b => by
    show fr t ++ frs (a ++ b) = (fr t ++ frs a) ++ frs b
    rw [frs_app a b, List.append_assoc]
theorem cos_app : ∀ a b : List WT, cos (a ++ b) = cos a + cos b
  | [], b => by simp [cos]
  | t :: a, b => by
    show co t + cos (a ++ b) = (co t + cos a) + cos b
    rw [cos_app a b]; omega
theorem okTs_app {w : Nat} : ∀ {a b : List WT}, okTs w (a ++ b) ↔ okTs w a ∧ okTs w b
  | [], b => by simp [okTs]
  | t :: a, b => by
    show okT w t ∧ okTs w (a ++ b) ↔ (okT w t ∧ okTs w a) ∧ okTs w b
    rw [okTs_app (a := a) (b := b), and_assoc]
theorem fr_ne {w : Nat} : ∀ t : WT, okT w t → 1 ≤ (fr t).length
  | .l _, _ => Nat.le_refl _
  | .n [], h => by
    have : 2 ≤ ([] : List WT).length := h.1
    simp at this
  | .n (t :: ts), h => by
    have h3 : okT w t ∧ okTs w ts := h.2.2
    have := fr_ne t h3.1
    show 1 ≤ (fr t ++ frs ts).length
    rw [List.length_append]
    omega
theorem frs_len {w : Nat} : ∀ ts : List WT, okTs w ts → ts.length ≤ (frs ts).length
  | [], _ => Nat.le_refl _
  | t :: ts, h => by
    have h1 := fr_ne t h.1
    have h2 := frs_len ts h.2
    show ts.length + 1 ≤ (fr t ++ frs ts).length
    rw [List.length_append]
    omega
/-! ### turned about -/
mutual
def mir : WT → WT
  | .l a => .l a
  | .n ts => .n (mirs ts)
def mirs : List WT → List WT
  | [] => []
  | t :: ts => mirs ts ++ [mir t]
end
theorem mirs_len : ∀ ts : List WT, (mirs ts).length = ts.length
  | [] => rfl
  | t :: ts => by
    show (mirs ts ++ [mir t]).length = _
    rw [List.length_append, mirs_len ts]
    rfl
mutual
theorem fr_mir : ∀ t : WT, fr (mir t) = (fr t).reverse
  | .l _ => rfl
  | .n ts => frs_mir ts
theorem frs_mir : ∀ ts : List WT, frs (mirs ts) = (frs ts).reverse
  | [] => rfl
  | t :: ts => by
    show frs (mirs ts ++ [mir t]) = (fr t ++ frs ts).reverse
    rw [frs_app, List.reverse_append, frs_mir ts]
    show _ ++ (fr (mir t) ++ []) = _
    rw [List.append_nil, fr_mir t]
end
theorem nsum_rev : ∀ l : List Nat, l.reverse.sum = l.sum := fun l => (List.reverse_perm l).sum_nat
mutual
theorem co_mir : ∀ t : WT, co (mir t) = co t
  | .l _ => rfl
  | .n ts => by
    show cos (mirs ts) + (frs (mirs ts)).sum = cos ts + (frs ts).sum
    rw [cos_mir ts, frs_mir ts, nsum_rev]
theorem cos_mir : ∀ ts : List WT, cos (mirs ts) = cos ts
  | [] => rfl
  | t :: ts => by
    show cos (mirs ts ++ [mir t]) = co t + cos ts
    rw [cos_app, cos_mir ts]
    show cos ts + (co (mir t) + 0) = _
    rw [co_mir t]; omega
end
mutual
theorem ok_mir {w : Nat} : ∀ t : WT, okT w t → okT w (mir t)
  | .l _, _ => trivial
  | .n ts, h => by
    have h : 2 ≤ ts.length ∧ ts.length ≤ w ∧ okTs w ts := h
    show 2 ≤ (mirs ts).length ∧ (mirs ts).length ≤ w ∧ okTs w (mirs ts)
    rw [mirs_len]
    exact ⟨h.1, h.2.1, oks_mir ts h.2.2⟩
theorem oks_mir {w : Nat} : ∀ ts : List WT, okTs w ts → okTs w (mirs ts)
  | [], _ => trivial
  | t :: ts, h => by
    show okTs w (mirs ts ++ [mir t])
    exact okTs_app.mpr ⟨oks_mir ts h.2, ok_mir t h.1, trivial⟩
end
/-- the fewest that a tree of neighbours comes to -/
structure Opt (w : Nat) (L : List Nat) (v : Nat) : Prop where
  is : ∃ t, okT w t ∧ fr t = L ∧ co t = v
  lb : ∀ t, okT w t → fr t = L → v ≤ co t
theorem Opt.uniq {w : Nat} {L : List Nat} {u v : Nat} (a : Opt w L u) (b : Opt w L v) : u = v := by
  obtain ⟨t, h1, h2, h3⟩ := a.is
  obtain ⟨s, g1, g2, g3⟩ := b.is
  have := a.lb s g1 g2
  have := b.lb t h1 h2
  omega
theorem Opt.rev {w : Nat} {L : List Nat} {v : Nat} (a : Opt w L v) : Opt w L.reverse v := by
  obtain ⟨t, h1, h2, h3⟩ := a.is
  refine ⟨⟨mir t, ok_mir t h1, by rw [fr_mir, h2], by rw [co_mir, h3]⟩, fun s g1 g2 => ?_⟩
  have := a.lb (mir s) (ok_mir s g1) (by rw [fr_mir, g2, List.reverse_reverse])
  rw [co_mir] at this
  exact this
theorem Opt.one {w a : Nat} : Opt w [a] 0 := ⟨⟨.l a, trivial, rfl, rfl⟩, fun _ _ _ => Nat.zero_le _⟩
/-! ### some neighbours made one -/
/-- one leaf's place taken by leaves -/
theorem split_at {a : Nat} : ∀ {x y pre post : List Nat}, x ++ y = pre ++ a :: post → (∃ p, x = pre ++ a :: p ∧ post = p ++ y) ∨ (∃ p, pre = x ++ p ∧ y = p ++ a :: post)
  | [], y, pre, post, h => .inr ⟨pre, rfl, h⟩
  | z :: x, y, [], post, h => by
    have h := List.cons.inj h
    exact .inl ⟨x, by rw [h.1]; rfl, h.2.symm⟩
  | z :: x, y, q :: pre, post, h => by
    have h := List.cons.inj h
    rcases split_at h.2 with ⟨p, h1, h2⟩ | ⟨p, h1, h2⟩
    · exact .inl ⟨p, by rw [h.1, h1]; rfl, h2⟩
    · exact .inr ⟨p, by rw [h.1, h1]; rfl, h2⟩
mutual
theorem grow {w : Nat} (as : List Nat) (h2 : 2 ≤ as.length) (hw : as.length ≤ w) : ∀ (t : WT) (pre post : List Nat), okT w t → fr t = pre ++ as.sum :: post → ∃ t', okT w t' ∧ fr t' = pre ++ as ++ post ∧ co t' = co t + as.sum
  | .l a, pre, post, _, h => by
    have h : [a] = pre ++ as.sum :: post := h
    have : pre = [] ∧ post = [] := by
      have := congrArg List.length h
      simp at this
      exact ⟨List.length_eq_zero_iff.mp (by omega), List.length_eq_zero_iff.mp (by omega)⟩
    obtain ⟨rfl, rfl⟩ := this
    have frm : ∀ as : List Nat, frs (as.map WT.l) = as := by
      intro as
      induction as with
      | nil => rfl
      | cons a as ih => show [a] ++ frs (as.map WT.l) = _; rw [ih]; rfl
    have com : ∀ as : List Nat, cos (as.map WT.l) = 0 := by
      intro as
      induction as with
      | nil => rfl
      | cons a as ih => show 0 + cos (as.map WT.l) = _; rw [ih]
    have okm : ∀ as : List Nat, okTs w (as.map WT.l) := by
      intro as
      induction as with
      | nil => trivial
      | cons a as ih => exact ⟨trivial, ih⟩
    refine ⟨.n (as.map WT.l), ⟨by rw [List.length_map]; exact h2, by rw [List.length_map]; exact hw, okm as⟩, ?_, ?_⟩
    · show frs (as.map WT.l) = _
      rw [frm]; simp
    · show cos (as.map WT.l) + (frs (as.map WT.l)).sum = 0 + _
      rw [frm, com]
  | .n ts, pre, post, ok, h => by
    have ok : 2 ≤ ts.length ∧ ts.length ≤ w ∧ okTs w ts := ok
    obtain ⟨ts', o1, o2, o3, o4⟩ := grows as h2 hw ts pre post ok.2.2 h
    refine ⟨.n ts', ⟨by rw [o4]; exact ok.1, by rw [o4]; exact ok.2.1, o1⟩, o2, ?_⟩
    show cos ts' + (frs ts').sum = (cos ts + (frs ts).sum) + as.sum
    have e : (frs ts').sum = (frs ts).sum := by
      rw [o2, show frs ts = pre ++ as.sum :: post from h]
      simp only [List.sum_append_nat, List.sum_cons]
      omega
    rw [o3, e]
    omega
theorem grows {w : Nat} (as : List Nat) (h2 : 2 ≤ as.length) (hw : as.length ≤ w) : ∀ (ts : List WT) (pre post : List Nat), okTs w ts → frs ts = pre ++ as.sum :: post → ∃ ts', okTs w ts' ∧ frs ts' = pre ++ as ++ post ∧ cos ts' = cos ts + as.sum ∧ ts'.length = ts.length
  | [], pre, post, _, h => by
    have h : [] = pre ++ as.sum :: post := h
    simp at h
  | t :: ts, pre, post, ok, h => by
    have h : fr t ++ frs ts = pre ++ as.sum :: post := h
    rcases split_at h with ⟨p, h1, h3⟩ | ⟨p, h1, h3⟩
    · obtain ⟨t', o1, o2, o3⟩ := grow as h2 hw t pre p ok.1 h1
      refine ⟨t' :: ts, ⟨o1, ok.2⟩, ?_, ?_, rfl⟩
      · show fr t' ++ frs ts = _
        rw [o2, h3]; simp
      · show co t' + cos ts = (co t + cos ts) + as.sum
        rw [o3]; omega
    · obtain ⟨ts', o1, o2, o3, o4⟩ := grows as h2 hw ts p post ok.2 h3
      refine ⟨t :: ts', ⟨ok.1, o1⟩, ?_, ?_, by rw [List.length_cons, List.length_cons, o4]⟩
      · show fr t ++ frs ts' = _
        rw [o2, h1]; simp
      · show co t + cos ts' = (co t + cos ts) + as.sum
        rw [o3]; omega
end
mutual
/-- a tree that is no leaf has some leaves alone under one node -/
theorem shrink {w : Nat} : ∀ (t : WT), okT w t → 2 ≤ (fr t).length → ∃ pre as post t', 2 ≤ as.length ∧ as.length ≤ w ∧ fr t = pre ++ as ++ post ∧ okT w t' ∧ fr t' = pre ++ as.sum :: post ∧ co t = co t' + as.sum
  | .l _, _, h => by
    have : 2 ≤ ([0] : List Nat).length := h
    simp at this
  | .n ts, ok, _ => by
    have ok : 2 ≤ ts.length ∧ ts.length ≤ w ∧ okTs w ts := ok
    rcases shrinks ts ok.2.2 with e | ⟨pre, as, post, ts', a1, a2, a3, a4, a5, a6, a7⟩
    · refine ⟨[], frs ts, [], .l (frs ts).sum, by rw [e.2]; exact ok.1, by rw [e.2]; exact ok.2.1, by simp [fr], trivial, rfl, ?_⟩
      show cos ts + (frs ts).sum = 0 + _
      rw [e.1]
    · refine ⟨pre, as, post, .n ts', a1, a2, a3, ⟨by rw [a7]; exact ok.1, by rw [a7]; exact ok.2.1, a4⟩, a5, ?_⟩
      show cos ts + (frs ts).sum = (cos ts' + (frs ts').sum) + as.sum
      have e : (frs ts').sum = (frs ts).sum := by
        rw [a5, a3]
        simp only [List.sum_append_nat, List.sum_cons]
        omega
      rw [a6, e]
      omega
theorem shrinks {w : Nat} : ∀ (ts : List WT), okTs w ts → (cos ts = 0 ∧ (frs ts).length = ts.length) ∨ ∃ pre as post ts', 2 ≤ as.length ∧ as.length ≤ w ∧ frs ts = pre ++ as ++ post ∧ okTs w ts' ∧ frs ts' = pre ++ as.sum :: post ∧ cos ts = cos ts' + as.sum ∧ ts'.length = ts.length
  | [], _ => .inl ⟨rfl, rfl⟩
  | .l a :: ts, ok => by
    rcases shrinks ts ok.2 with e | ⟨pre, as, post, ts', a1, a2, a3, a4, a5, a6, a7⟩
    · refine .inl ⟨?_, ?_⟩
      · show 0 + cos ts = 0
        rw [e.1]
      · show ([a] ++ frs ts).length = ts.length + 1
        rw [List.length_append, e.2, List.length_singleton]; omega
    · refine .inr ⟨a :: pre, as, post, .l a :: ts', a1, a2, ?_, ⟨trivial, a4⟩, ?_, ?_, by rw [List.length_cons, List.length_cons, a7]⟩
      · show [a] ++ frs ts = _
        rw [a3]; rfl
      · show [a] ++ frs ts' = _
        rw [a5]; rfl
      · show 0 + cos ts = (0 + cos ts') + as.sum
        rw [a6]; omega
  | .n us :: ts, ok => by
    have oku : 2 ≤ us.length ∧ us.length ≤ w ∧ okTs w us := ok.1
    have hl := frs_len us oku.2.2
    obtain ⟨pre, as, post, t', a1, a2, a3, a4, a5, a6⟩ := shrink (.n us) ok.1 (by show 2 ≤ (frs us).length; omega)
    refine .inr ⟨pre, as, post ++ frs ts, t' :: ts, a1, a2, ?_, ⟨a4, ok.2⟩, ?_, ?_, rfl⟩
    · show fr (.n us) ++ frs ts = _
      rw [a3]; simp
    · show fr t' ++ frs ts = _
      rw [a5]; simp
    · show co (.n us) + cos ts = (co t' + cos ts) + as.sum
      rw [a6]; omega
end
/-- the fewest of a whole: the fewest of what some neighbours made one leave, and their sum -/
theorem Opt.step {w : Nat} {L : List Nat} {v : Nat} (o : Opt w L v) {pre as post : List Nat} (e : L = pre ++ as ++ post) (h2 : 2 ≤ as.length) (hw : as.length ≤ w) {u : Nat} (p : Opt w (pre ++ as.sum :: post) u) : v ≤ u + as.sum := by
  obtain ⟨t, h1, h3, h4⟩ := p.is
  obtain ⟨t', g1, g2, g3⟩ := grow as h2 hw t pre post h1 h3
  have := o.lb t' g1 (by rw [g2, e])
  omega
theorem Opt.some {w : Nat} {L : List Nat} {v : Nat} (o : Opt w L v) (h : 2 ≤ L.length) : ∃ pre as post, L = pre ++ as ++ post ∧ 2 ≤ as.length ∧ as.length ≤ w ∧ ∀ u, Opt w (pre ++ as.sum :: post) u → u + as.sum ≤ v := by
  obtain ⟨t, h1, h3, h4⟩ := o.is
  obtain ⟨pre, as, post, t', a1, a2, a3, a4, a5, a6⟩ := shrink t h1 (by rw [h3]; exact h)
  refine ⟨pre, as, post, by rw [← h3, a3], a1, a2, fun u p => ?_⟩
  have := p.lb t' a4 a5
  omega
end NB
set_option Elab.async false
set_option maxRecDepth 100000
set_option maxHeartbeats 4000000
namespace NB
open RS PySem
/-- a stretch of a row of lengths -/
def sl (L : List Nat) (b e : Nat) : List Nat := (L.take e).drop b
theorem sl_len {L : List Nat} {b e : Nat} (h : e ≤ L.length) : (sl L b e).length = e - b := by
  unfold sl
  rw [List.length_drop, List.length_take, Nat.min_eq_left h]
theorem sl_app {L : List Nat} {b c e : Nat} (h1 : b ≤ c) (h2 : c ≤ e) (h3 : e ≤ L.length) : sl L b c ++ sl L c e = sl L b e := by
  unfold sl
  have e1 : L.take e = L.take c ++ (L.take e).drop c := by
    conv => lhs; rw [← List.take_append_drop c (L.take e), List.take_take, Nat.min_eq_left h2]
  conv => rhs; rw [e1, List.drop_append_of_le_length (by rw [List.length_take]; omega)]
theorem sl_all (L : List Nat) : sl L 0 L.length = L := by
  unfold sl
  rw [List.take_length, List.drop_zero]
theorem sl_one {L : List Nat} {b : Nat} (h : b < L.length) : ∃ a, sl L b (b + 1) = [a] := by
  have := sl_len (L := L) (b := b) (e := b + 1) (by omega)
  match hs : sl L b (b + 1) with
  | [a] => exact ⟨a, rfl⟩
  | [] => rw [hs] at this; simp at this
  | _ :: _ :: _ => rw [hs] at this; simp at this
/-- a split of a stretch is at a place -/
theorem sl_cut {L x y : List Nat} {b e : Nat} (he : e ≤ L.length) (hb : b ≤ e) (h : x ++ y = sl L b e) : x = sl L b (b + x.length) ∧ y = sl L (b + x.length) e ∧ b + x.length ≤ e := by
  have hl := congrArg List.length h
  rw [List.length_append, sl_len he] at hl
  have hc : b + x.length ≤ e := by omega
  have e1 := sl_app (L := L) (b := b) (c := b + x.length) (e := e) (by omega) hc he
  rw [← e1] at h
  have := List.append_inj h (by rw [sl_len (by omega)]; omega)
  exact ⟨this.1, this.2, hc⟩
/-- the fewest that some trees side by side come to -/
structure Popt (w : Nat) (L : List Nat) (lo hi : Nat) (v : Nat) : Prop where
  is : ∃ ts, okTs w ts ∧ frs ts = L ∧ lo ≤ ts.length ∧ ts.length ≤ hi ∧ cos ts = v
  lb : ∀ ts, okTs w ts → frs ts = L → lo ≤ ts.length → ts.length ≤ hi → v ≤ cos ts
theorem Popt.one {w : Nat} {L : List Nat} {v : Nat} (o : Opt w L v) : Popt w L 1 1 v := by
  obtain ⟨t, h1, h2, h3⟩ := o.is
  refine ⟨⟨[t], ⟨h1, trivial⟩, by show fr t ++ [] = L; rw [List.append_nil, h2], Nat.le_refl _, Nat.le_refl _, by show co t + 0 = v; omega⟩, fun ts h1 h2 h3 h4 => ?_⟩
  match ts, h1, h2, h3, h4 with
  | [t], h1, h2, _, _ =>
    have h2 : fr t ++ [] = L := h2
    rw [List.append_nil] at h2
    exact o.lb t h1.1 h2
  | [], _, _, h3, _ => simp at h3
  | _ :: _ :: _, _, _, _, h4 => simp at h4
section
variable {w : Nat} {L : List Nat} {f : Nat → Nat → Int} {g : Nat → Nat → Int × Int}
theorem cands_opt {b e h : Nat} (he : e ≤ L.length) (hb : b + 2 ≤ e) (hf : ∀ c, b < c → c < e → ∃ v : Nat, f b c = (v : Int) ∧ Opt w (sl L b c) v) (hg : ∀ c, b < c → c < e → ∃ v : Nat, (g c e).1 = (v : Int) ∧ Popt w (sl L c e) 1 h v) :
    ∃ v : Nat, (lstF (cands f g b e)).1 = (v : Int) ∧ Popt w (sl L b e) 2 (h + 1) v := by
  obtain ⟨m1, m2⟩ := lstF_ok (cands_ne (f := f) (g := g) hb)
  obtain ⟨c, c1, c2, ec⟩ := cands_mem.mp m1
  obtain ⟨v1, f1, o1⟩ := hf c c1 c2
  obtain ⟨v2, g1, o2⟩ := hg c c1 c2
  refine ⟨v1 + v2, ?_, ?_, fun ts h1 h2 h3 h4 => ?_⟩
  · rw [ec, f1, g1]; rfl
  · obtain ⟨t, a1, a2, a3⟩ := o1.is
    obtain ⟨ts, b1, b2, b3, b4, b5⟩ := o2.is
    refine ⟨t :: ts, ⟨a1, b1⟩, ?_, ?_, ?_, ?_⟩
    · show fr t ++ frs ts = _
      rw [a2, b2, sl_app (by omega) (by omega) he]
    · rw [List.length_cons]; omega
    · rw [List.length_cons]; omega
    · show co t + cos ts = _
      rw [a3, b5]
  · match ts, h1, h2, h3, h4 with
    | [], _, _, h3, _ => simp at h3
    | t :: us, h1, h2, h3, h4 =>
      rw [List.length_cons] at h3 h4
      have h2 : fr t ++ frs us = sl L b e := h2
      obtain ⟨x1, x2, x3⟩ := sl_cut he (by omega) h2
      have n1 := fr_ne t h1.1
      have n2 := frs_len us h1.2
      have hl : (frs us).length = e - (b + (fr t).length) := by
        conv => lhs; rw [x2]
        exact sl_len he
      generalize b + (fr t).length = c' at x1 x2 x3 hl
      have hc1 : b < c' := by
        have : (fr t).length = c' - b := by
          conv => lhs; rw [x1]
          exact sl_len (by omega)
        omega
      have hc2 : c' < e := by omega
      obtain ⟨u1, f2, p1⟩ := hf c' hc1 hc2
      obtain ⟨u2, g2, p2⟩ := hg c' hc1 hc2
      have l1 := p1.lb t h1.1 x1
      have l2 := p2.lb us h1.2 x2 (by omega) (by omega)
      have l3 := plt_no.mp (m2 _ (cands_mem.mpr ⟨c', hc1, hc2, rfl⟩))
      rw [ec, f1, g1, f2, g2] at l3
      show v1 + v2 ≤ co t + cos us
      have : ((v1 + v2 : Nat) : Int) ≤ ((u1 + u2 : Nat) : Int) := by
        rw [Int.natCast_add, Int.natCast_add]
        rcases l3 with z | z
        · exact Int.le_of_lt z
        · exact Int.le_of_eq z.1.symm
      omega
theorem pt_opt {n : Nat} (H : ∀ x y, x < y → y ≤ L.length → y - x ≤ n → ∃ v : Nat, f x y = (v : Int) ∧ Opt w (sl L x y) v) : ∀ (p : Nat) {b e : Nat}, b < e → e ≤ L.length → e - b ≤ n → ∃ v : Nat, (pt f p b e).1 = (v : Int) ∧ Popt w (sl L b e) 1 (p + 1) v
  | 0, b, e, h1, h2, h3 => by
    obtain ⟨v, a, o⟩ := H b e h1 h2 h3
    exact ⟨v, a, .one o⟩
  | p + 1, b, e, h1, h2, h3 => by
    obtain ⟨v, a, o⟩ := H b e h1 h2 h3
    have o1 := Popt.one o
    rw [pt]
    by_cases hb : 1 < e - b
    · rw [if_pos hb]
      obtain ⟨u, c, q⟩ := cands_opt (w := w) (L := L) (f := f) (g := pt f p) (h := p + 1) h2 (by omega) (fun c c1 c2 => H b c c1 (by omega) (by omega)) (fun c c1 c2 => pt_opt H p c2 h2 (by omega))
      by_cases hl : plt (lstF (cands f (pt f p) b e)) (f b e, (e : Int)) = true
      · rw [if_pos hl]
        refine ⟨u, c, ?_, fun ts g1 g2 g3 g4 => ?_⟩
        · obtain ⟨ts, b1, b2, b3, b4, b5⟩ := q.is
          exact ⟨ts, b1, b2, by omega, b4, b5⟩
        · have hno := plt_iff.mp hl
          rw [c, a] at hno
          by_cases h : 2 ≤ ts.length
          · exact q.lb ts g1 g2 h g4
          · have h5 := o1.lb ts g1 g2 g3 (by omega)
            have : (u : Int) ≤ (v : Int) := by
              rcases hno with z | z
              · exact Int.le_of_lt z
              · exact Int.le_of_eq z.1
            omega
      · rw [if_neg hl]
        refine ⟨v, a, ?_, fun ts g1 g2 g3 g4 => ?_⟩
        · obtain ⟨ts, b1, b2, b3, b4, b5⟩ := o1.is
          exact ⟨ts, b1, b2, b3, by omega, b5⟩
        · have hno := plt_no.mp (Bool.eq_false_iff.mpr hl)
          rw [c, a] at hno
          by_cases h : 2 ≤ ts.length
          · have h5 := q.lb ts g1 g2 h g4
            have : (v : Int) ≤ (u : Int) := by
              rcases hno with z | z
              · exact Int.le_of_lt z
              · exact Int.le_of_eq z.1.symm
            omega
          · exact o1.lb ts g1 g2 g3 (by omega)
    · rw [if_neg hb]
      refine ⟨v, a, ?_, fun ts g1 g2 g3 g4 => ?_⟩
      · obtain ⟨ts, b1, b2, b3, b4, b5⟩ := o1.is
        exact ⟨ts, b1, b2, b3, by omega, b5⟩
      · have n2 := frs_len ts g1
        rw [g2, sl_len h2] at n2
        exact o1.lb ts g1 g2 g3 (by omega)
end
theorem numC_opt {L : List Nat} {w : Nat} (hw : 2 ≤ w) : ∀ (n : Nat) {b e : Nat}, b < e → e ≤ L.length → e - b ≤ n → ∃ v : Nat, numC L w b e = (v : Int) ∧ Opt w (sl L b e) v
  | 0, b, e, h1, _, h3 => by omega
  | n + 1, b, e, h1, h2, h3 => by
    by_cases h : e = b + 1
    · subst h
      obtain ⟨a, ea⟩ := sl_one (L := L) (b := b) (by omega)
      rw [ea, numC_one]
      exact ⟨0, rfl, .one⟩
    · have H : ∀ x y, x < y → y ≤ L.length → y - x ≤ n → ∃ v : Nat, numC L w x y = (v : Int) ∧ Opt w (sl L x y) v := fun x y a1 a2 a3 => numC_opt hw n a1 a2 a3
      obtain ⟨v, a, o⟩ := cands_opt (w := w) (L := L) (f := numC L w) (g := pt (numC L w) (w - 2)) (h := w - 2 + 1) h2 (by omega) (fun c c1 c2 => H b c c1 (by omega) (by omega)) (fun c c1 c2 => pt_opt H (w - 2) c2 h2 (by omega))
      rw [numC_lim (by omega)]
      refine ⟨(sl L b e).sum + v, ?_, ?_, fun t g1 g2 => ?_⟩
      · unfold limT leastT
        rw [a]
        rfl
      · obtain ⟨ts, b1, b2, b3, b4, b5⟩ := o.is
        refine ⟨.n ts, ⟨b3, by omega, b1⟩, b2, ?_⟩
        show cos ts + (frs ts).sum = _
        rw [b2, b5]; omega
      · have ls := sl_len (L := L) (b := b) (e := e) h2
        match t, g1, g2 with
        | .l a, _, g2 =>
          have g2 : [a] = sl L b e := g2
          rw [← g2] at ls
          simp at ls
          omega
        | .n ts, g1, g2 =>
          have g1 : 2 ≤ ts.length ∧ ts.length ≤ w ∧ okTs w ts := g1
          have g2 : frs ts = sl L b e := g2
          have := o.lb ts g1.2.2 g2 g1.1 (by omega)
          show (sl L b e).sum + v ≤ cos ts + (frs ts).sum
          rw [g2]; omega
theorem numC_all {L : List Nat} {w : Nat} (hw : 2 ≤ w) (h : 1 ≤ L.length) : ∃ v : Nat, numC L w 0 L.length = (v : Int) ∧ Opt w L v := by
  obtain ⟨v, a, o⟩ := numC_opt (L := L) hw L.length (b := 0) (e := L.length) (by omega) (Nat.le_refl _) (by omega)
  rw [sl_all] at o
  exact ⟨v, a, o⟩
end NB
set_option Elab.async false
set_option maxRecDepth 100000
set_option maxHeartbeats 4000000
namespace NB
open RS PySem
theorem map_sl {L : List Nat} {b e : Nat} (h : e ≤ L.length) : (List.range' b (e - b)).map (fun j => L.getD j 0) = sl L b e := by
  apply List.ext_getElem?
  intro i
  unfold sl
  rw [List.getElem?_map, List.getElem?_drop, List.getElem?_take]
  by_cases hi : i < e - b
  · rw [List.getElem?_range' hi, if_pos (by omega)]
    show some (L.getD (b + 1 * i) 0) = L[b + i]?
    rw [Nat.one_mul, List.getD_eq_getElem?_getD, List.getElem?_eq_getElem (by omega)]
    rfl
  · rw [List.getElem?_eq_none (by rw [List.length_range']; omega), if_neg (by omega)]
    rfl
theorem wts_sl {L : List Nat} {b e : Nat} (h : e ≤ L.length) : wts L (List.range' b (e - b)) = (sl L b e).sum := by
  unfold wts
  rw [map_sl h]
section
variable {L : List Nat} {f : Nat → Nat → Int} {g : Nat → Nat → PyData}
theorem rest_cost {k e : Nat} (hc : ∀ x y, k ≤ x → x < y → y ≤ e → ((costP L (g x y) : Nat) : Int) = f x y) : ∀ (p : Nat) {c : Nat}, k ≤ c → c < e → ((costPs L (restT f g p c e) : Nat) : Int) = (pt f p c e).1
  | 0, c, h1, h2 => by
    show ((costP L (g c e) + 0 : Nat) : Int) = f c e
    rw [Nat.add_zero, hc c e h1 h2 (Nat.le_refl _)]
  | p + 1, c, h1, h2 => by
    rw [restT]
    have one : ∀ x : Nat, (pt f (p + 1) c e) = (f c e, (e : Int)) → ((costPs L (g c (cutP f (p + 1) c e) :: (if cutP f (p + 1) c e < e then restT f g p (cutP f (p + 1) c e) e else [])) : Nat) : Int) = (pt f (p + 1) c e).1 := fun _ hp => by
      have hcut : cutP f (p + 1) c e = e := by unfold cutP; rw [hp]; rfl
      rw [hcut, if_neg (by omega), hp]
      show ((costP L (g c e) + 0 : Nat) : Int) = f c e
      rw [Nat.add_zero, hc c e h1 h2 (Nat.le_refl _)]
    by_cases a : 1 < e - c
    · by_cases b : plt (lstF (cands f (pt f p) c e)) (f c e, (e : Int)) = true
      · have hp : pt f (p + 1) c e = lstF (cands f (pt f p) c e) := by rw [pt, if_pos a, if_pos b]
        obtain ⟨m1, _⟩ := lstF_ok (cands_ne (f := f) (g := pt f p) (b := c) (e := e) (by omega))
        obtain ⟨x, x1, x2, ex⟩ := cands_mem.mp m1
        have hcut : cutP f (p + 1) c e = x := by unfold cutP; rw [hp, ex]; rfl
        rw [hcut, if_pos x2, hp, ex]
        show ((costP L (g c x) + costPs L (restT f g p x e) : Nat) : Int) = f c x + (pt f p x e).1
        rw [Int.natCast_add, hc c x h1 x1 (by omega), rest_cost hc p (by omega) x2]
      · exact one 0 (by rw [pt, if_pos a, if_neg b])
    · exact one 0 (by rw [pt, if_neg a])
end
theorem plan_cost {L : List Nat} {w : Nat} (hw : 2 ≤ w) (h4 : L.length ≤ 40) : ∀ (n : Nat) {b e : Nat}, b < e → e ≤ L.length → e - b ≤ n + 1 → ((costP L (planT (numC L w) w n b e) : Nat) : Int) = numC L w b e
  | 0, b, e, h1, h2, h3 => by
    have : e = b + 1 := by omega
    subst this
    rw [numC_one]
    rfl
  | n + 1, b, e, h1, h2, h3 => by
    by_cases h : e - b ≤ 1
    · have : e = b + 1 := by omega
      subst this
      rw [numC_one, planT, if_pos h]
      rfl
    · have ok := planT_ok (f := numC L w) hw (n := n + 1) h1 (by omega) h3
      have hl := ok.2
      rw [planT, if_neg h] at hl ⊢
      have hl : leafs (planT (numC L w) w n b (cutL (numC L w) (w - 2) b e) :: restT (numC L w) (planT (numC L w) w n) (w - 2) (cutL (numC L w) (w - 2) b e) e) = List.range' b (e - b) := hl
      show ((costPs L (planT (numC L w) w n b (cutL (numC L w) (w - 2) b e) :: restT (numC L w) (planT (numC L w) w n) (w - 2) (cutL (numC L w) (w - 2) b e) e) + wts L (leafs (planT (numC L w) w n b (cutL (numC L w) (w - 2) b e) :: restT (numC L w) (planT (numC L w) w n) (w - 2) (cutL (numC L w) (w - 2) b e) e)) : Nat) : Int) = _
      rw [hl, wts_sl h2, numC_lim (by omega)]
      unfold limT
      obtain ⟨m1, _⟩ := lstF_ok (cands_ne (f := numC L w) (g := pt (numC L w) (w - 2)) (b := b) (e := e) (by omega))
      obtain ⟨x, x1, x2, ex⟩ := cands_mem.mp m1
      have hcut : cutL (numC L w) (w - 2) b e = x := by unfold cutL leastT; rw [ex]; rfl
      have hle : leastT (numC L w) (w - 2) b e = (numC L w b x + (pt (numC L w) (w - 2) x e).1, (x : Int)) := ex
      rw [hcut, hle]
      show ((costP L (planT (numC L w) w n b x) + costPs L (restT (numC L w) (planT (numC L w) w n) (w - 2) x e) + (sl L b e).sum : Nat) : Int) = ((sl L b e).sum : Nat) + (numC L w b x + (pt (numC L w) (w - 2) x e).1)
      rw [Int.natCast_add, Int.natCast_add, plan_cost hw h4 n x1 (by omega) (by omega), rest_cost (k := b + 1) (fun a c a1 a2 a3 => plan_cost hw h4 n a2 (by omega) (by omega)) (w - 2) (by omega) x2]
      exact Int.add_comm _ _
/-! ### a plan as a tree of weights -/
mutual
def toW (L : List Nat) : PyData → WT
  | .tuple ds => .n (toWs L ds)
  | .int i => .l (L.getD i.toNat 0)
  | _ => .l 0
def toWs (L : List Nat) : List PyData → List WT
  | [] => []
  | d :: ds => toW L d :: toWs L ds
end
theorem toWs_len (L : List Nat) : ∀ ds : List PyData, (toWs L ds).length = ds.length
  | [] => rfl
  | d :: ds => by
    show (toWs L ds).length + 1 = ds.length + 1
    rw [toWs_len L ds]
mutual
theorem fr_toW {L : List Nat} {m : Nat} : ∀ d : PyData, okP m d → fr (toW L d) = (leaf d).map (fun j => L.getD j 0) ∧ co (toW L d) = costP L d ∧ okT m (toW L d)
  | .int i, _ => ⟨rfl, rfl, trivial⟩
  | .tuple ds, h => by
    unfold okP at h
    obtain ⟨a, b, c⟩ := frs_toW ds h.2.2
    refine ⟨a, ?_, ⟨by rw [toWs_len]; exact h.1, by rw [toWs_len]; exact h.2.1, c⟩⟩
    show cos (toWs L ds) + (frs (toWs L ds)).sum = costPs L ds + wts L (leafs ds)
    rw [a, b]
    rfl
  | .none, h => by simp [okP] at h
  | .bool _, h => by simp [okP] at h
  | .str _, h => by simp [okP] at h
  | .list _, h => by simp [okP] at h
  | .dict _, h => by simp [okP] at h
theorem frs_toW {L : List Nat} {m : Nat} : ∀ ds : List PyData, okPs m ds → frs (toWs L ds) = (leafs ds).map (fun j => L.getD j 0) ∧ cos (toWs L ds) = costPs L ds ∧ okTs m (toWs L ds)
  | [], _ => ⟨rfl, rfl, trivial⟩
  | d :: ds, h => by
    unfold okPs at h
    obtain ⟨a1, b1, c1⟩ := fr_toW (L := L) d h.1
    obtain ⟨a2, b2, c2⟩ := frs_toW (L := L) ds h.2
    refine ⟨?_, ?_, c1, c2⟩
    · show fr (toW L d) ++ frs (toWs L ds) = (leaf d ++ leafs ds).map _
      rw [a1, a2, List.map_append]
    · show co (toW L d) + cos (toWs L ds) = costP L d + costPs L ds
      rw [b1, b2]
end
/-- a plan of neighbours -/
structure SidePlan (n w : Nat) (d : PyData) : Prop where
  ok : okP w d
  all : leaf d = List.range n
theorem Opt.plan {L : List Nat} {w v : Nat} {d : PyData} (o : Opt w L v) (p : SidePlan L.length w d) : v ≤ costP L d := by
  obtain ⟨a, b, c⟩ := fr_toW (L := L) d p.ok
  rw [← b]
  refine o.lb _ c ?_
  rw [a, p.all, List.range_eq_range']
  have := map_sl (L := L) (b := 0) (e := L.length) (Nat.le_refl _)
  rw [Nat.sub_zero] at this
  rw [this, sl_all]
/-- the fewest of all -/
def optN (L : List Nat) (w : Nat) : Nat := (numC L w 0 L.length).toNat
theorem optN_ok {L : List Nat} {w : Nat} (hw : 2 ≤ w) (h : 1 ≤ L.length) : numC L w 0 L.length = (optN L w : Int) ∧ Opt w L (optN L w) := by
  obtain ⟨v, a, o⟩ := numC_all (L := L) hw h
  have e : optN L w = v := by unfold optN; rw [a]; rfl
  rw [e]
  exact ⟨a, o⟩
theorem optN_rev {L : List Nat} {w : Nat} (hw : 2 ≤ w) (h : 1 ≤ L.length) : optN L.reverse w = optN L w :=
  (optN_ok (L := L.reverse) hw (by rw [List.length_reverse]; exact h)).2.uniq (optN_ok hw h).2.rev
/-- one of some neighbours made one -/
def joinAt (L : List Nat) (at' m : Nat) : List Nat := L.take at' ++ (sl L at' (at' + m)).sum :: L.drop (at' + m)
theorem join_len {L : List Nat} {a m : Nat} (h : a + m ≤ L.length) (h1 : 1 ≤ m) : (joinAt L a m).length + m = L.length + 1 := by
  unfold joinAt
  rw [List.length_append, List.length_cons, List.length_take, List.length_drop]
  omega
theorem join_is {L : List Nat} {a m : Nat} (h : a + m ≤ L.length) : L = L.take a ++ sl L a (a + m) ++ L.drop (a + m) := by
  have e : L.take a ++ sl L a (a + m) = L.take (a + m) := by
    unfold sl
    conv => rhs; rw [← List.take_append_drop a (L.take (a + m)), List.take_take, Nat.min_eq_left (by omega)]
  rw [e, List.take_append_drop]
theorem optN_le {L : List Nat} {w a m : Nat} (hw : m ≤ w) (h2 : 2 ≤ m) (h : a + m ≤ L.length) : optN L w ≤ optN (joinAt L a m) w + (sl L a (a + m)).sum := by
  have hj := join_len h (by omega)
  have ls : (sl L a (a + m)).length = m := by rw [sl_len h]; omega
  exact (optN_ok (L := L) (w := w) (by omega) (by omega)).2.step (join_is h) (by omega) (by omega) (optN_ok (L := joinAt L a m) (by omega) (by omega)).2
theorem optN_some {L : List Nat} {w : Nat} (hw : 2 ≤ w) (h : 2 ≤ L.length) : ∃ a m, 2 ≤ m ∧ m ≤ w ∧ a + m ≤ L.length ∧ optN L w = optN (joinAt L a m) w + (sl L a (a + m)).sum := by
  obtain ⟨pre, as, post, e, a1, a2, k⟩ := (optN_ok (L := L) hw (by omega)).2.some h
  have hl := congrArg List.length e
  rw [List.length_append, List.length_append] at hl
  have e1 : L.take pre.length = pre := by rw [e]; simp
  have e2 : sl L pre.length (pre.length + as.length) = as := by
    unfold sl
    rw [e, show pre ++ as ++ post = (pre ++ as) ++ post from rfl, List.take_append_of_le_length (by rw [List.length_append]; exact Nat.le_refl _), List.take_of_length_le (by rw [List.length_append]; exact Nat.le_refl _)]
    simp
  have e3 : L.drop (pre.length + as.length) = post := by
    rw [e, ← List.length_append]
    simp
  have ej : joinAt L pre.length as.length = pre ++ as.sum :: post := by
    unfold joinAt
    rw [e1, e2, e3]
  have hh : pre.length + as.length ≤ L.length := by omega
  have hj := join_len hh (by omega)
  have k1 := k _ (by rw [← ej]; exact (optN_ok (L := joinAt L pre.length as.length) hw (by omega)).2)
  have k2 := optN_le (L := L) (w := w) a2 a1 hh
  refine ⟨pre.length, as.length, a1, a2, hh, ?_⟩
  rw [e2] at k2 ⊢
  omega
theorem optN_one {L : List Nat} {w : Nat} (hw : 2 ≤ w) (h : L.length = 1) : optN L w = 0 := by
  match L, h with
  | [a], _ => exact (optN_ok (L := [a]) hw (Nat.le_refl _)).2.uniq .one
end NB
set_option Elab.async false
set_option maxRecDepth 100000
set_option maxHeartbeats 4000000
namespace NB
open RS PySem
/-! ### all cuts of a stretch -/
/-- the cuts into up to so many parts, each told by its places, the end among them -/
def cutsL : Nat → Nat → Nat → List (List Nat)
  | 0, _, e => [[e]]
  | p + 1, b, e => [e] :: (List.range' (b + 1) (e - (b + 1))).flatMap fun c => (cutsL p c e).map fun r => c :: r
/-- what the parts of a cut come to -/
def costC (f : Nat → Nat → Int) : Nat → List Nat → Int
  | _, [] => 0
  | b, c :: r => f b c + costC f c r
theorem costC_cons (f : Nat → Nat → Int) (b c : Nat) (r : List Nat) : costC f b (c :: r) = f b c + costC f c r := rfl
/-- those of two or more parts -/
def cuts2 (p b e : Nat) : List (List Nat) := (List.range' (b + 1) (e - (b + 1))).flatMap fun c => (cutsL p c e).map fun r => c :: r
theorem cutsL_succ (p b e : Nat) : cutsL (p + 1) b e = [e] :: cuts2 p b e := rfl
theorem cuts2_mem {p b e : Nat} {x : List Nat} : x ∈ cuts2 p b e ↔ ∃ c r, b < c ∧ c < e ∧ r ∈ cutsL p c e ∧ x = c :: r := by
  unfold cuts2
  rw [List.mem_flatMap]
  constructor
  · rintro ⟨c, hc, hx⟩
    obtain ⟨r, hr, rfl⟩ := List.mem_map.mp hx
    have := List.mem_range'_1.mp hc
    exact ⟨c, r, by omega, by omega, hr, rfl⟩
  · rintro ⟨c, r, h1, h2, hr, rfl⟩
    exact ⟨c, List.mem_range'_1.mpr ⟨by omega, by omega⟩, List.mem_map.mpr ⟨r, hr, rfl⟩⟩
theorem cut_short : ∀ (p : Nat) {b e : Nat}, b < e → ∀ x ∈ cutsL p b e, x.length ≤ e - b
  | 0, b, e, h, x, hx => by
    rw [List.mem_singleton.mp hx]
    show 1 ≤ e - b
    omega
  | p + 1, b, e, h, x, hx => by
    rw [cutsL_succ] at hx
    rcases List.mem_cons.mp hx with rfl | hx
    · show 1 ≤ e - b
      omega
    · obtain ⟨c, r, c1, c2, hr, rfl⟩ := cuts2_mem.mp hx
      have := cut_short p c2 r hr
      rw [List.length_cons]
      omega
section
variable {f : Nat → Nat → Int}
theorem least_cuts {p b e : Nat} (hb : b + 2 ≤ e) (H : ∀ c, b < c → c < e → (∀ x ∈ cutsL p c e, (pt f p c e).1 ≤ costC f c x) ∧ ∃ x ∈ cutsL p c e, costC f c x = (pt f p c e).1) :
    (∀ x ∈ cuts2 p b e, (leastT f p b e).1 ≤ costC f b x) ∧ ∃ x ∈ cuts2 p b e, costC f b x = (leastT f p b e).1 := by
  obtain ⟨m1, m2⟩ := lstF_ok (cands_ne (f := f) (g := pt f p) hb)
  obtain ⟨c, c1, c2, ec⟩ := cands_mem.mp m1
  have el : (leastT f p b e).1 = f b c + (pt f p c e).1 := by
    show (lstF (cands f (pt f p) b e)).1 = _
    rw [ec]
  refine ⟨fun x hx => ?_, ?_⟩
  · obtain ⟨d, r, d1, d2, hr, rfl⟩ := cuts2_mem.mp hx
    have l := plt_no.mp (m2 _ (cands_mem.mpr ⟨d, d1, d2, rfl⟩))
    have h := (H d d1 d2).1 r hr
    rw [costC_cons, el]
    rw [ec] at l
    rcases l with l | l
    · have : f b c + (pt f p c e).1 < f b d + (pt f p d e).1 := l
      omega
    · have : f b d + (pt f p d e).1 = f b c + (pt f p c e).1 := l.1
      omega
  · obtain ⟨r, hr, er⟩ := (H c c1 c2).2
    exact ⟨c :: r, cuts2_mem.mpr ⟨c, r, c1, c2, hr, rfl⟩, by rw [costC_cons, er, el]⟩
theorem pt_cuts : ∀ (p : Nat) {b e : Nat}, b < e → (∀ x ∈ cutsL p b e, (pt f p b e).1 ≤ costC f b x) ∧ ∃ x ∈ cutsL p b e, costC f b x = (pt f p b e).1
  | 0, b, e, _ => by
    have h : costC f b [e] = f b e := Int.add_zero _
    refine ⟨fun x hx => ?_, [e], List.mem_singleton.mpr rfl, h⟩
    rw [List.mem_singleton.mp hx, h]
    exact Int.le_refl _
  | p + 1, b, e, hb => by
    have h0 : costC f b [e] = f b e := Int.add_zero _
    rw [cutsL_succ, pt]
    by_cases h : 1 < e - b
    · rw [if_pos h]
      obtain ⟨l1, x, hx, l2⟩ := least_cuts (f := f) (p := p) (b := b) (e := e) (by omega) fun c c1 c2 => pt_cuts p c2
      by_cases c : plt (lstF (cands f (pt f p) b e)) (f b e, (e : Int)) = true
      · rw [if_pos c]
        refine ⟨fun y hy => ?_, x, List.mem_cons_of_mem _ hx, l2⟩
        rcases List.mem_cons.mp hy with rfl | hy
        · rw [h0]
          rcases plt_iff.mp c with z | z
          · exact Int.le_of_lt z
          · exact Int.le_of_eq z.1
        · exact l1 y hy
      · rw [if_neg c]
        refine ⟨fun y hy => ?_, [e], List.mem_cons_self, h0⟩
        rcases List.mem_cons.mp hy with rfl | hy
        · rw [h0]; exact Int.le_refl _
        · have q := l1 y hy
          have le : f b e ≤ (leastT f p b e).1 := by
            rcases plt_no.mp (Bool.eq_false_iff.mpr c) with z | z
            · exact Int.le_of_lt z
            · exact Int.le_of_eq z.1.symm
          exact Int.le_trans le q
    · rw [if_neg h]
      refine ⟨fun y hy => ?_, [e], List.mem_cons_self, h0⟩
      rcases List.mem_cons.mp hy with rfl | hy
      · rw [h0]; exact Int.le_refl _
      · obtain ⟨c, r, c1, c2, _⟩ := cuts2_mem.mp hy
        omega
/-- a number is within a stretch's limit just when each cut allows it -/
theorem lim_cuts {L : List Nat} {w b e : Nat} {z : Int} (hb : b + 2 ≤ e) : z ≤ limT L f w b e ↔ ∀ x ∈ cuts2 (w - 2) b e, z ≤ ((sl L b e).sum : Nat) + costC f b x := by
  obtain ⟨l1, x, hx, l2⟩ := least_cuts (f := f) (p := w - 2) (b := b) (e := e) hb fun c c1 c2 => pt_cuts (w - 2) c2
  have el : limT L f w b e = ((sl L b e).sum : Nat) + (leastT f (w - 2) b e).1 := rfl
  rw [el]
  constructor
  · intro h y hy
    have := l1 y hy
    omega
  · intro h
    have := h x hx
    omega
end
/-! ### a good paper's numbers are no more than any plan comes to -/
section
variable {L : List Nat} {w : Nat} {f : Nat → Nat → Int}
theorem cand_le {p b c e : Nat} (c1 : b < c) (c2 : c < e) : (leastT f p b e).1 ≤ f b c + (pt f p c e).1 := by
  obtain ⟨m1, m2⟩ := lstF_ok (List.ne_nil_of_mem (cands_mem (f := f) (g := pt f p) (b := b) (e := e).mpr ⟨c, c1, c2, rfl⟩))
  rcases plt_no.mp (m2 _ (cands_mem.mpr ⟨c, c1, c2, rfl⟩)) with z | z
  · exact Int.le_of_lt z
  · exact Int.le_of_eq z.1.symm
theorem pt_le_self {p b e : Nat} : (pt f p b e).1 ≤ f b e := by
  cases p with
  | zero => exact Int.le_refl _
  | succ p =>
    rw [pt]
    by_cases h : 1 < e - b
    · rw [if_pos h]
      by_cases c : plt (lstF (cands f (pt f p) b e)) (f b e, (e : Int)) = true
      · rw [if_pos c]
        rcases plt_iff.mp c with z | z
        · exact Int.le_of_lt z
        · exact Int.le_of_eq z.1
      · rw [if_neg c]; exact Int.le_refl _
    · rw [if_neg h]; exact Int.le_refl _
theorem pt_le_least {p b e : Nat} (h : b + 2 ≤ e) : (pt f (p + 1) b e).1 ≤ (leastT f p b e).1 := by
  rw [pt, if_pos (by omega)]
  by_cases c : plt (lstF (cands f (pt f p) b e)) (f b e, (e : Int)) = true
  · rw [if_pos c]; exact Int.le_refl _
  · rw [if_neg c]
    rcases plt_no.mp (Bool.eq_false_iff.mpr c) with z | z
    · exact Int.le_of_lt z
    · exact Int.le_of_eq z.1.symm
mutual
theorem good_lb (h1 : ∀ b, f b (b + 1) ≤ 0) (hf : ∀ b e, b + 2 ≤ e → e ≤ L.length → f b e ≤ limT L f w b e) : ∀ (t : WT) {b e : Nat}, b < e → e ≤ L.length → okT w t → fr t = sl L b e → f b e ≤ (co t : Int)
  | .l a, b, e, hb, he, _, h => by
    have hl := congrArg List.length h
    rw [sl_len he] at hl
    have : e - b = 1 := hl.symm
    have : e = b + 1 := by omega
    subst this
    exact h1 b
  | .n ts, b, e, hb, he, ok, h => by
    have ok : 2 ≤ ts.length ∧ ts.length ≤ w ∧ okTs w ts := ok
    have h : frs ts = sl L b e := h
    have hl := frs_len ts ok.2.2
    rw [h, sl_len he] at hl
    have a := hf b e (by omega) he
    have c := (goods_lb h1 hf ts (p := w - 2) hb he ok.2.2 h).2 ok.1 (by omega)
    have el : limT L f w b e = ((sl L b e).sum : Nat) + (leastT f (w - 2) b e).1 := rfl
    show f b e ≤ ((cos ts + (frs ts).sum : Nat) : Int)
    rw [h, Int.natCast_add]
    omega
theorem goods_lb (h1 : ∀ b, f b (b + 1) ≤ 0) (hf : ∀ b e, b + 2 ≤ e → e ≤ L.length → f b e ≤ limT L f w b e) : ∀ (ts : List WT) {p b e : Nat}, b < e → e ≤ L.length → okTs w ts → frs ts = sl L b e →
    (1 ≤ ts.length → ts.length ≤ p + 1 → (pt f p b e).1 ≤ (cos ts : Int)) ∧ (2 ≤ ts.length → ts.length ≤ p + 2 → (leastT f p b e).1 ≤ (cos ts : Int))
  | [], p, b, e, hb, he, _, h => ⟨fun z => by simp at z, fun z => by simp at z⟩
  | t :: us, p, b, e, hb, he, ok, h => by
    have h2 : fr t ++ frs us = sl L b e := h
    obtain ⟨x1, x2, x3⟩ := sl_cut he (by omega) h2
    have n1 := fr_ne t ok.1
    have n2 := frs_len us ok.2
    have hl : (frs us).length = e - (b + (fr t).length) := by
      conv => lhs; rw [x2]
      exact sl_len he
    generalize b + (fr t).length = c at x1 x2 x3 hl
    have hc1 : b < c := by
      have : (fr t).length = c - b := by
        conv => lhs; rw [x1]
        exact sl_len (by omega)
      omega
    have g1 := good_lb h1 hf t hc1 (by omega) ok.1 x1
    have two : ∀ q : Nat, 1 ≤ us.length → us.length ≤ q + 1 → (leastT f q b e).1 ≤ ((cos (t :: us) : Nat) : Int) := fun q a1 a2 => by
      have hc2 : c < e := by omega
      have g2 := (goods_lb h1 hf us (p := q) hc2 he ok.2 x2).1 a1 a2
      have := cand_le (f := f) (p := q) hc1 hc2
      show _ ≤ ((co t + cos us : Nat) : Int)
      rw [Int.natCast_add]
      omega
    refine ⟨fun a1 a2 => ?_, fun a1 a2 => two p (by rw [List.length_cons] at a1; omega) (by rw [List.length_cons] at a2; omega)⟩
    rw [List.length_cons] at a2
    by_cases hu : us = []
    · subst hu
      have hce : c = e := by
        have : (frs ([] : List WT)).length = 0 := rfl
        omega
      subst hce
      have := pt_le_self (f := f) (p := p) (b := b) (e := c)
      show _ ≤ ((co t + 0 : Nat) : Int)
      rw [Nat.add_zero]
      omega
    · have hp := List.length_pos_iff.mpr hu
      obtain ⟨q, rfl⟩ : ∃ q, p = q + 1 := ⟨p - 1, by omega⟩
      have := two q hp (by omega)
      have hc2 : c < e := by omega
      exact Int.le_trans (pt_le_least (by omega)) this
end
end
end NB
set_option Elab.async false
set_option maxRecDepth 100000
set_option maxHeartbeats 4000000
namespace LM
open PySem PySem.Spec PyProof.Rows L2
/-! ### known objects that stay: the maker's cells while a call runs -/
def Pin (o : Obj) : HO := .frz o (.own 0)
/-- the addresses of a frame's cells -/
def Cell (cl : List (Str × Addr)) (b : Addr) : Prop := ∃ y, cl.lookup y = some b
open Classical in
/-- the abstract heap without the cells -/
noncomputable def off (cl : List (Str × Addr)) (H : Hp) : Hp := fun b => if Cell cl b then none else H b
open Classical in
/-- H' with the cells of H -/
noncomputable def back (cl : List (Str × Addr)) (H H' : Hp) : Hp := fun b => if Cell cl b then H b else H' b
theorem off_c {cl : List (Str × Addr)} {H : Hp} {b : Addr} (h : Cell cl b) : off cl H b = none := if_pos h
theorem off_n {cl : List (Str × Addr)} {H : Hp} {b : Addr} (h : ¬ Cell cl b) : off cl H b = H b := if_neg h
theorem back_c {cl : List (Str × Addr)} {H H' : Hp} {b : Addr} (h : Cell cl b) : back cl H H' b = H b := if_pos h
theorem back_n {cl : List (Str × Addr)} {H H' : Hp} {b : Addr} (h : ¬ Cell cl b) : back cl H H' b = H' b := if_neg h
/-- all cells are known in H -/
def Held (cl : List (Str × Addr)) (H : Hp) : Prop := ∀ b, Cell cl b → ∃ o, H b = some (Pin o)
/-- no cell is told of in H -/
def Loose (cl : List (Str × Addr)) (H : Hp) : Prop := ∀ b, Cell cl b → H b = none
theorem loose_off {cl : List (Str × Addr)} {H : Hp} : Loose cl (off cl H) := fun _ h => off_c h
theorem pin_own {o : Obj} {a : Addr} : Pin o ≠ .own a := fun z => nomatch z
theorem pin_tbl {o : Obj} {ps : Array Value} : Pin o ≠ .tbl ps := fun z => nomatch z
theorem pin_tup {o : Obj} {xs : List V} : Pin o ≠ .tup xs := fun z => nomatch z
section
variable {P : Program} {w : World} {K : PySem.W.Frag} {mg : Str → Option Value} {base : Heap} {A : Around} {outer : List Env} {s s' : Shared} {H H' G : Hp} {cl : List (Str × Addr)} {h h' : Heap} {fs : List Addr}
theorem pin_at (x : HOk P w H h) {b : Addr} {o : Obj} (e : H b = some (Pin o)) : h.get? b = some o := (x b _ e).1
theorem held_off (hd : Held cl H) (b : Addr) (u : HO) (hu : ∀ o, u ≠ Pin o) (e : H b = some u) : off cl H b = some u := by
  by_cases c : Cell cl b
  · obtain ⟨o, z⟩ := hd b c
    rw [z] at e
    exact absurd (Option.some.inj e).symm (hu o)
  · rw [off_n c]
    exact e
theorem hok_off (hd : Held cl H) (x : HOk P w H h) : HOk P w (off cl H) h := fun b u e => by
  by_cases c : Cell cl b
  · rw [off_c c] at e
    cases e
  · rw [off_n c] at e
    exact (x b u e).stay (fun _ _ _ q => q) (fun d q => held_off hd d _ (fun o z => pin_own z.symm) q) fun d xs q => held_off hd d _ (fun o z => pin_tup z.symm) q
/-- the state at a call, its cells let go -/
theorem env_off (hd : Held cl H) (e : Env0 P w K mg base A outer s H) : Env0 P w K mg base A outer s (off cl H) := by
  refine ⟨e.frames, e.mod, fun b o q => ⟨(e.bs b o q).1, ?_⟩, e.bsz, e.funs, fun b q => ?_, hok_off hd e.hok, e.bare⟩
  · by_cases c : Cell cl b
    · exact off_c c
    · rw [off_n c]
      exact (e.bs b o q).2
  · by_cases c : Cell cl b
    · exact off_c c
    · rw [off_n c]
      exact e.frf b q
/-- what a run did ahead of which the cells were let go: with them -/
theorem un_back (hd : Held cl H) (hk : HOk P w H h) (nf : ∀ b, Cell cl b → b ∉ fs) (u : Un fs [] (off cl H) H' h h') : Un fs [] H (back cl H H') h h' := by
  have nc : ∀ b, H b = none → ¬ Cell cl b := fun b n c => by
    obtain ⟨o, z⟩ := hd b c
    rw [n] at z
    cases z
  refine ⟨fun b o q n hb hx => u.keep b o q (by rw [off_n (nc b n)]; exact n) hb hx, fun b o q n hb hx => u.slot b o q (by rw [off_n (nc b n)]; exact n) hb hx, fun b o q n hx => ?_, u.there, fun b xs q => ?_, fun b o v q => ?_, fun b ps q => ?_⟩
  · rw [back_n (nc b n)]
    exact u.free b o q (by rw [off_n (nc b n)]; exact n) hx
  · have c : ¬ Cell cl b := fun c => by
      obtain ⟨o, z⟩ := hd b c
      rw [q] at z
      cases z
    rw [back_n c]
    exact u.tups b xs (by rw [off_n c]; exact q)
  · by_cases c : Cell cl b
    · rw [back_c c]
      exact q
    · rw [back_n c]
      exact u.frzs b o v (by rw [off_n c]; exact q)
  · have c : ¬ Cell cl b := fun c => by
      obtain ⟨o, z⟩ := hd b c
      rw [q] at z
      cases z
    rw [back_n c]
    exact u.tbls b ps (by rw [off_n c]; exact q)
theorem loose_un (hk : HOk P w H h) (hd : Held cl H) (u : Un fs [] (off cl H) H' h h') : Loose cl H' := fun b c => by
  obtain ⟨o, z⟩ := hd b c
  exact u.free b o (pin_at hk z) (off_c c) (by simp)
theorem hok_back (hd : Held cl H) (hk : HOk P w H h) (nf : ∀ b, Cell cl b → b ∉ fs) (u : Un fs [] (off cl H) H' h h') (x : HOk P w H' h') : HOk P w (back cl H H') h' := fun b v e => by
  have lo := loose_un hk hd u
  by_cases c : Cell cl b
  · rw [back_c c] at e
    obtain ⟨o, z⟩ := hd b c
    rw [z] at e
    cases e
    have := u.keep b o (pin_at hk z) (off_c c) (nf b c) (by simp)
    exact ⟨this, ⟨o, this⟩⟩
  · rw [back_n c] at e
    have st : ∀ d v, H' d = some v → back cl H H' d = some v := fun d v q => by
      have : ¬ Cell cl d := fun z => by
        rw [lo d z] at q
        cases q
      rw [back_n this]
      exact q
    exact (x b v e).stay (fun _ _ _ q => q) (fun d q => st d _ q) fun d xs q => st d _ q
/-- G is H with the cells known -/
structure Up (cl : List (Str × Addr)) (H G : Hp) (h : Heap) : Prop where
  lo : Loose cl H
  same : ∀ b, ¬ Cell cl b → G b = H b
  held : ∀ b, Cell cl b → ∃ o, h.get? b = some o ∧ G b = some (Pin o)
theorem Up.hd (p : Up cl H G h) : Held cl G := fun b c => by
  obtain ⟨o, _, z⟩ := p.held b c
  exact ⟨o, z⟩
theorem up_some (p : Up cl H G h) {b : Addr} {u : HO} (e : H b = some u) : G b = some u := by
  have : ¬ Cell cl b := fun c => by
    rw [p.lo b c] at e
    cases e
  rw [p.same b this]
  exact e
theorem hok_up (p : Up cl H G h) (x : HOk P w H h) : HOk P w G h := fun b u e => by
  by_cases c : Cell cl b
  · obtain ⟨o, ho, z⟩ := p.held b c
    rw [z] at e
    cases e
    exact ⟨ho, ⟨o, ho⟩⟩
  · rw [p.same b c] at e
    exact (x b u e).stay (fun _ _ _ q => q) (fun d q => up_some p q) fun d xs q => up_some p q
theorem env_up (p : Up cl H G s.heap) (nb : ∀ b, Cell cl b → base.get? b = none) (nf : ∀ b, Cell cl b → b ∉ frs outer) (e : Env0 P w K mg base A outer s H) : Env0 P w K mg base A outer s G := by
  refine ⟨e.frames, e.mod, fun b o q => ⟨(e.bs b o q).1, ?_⟩, e.bsz, e.funs, fun b q => ?_, hok_up p e.hok, e.bare⟩
  · rw [p.same b fun c => by rw [nb b c] at q; cases q]
    exact (e.bs b o q).2
  · rw [p.same b fun c => nf b c q]
    exact e.frf b q
/-- behind a call with known cells: they are let go again -/
theorem end_up {Q : VK} {u : Value} (p : Up cl H G s.heap) (h : CE outer P w G s (fun v H' => Q v (off cl H')) u s') : CE outer P w H s Q u s' := by
  obtain ⟨v, H', os, bare, un, hk, r, q⟩ := h
  have kept : ∀ b, Cell cl b → ∃ o, s.heap.get? b = some o ∧ H' b = some (Pin o) := fun b c => by
    obtain ⟨o, ho, z⟩ := p.held b c
    exact ⟨o, ho, un.frzs b o _ z⟩
  have hd : Held cl H' := fun b c => by
    obtain ⟨o, _, z⟩ := kept b c
    exact ⟨o, z⟩
  refine ⟨v, off cl H', os, bare, ⟨fun b o e n hb hx => ?_, fun b o e n hb hx => ?_, fun b o e n hx => ?_, un.there, fun b xs e => ?_, fun b o v e => ?_, fun b ps e => ?_⟩, hok_off hd hk, r, q⟩
  · by_cases c : Cell cl b
    · obtain ⟨o', ho, z⟩ := kept b c
      rw [e] at ho
      cases ho
      exact pin_at hk z
    · exact un.keep b o e (by rw [p.same b c]; exact n) hb hx
  · by_cases c : Cell cl b
    · obtain ⟨o', ho, z⟩ := kept b c
      rw [e] at ho
      cases ho
      exact ⟨o.slots, pin_at hk z⟩
    · exact un.slot b o e (by rw [p.same b c]; exact n) hb hx
  · by_cases c : Cell cl b
    · exact off_c c
    · rw [off_n c]
      exact un.free b o e (by rw [p.same b c]; exact n) hx
  · have g := un.tups b xs (up_some p e)
    exact held_off hd b _ (fun o z => pin_tup z.symm) g
  · have c : ¬ Cell cl b := fun c => by
      rw [p.lo b c] at e
      cases e
    rw [off_n c]
    exact un.frzs b o v (up_some p e)
  · obtain ⟨more, g⟩ := un.tbls b ps (up_some p e)
    exact ⟨more, held_off hd b _ (fun o z => nomatch z) g⟩
end
end LM
set_option Elab.async false
set_option maxRecDepth 100000
set_option maxHeartbeats 4000000
namespace LM
open PySem PySem.Spec PyProof.Rows L2
open LamX (ExtN TabS TabB CodeO LamS lamCx lamEnv)
/-! ### an exception through let-go cells -/
section
variable {P : Program} {w : World} {outer : List Env} {s s' : Shared} {H : Hp} {cl : List (Str × Addr)}
theorem cx_back {E : XK} {u : Value} (hd : Held cl H) (hk : HOk P w H s.heap) (nf : ∀ b, Cell cl b → b ∉ frs outer) (x : L2.CX P w outer (off cl H) s (fun c d H' => Loose cl H' → E c d (back cl H H')) u s') : L2.CX P w outer H s E u s' := by
  obtain ⟨a, B, H', c, d, e, fl, ok, ub, na, os, bare, q⟩ := x
  have nc : ∀ b, H b = none → ¬ Cell cl b := fun b n z => by
    obtain ⟨o, y⟩ := hd b z
    rw [n] at y
    cases y
  have lo : Loose cl H' := fun b z => by
    obtain ⟨o, y⟩ := hd b z
    exact ub.free b o (pin_at hk y) (off_c z)
  have ap : ∀ b u, (∀ o, u ≠ Pin o) → H b = some u → ¬ Cell cl b := fun b u hu y z => by
    obtain ⟨o, v⟩ := hd b z
    rw [y] at v
    exact hu o (Option.some.inj v)
  have inB : ∀ b, Cell cl b → ∃ o, H b = some (Pin o) ∧ B.get? b = some o := fun b z => by
    obtain ⟨o, y⟩ := hd b z
    exact ⟨o, y, ub.keep b o (pin_at hk y) (off_c z) (nf b z)⟩
  have nca : ¬ Cell cl a := fun z => by
    obtain ⟨o, _, y⟩ := inB a z
    rw [fl.2.1] at y
    cases y
  refine ⟨a, B, back cl H H', c, d, e, fl, fun b v y => ?_, ⟨fun b o y n hb => ub.keep b o y (by rw [off_n (nc b n)]; exact n) hb, ub.slot, fun b o y n => ?_, ub.there, fun b xs y => ?_, fun b o v y => ?_, fun b ps y => ?_⟩, by rw [back_n nca]; exact na, os, bare, q lo⟩
  · by_cases z : Cell cl b
    · rw [back_c z] at y
      obtain ⟨o, y2, g⟩ := inB b z
      rw [y2] at y
      cases y
      exact ⟨g, ⟨o, g⟩⟩
    · rw [back_n z] at y
      have st : ∀ d v, H' d = some v → back cl H H' d = some v := fun d v q => by
        have : ¬ Cell cl d := fun z => by
          rw [lo d z] at q
          cases q
        rw [back_n this]
        exact q
      exact (ok b v y).stay (fun _ _ _ q => q) (fun d q => st d _ q) fun d xs q => st d _ q
  · rw [back_n (nc b n)]
    exact ub.free b o y (by rw [off_n (nc b n)]; exact n)
  · have z := ap b _ (fun o y => pin_tup y.symm) y
    rw [back_n z]
    exact ub.tups b xs (by rw [off_n z]; exact y)
  · by_cases z : Cell cl b
    · rw [back_c z]
      exact y
    · rw [back_n z]
      exact ub.frzs b o v (by rw [off_n z]; exact y)
  · have z := ap b _ (fun o y => pin_tbl y.symm) y
    rw [back_n z]
    exact ub.tbls b ps (by rw [off_n z]; exact y)
theorem cr_back {Q : VK} {E : XK} {r : Result} (hd : Held cl H) (hk : HOk P w H s.heap) (nf : ∀ b, Cell cl b → b ∉ frs outer) (x : CR (L2.CX P w) outer P w (off cl H) s (fun v H' => Loose cl H' → Q v (back cl H H')) (fun c d H' => Loose cl H' → E c d (back cl H H')) r s') : CR (L2.CX P w) outer P w H s Q E r s' := by
  cases r with
  | error e => exact cx_back hd hk nf x
  | ok fl =>
    cases fl with
    | ret u =>
      obtain ⟨v, H', os, bare, un, ok, rv, q⟩ := x
      exact ⟨v, back cl H H', os, bare, un_back hd hk nf un, hok_back hd hk nf un ok, rv, q (loose_un hk hd un)⟩
    | next => exact x
    | brk => exact x
    | cont => exact x
end
/-! ### what a lambda does where it is called -/
/-- f, called without arguments where R holds, keeps tl -/
structure Act (P : Program) (w : World) (K : PySem.W.Frag) (mg : Str → Option Value) (base : Heap) (k : Nat) (f : Addr) (R : Hp → Prop) (tl : Hp → VK → XK → Prop) : Prop where
  same : ∀ H H' : Hp, (∀ b o, H b = some o → H' b = some o) → R H → R H'
  fn : ∀ (s : Shared) (H : Hp), R H → HOk P w H s.heap → PySem.W.FnAt f s.heap
  run : ∀ (A : Around) (outer : List Env) (s : Shared) (H : Hp) (Q : VK) (E : XK), Room k A → Env0 P w K mg base A outer s H → R H → tl H Q E → codeAny (model P w) A (.call (.ref f) ⟨[], []⟩) (CR (L2.CX P w) outer P w H s Q E) s
/-- the lambda that stands at f -/
def IsLam (H : Hp) (f : Addr) (q : Str) (params : Arguments) (body : Expr) (scope : Scope) (clos : List (Str × Addr)) : Prop :=
  ∃ (c' : Addr) (pm ctv : Value), H f = some (Pin (PySem.W.kla_obj "<lambda>" q params body scope clos pm c' ctv)) ∧ H c' = some (CodeO c' q)
theorem IsLam.ext {H H' : Hp} {f : Addr} {q : Str} {params : Arguments} {body : Expr} {scope : Scope} {clos : List (Str × Addr)} (h : IsLam H f q params body scope clos) (e : ExtN H H') : IsLam H' f q params body scope clos := by
  obtain ⟨c', pm, ctv, h1, h2⟩ := h
  exact ⟨c', pm, ctv, e _ _ h1 (fun ps z => nomatch z), e _ _ h2 (fun ps z => LamX.codeO_ne ps z)⟩
/-- what a frame's cells hold, told at a call: H ahead, G with the cells -/
structure Caught (X : Cx) (σ : L2.St) (H G : Hp) : Prop where
  len : σ.length = X.N.length
  has : ∀ y, X.env.kindOf y = some .cell ∨ X.env.kindOf y = some .free → ∃ c, X.env.cells.lookup y = some c
  inj : ∀ x y c, X.env.cells.lookup x = some c → X.env.cells.lookup y = some c → x = y
  lo : Loose X.env.cells H
  same : ∀ b, ¬ Cell X.env.cells b → G b = H b
  held : ∀ b, Cell X.env.cells b → ∃ o v, G b = some (Pin o) ∧ o.data = .cell v
  val : ∀ (i : Nat) (y : Str) (v : V), X.N[i]? = some y → σ[i]? = some (some v) → X.env.kindOf y = some .cell ∨ X.env.kindOf y = some .free → ∃ c o u, X.env.cells.lookup y = some c ∧ G c = some (Pin o) ∧ o.data = .cell (some u) ∧ RelV v u
theorem Caught.some {X : Cx} {σ : L2.St} {H G : Hp} (c : Caught X σ H G) {b : Addr} {o : HO} (e : H b = some o) : G b = some o := by
  rw [c.same b fun z => by rw [c.lo b z] at e; cases e]
  exact e
theorem Caught.hd {X : Cx} {σ : L2.St} {H G : Hp} (c : Caught X σ H G) : Held X.env.cells G := fun b z => by
  obtain ⟨o, _, e, _⟩ := c.held b z
  exact ⟨o, e⟩
open Classical in
theorem caught_of {X : Cx} {pins : List (Addr × Obj)} {σ : L2.St} {H : Hp} {s : Shared} (I : Inv X pins σ H s) : ∃ G, Up X.env.cells H G s.heap ∧ Caught X σ H G := by
  have lo : Loose X.env.cells H := fun b ⟨y, e⟩ => I.freeC y b e
  have at_ : ∀ b, Cell X.env.cells b → ∃ o v, s.heap.get? b = some o ∧ o.data = .cell v := fun b ⟨y, e⟩ => by
    obtain ⟨v, o, h1, h2⟩ := I.cell y b e
    exact ⟨o, v, h1, h2⟩
  refine ⟨fun b => if Cell X.env.cells b then (s.heap.get? b).map Pin else H b, ⟨lo, fun b c => if_neg c, fun b c => ?_⟩, ⟨I.len, fun y hy => I.ok.has y hy, I.ok.inj, lo, fun b c => if_neg c, fun b c => ?_, fun i y v h1 h2 h3 => ?_⟩⟩
  · obtain ⟨o, v, h1, h2⟩ := at_ b c
    refine ⟨o, h1, ?_⟩
    show (if Cell X.env.cells b then (s.heap.get? b).map Pin else H b) = _
    rw [if_pos c, h1]
    rfl
  · obtain ⟨o, v, h1, h2⟩ := at_ b c
    refine ⟨o, v, ?_, h2⟩
    show (if Cell X.env.cells b then (s.heap.get? b).map Pin else H b) = _
    rw [if_pos c, h1]
    rfl
  · obtain ⟨m, _, hl⟩ := I.loc
    have hv : Vis X.env.scope y := h3.elim (fun k => .inr (.inl k)) fun k => .inr (.inr k)
    obtain ⟨u, r, q⟩ := hl i y v h1 h2 hv
    rcases q with ⟨k, _⟩ | ⟨_, c, e, o, ho, hd⟩
    · rcases h3 with z | z <;> rw [z] at k <;> cases k
    · refine ⟨c, o, u, e, ?_, hd, r⟩
      show (if Cell X.env.cells c then (s.heap.get? c).map Pin else H c) = _
      rw [if_pos ⟨y, e⟩, ho]
      rfl
/-- the lambda's own frame is entered -/
theorem lam_in {X : Cx} {σ : L2.St} {H G HZ : Hp} {A : Around} {outer : List Env} {E : XK} {scope : Scope} {f c' : Addr} {h₁ : Heap} {tk : Nat} {s1 : Shared} (U : Caught X σ H G) (L : LamS X.env.scope scope) (e0 : Env0 X.prog X.w X.K X.mg X.base A outer s1 (off X.env.cells HZ)) (hd : A.handled = none)
    (hz : ∀ b, Cell X.env.cells b → ∃ o, G b = some (Pin o) ∧ s1.heap.get? b = some o) (hns : h₁.Ns s1.heap.objs.size fun y => ([] : List (Str × Value)).reverse.lookup y) (kp : ∀ b o, s1.heap.get? b = some o → h₁.get? b = some o) :
    Inv (lamCx X A outer s1 (off X.env.cells HZ) E scope f c') [] σ (off X.env.cells HZ) { s1 with heap := h₁, toks := tk } := by
  have has : ∀ y ∈ scope.names, y.2 = .free → ∃ c, X.env.cells.lookup y.1 = some c := fun y hy e => U.has _ (L.free y hy e)
  have cm : ∀ {y c}, (cloFrom X.env.cells scope.names []).lookup y = some c → X.env.cells.lookup y = some c := fun {y c} e => by
    rcases cloFrom_mem (PySem.mem_of_lookup e) with z | ⟨h1, h2⟩
    · cases z
    · obtain ⟨c1, hc⟩ := has _ h1 rfl
      have hc : X.env.cells.lookup y = some c1 := hc
      rw [hc] at h2
      rw [h2]
      exact hc
  have look : ∀ {y}, scope.names.lookup y = some .free → ∃ c, (cloFrom X.env.cells scope.names []).lookup y = some c := fun {y} hl =>
    mem_lookup (cloFrom_has (cells := X.env.cells) (acc := []) (PySem.mem_of_lookup hl))
  have isC : ∀ {y c}, X.env.cells.lookup y = some c → ∃ v, h₁.IsCell c v := fun {y c} e => by
    obtain ⟨o, v, g, d⟩ := U.held c ⟨y, e⟩
    obtain ⟨o', g', k⟩ := hz c ⟨y, e⟩
    rw [g] at g'
    have : o = o' := by injection g' with g'; injection g'
    subst this
    exact ⟨v, o, kp _ _ k, d⟩
  have noex : ∀ b : Addr, b ∉ (lamCx X A outer s1 (off X.env.cells HZ) E scope f c').ex := fun b z => nomatch (show b ∈ ([] : List Addr) from z)
  refine ⟨⟨e0.mod, L.kind, rfl, rfl, Nat.le_refl _, fun y z c e1 e2 => U.inj y z c (cm e1) (cm e2), fun y hy => ?_, fun y c z _ => Bool.noConfusion (show false = true from z), fun _ => hd, Around.frames_deeper e0.frames, .inr ⟨rfl, rfl⟩, fun b z => absurd z (noex b), e0.bs, e0.bsz, fun b _ _ => noex b,
      fun b z => absurd z (noex b), e0.funs, e0.frf⟩,
    rfl, e0.bare, Un.kept kp, ⟨_, hns, fun i y v e1 e2 e3 => ?_⟩, fun y c e => isC (cm e), e0.hok.fresh (Nat.le_refl _), fun y c e => off_c ⟨y, cm e⟩, fun q hq => absurd (show q ∈ ([] : List (Addr × Obj)) ++ [] from hq) (by simp), e0.hok.kept kp, U.len⟩
  · have hy : scope.names.lookup y = some .cell ∨ scope.names.lookup y = some .free := hy
    rcases hy with hy | hy
    · exact absurd rfl (L.own _ (PySem.mem_of_lookup hy)).2
    · exact look hy
  · have e3 : Vis scope y := e3
    rcases e3 with k | k | k
    · exact absurd rfl (L.own _ (PySem.mem_of_lookup k)).1
    · exact absurd rfl (L.own _ (PySem.mem_of_lookup k)).2
    · obtain ⟨c, o, u, h1, h2, h3, r⟩ := U.val i y v e1 e2 (L.free _ (PySem.mem_of_lookup k) rfl)
      obtain ⟨c2, z⟩ := look k
      have := cm z
      rw [h1] at this
      cases this
      obtain ⟨o', g', kk⟩ := hz c ⟨y, h1⟩
      rw [h2] at g'
      have : o = o' := by injection g' with g'; injection g'
      subst this
      exact ⟨u, r, .inr ⟨.inr k, c, z, o, kp _ _ kk, h3⟩⟩
/-- what the lambda at f does, wherever it is called while the frame's cells are known -/
theorem lam_act {X : Cx} {σ : L2.St} {H G : Hp} {params : Arguments} {body : Expr} {scope : Scope} {f : Addr} {k : Nat} {t : XK → TE} (U : Caught X σ H G) (L : LamS X.env.scope scope) (hl : IsLam G f (X.env.qual ++ "<lambda>") params body scope (cloFrom X.env.cells scope.names []))
    (hbind : ∀ (q : Str) (cl : List (Str × Addr)) (pm cv ctv : Value), bindArgs (PySem.W.kla_fn "<lambda>" q params body scope cl pm cv ctv) ⟨[], []⟩ = pure [])
    (hbody : ∀ (A : Around) (outer : List Env) (s : Shared) (H : Hp) (E : XK) (c' : Addr), Room k (A.deeper (lamEnv X scope s.heap.objs.size f c')) → PE (lamCx X A outer s H E scope f c') body (t E)) :
    ∃ R : Hp → Prop, R G ∧ Act X.prog X.w X.K X.mg X.base (k + 1) f R (fun H Q E => t (fun c d H' => Loose X.env.cells H' → E c d (back X.env.cells H H')) σ (off X.env.cells H) (fun v H' => Loose X.env.cells H' → Q v (back X.env.cells H H'))) := by
  obtain ⟨c', pm, ctv, h1, h2⟩ := hl
  refine ⟨fun HZ => HZ f = G f ∧ HZ c' = G c' ∧ ∀ b, Cell X.env.cells b → HZ b = G b, ⟨rfl, rfl, fun _ _ => rfl⟩, ⟨fun H H' e ⟨r1, r2, r3⟩ => ⟨?_, ?_, fun b c => ?_⟩, fun s H ⟨r1, _, _⟩ ok => ?_, fun A outer s HZ Q E hr e0 ⟨r1, r2, r3⟩ ht => ?_⟩⟩
  · rw [h1] at r1 ⊢
    exact e _ _ r1
  · rw [h2] at r2 ⊢
    exact e _ _ r2
  · obtain ⟨o, z⟩ := U.hd b c
    have r3 := r3 b c
    rw [z] at r3 ⊢
    exact e _ _ r3
  · rw [h1] at r1
    exact ⟨_, _, _, _, pin_at ok r1⟩
  have hd : Held X.env.cells HZ := fun b c => by
    rw [r3 b c]
    exact U.hd b c
  have nf : ∀ b, Cell X.env.cells b → b ∉ frs outer := fun b c z => by
    obtain ⟨o, y⟩ := hd b c
    rw [e0.frf b z] at y
    cases y
  rw [h1] at r1
  rw [h2] at r2
  have of1 := pin_at e0.hok r1
  obtain ⟨⟨oc, vs, tt, hoc, hdc, hvc⟩, _, _⟩ := e0.hok c' _ r2
  have e1 := env_off hd e0
  have lim : s.heap.NoLimit := e0.mod.nolimit.keeps fun b o e => (e0.bs b o e).1
  refine codeAny_mono (R := CR (L2.CX X.prog X.w) outer X.prog X.w (off X.env.cells HZ) s (fun v H' => Loose X.env.cells H' → Q v (back X.env.cells HZ H')) (fun c d H' => Loose X.env.cells H' → E c d (back X.env.cells HZ H'))) ?_ fun r s' hq => cr_back hd e0.hok nf hq
  refine PySem.W.kla_callFunE hr.depth of1 rfl L.co L.gen rfl ⟨c', oc, vs, tt, rfl, hoc, hdc, hvc⟩ ?_
  rw [hbind]
  refine wpAny_pure (wpAny_newFunctionEnv (fun y hy => (L.own y hy).2) (fun y hy => absurd hy (by simp)) (fun h₁ hns hsb => ⟨lim.fresh _ hsb, ?_⟩) L.kind)
  show codeAny _ _ (.expr body (lamEnv X scope s.heap.objs.size f c')) _ _
  have kp : ∀ b o, s.heap.get? b = some o → h₁.get? b = some o := fun b o e => hsb.extBut b o (Nat.ne_of_lt (Heap.lt_size e)) (Heap.get?_push_of_some _ e)
  have J := lam_in (E := fun c d H' => Loose X.env.cells H' → E c d (back X.env.cells HZ H')) (scope := scope) (f := f) (c' := c') (tk := s.toks + ([] : List (Str × Value)).length) U L e1 hr.hd (fun b c => by
    obtain ⟨o, z⟩ := U.hd b c
    exact ⟨o, z, pin_at e0.hok ((r3 b c).trans z)⟩) hns kp
  refine PySem.W.kla_codeExpr (wpAny_mono ((hbody _ _ s (off X.env.cells HZ) _ c' (hr.deeper _)).run [] _ _ (off X.env.cells HZ) _ J ht) (fun v s' hq => ?_) fun e s' hq => hq)
  obtain ⟨w', H', J', rv, q⟩ := hq
  exact ⟨w', H', J'.os, J'.bare, J'.base, J'.hok, rv, q⟩
theorem caught_same {X : Cx} {σ : L2.St} {H G H' : Hp} (c : Caught X σ H G) (s : ∀ b o, G b = some o → H' b = some o) : ∀ b o, H b = some o → off X.env.cells H' b = some o := fun b o e => by
  rw [off_n fun z => by rw [c.lo b z] at e; cases e]
  exact s b o (c.some e)
theorem back_same {cl : List (Str × Addr)} {H H' : Hp} (s : ∀ b o, off cl H b = some o → H' b = some o) : ∀ b o, H b = some o → back cl H H' b = some o := fun b o e => by
  by_cases c : Cell cl b
  · rw [back_c c]
    exact e
  · rw [back_n c]
    exact s b o (by rw [off_n c]; exact e)
theorem back_at {cl : List (Str × Addr)} {H H' : Hp} (lo : Loose cl H') {b : Addr} {o : HO} (e : H' b = some o) : back cl H H' b = some o := by
  rw [back_n fun c => by rw [lo b c] at e; cases e]
  exact e
end LM
set_option Elab.async false
set_option maxRecDepth 100000
set_option maxHeartbeats 4000000
namespace LM
open PySem PySem.Spec PyProof.Rows L2
open LamX (ExtN TabS TabB CodeO LamS lamCx lamEnv)
/-! ### a lambda is made -/
def tLam (P : Addr) (q : Str) (params : Arguments) (body : Expr) (scope : Scope) (clos : List (Str × Addr)) : TE := fun _ H Q => TabS H P q ∧
  ∀ (f : Addr) (H1 : Hp), ExtN H H1 → TabS H1 P q → IsLam H1 f q params body scope clos → H f = none → Q (.ref f) H1
section
variable {X : Cx}
theorem pe_lam {c P : Addr} {params : Arguments} {body : Expr} {scope : Scope} {pos : Pos} (TB : TabB X.base X.mg c P) (hcode : X.env.code = .ref c) (L : LamS X.env.scope scope) (hdef : defaultsOf params X.env = ([], [])) :
    PE X (.Lambda params body scope pos) (tLam P (X.env.qual ++ "<lambda>") params body scope (cloFrom X.env.cells scope.names [])) := by
  refine ⟨fun pins s σ H Q I ⟨hT, h⟩ => ?_⟩
  obtain ⟨ps, hP, ht, ha⟩ := id hT
  refine PySem.W.kla_eval hdef ?_
  have hP' : s.heap.get? P = some { cls := .none, data := .fields ps } := I.hok P _ hP
  cases hc : codeAmong pos ps.toList with
  | none =>
    refine PySem.W.kla_makeFunction (mg := X.mg) (c := c) (P := P) (ps := ps) (closure_ok (L.has I.ok)) I.ok.glob (I.mod.glob.keeps I.bk) hcode (TB.code.keeps I.bk) hP' ht hc TB.gP (TB.bm.keeps I.bk) fun c' ctv g tk hx hge hlt hrec htb => ?_
    obtain ⟨c2, oc, vs, t, e2, hoc, hd, hv⟩ := hrec
    cases e2
    have nC : H c' = none := I.hok.fresh hge
    have I1 := LamX.inv_table (t' := tk) (q := X.env.qual ++ "<lambda>") (more := #[rawInt pos.line, rawInt pos.col, .ref c']) I hP (fun b o hb e => hx b o hb e) htb hge ⟨oc, vs, t, hoc, hd, hv⟩
    have I2 := I1.laid (a := g.objs.size) (o := Pin (PySem.W.kla_obj "<lambda>" (X.env.qual ++ "<lambda>") params body scope (cloFrom X.env.cells scope.names []) ((X.mg "__name__").getD .none) c' ctv)) (t' := tk) (fun b u e => Heap.get?_push_of_some (h := g) _ e) (Nat.le_refl _) ⟨Heap.get?_push_size _ rfl, ⟨_, Heap.get?_push_size _ rfl⟩⟩
    have nF : H g.objs.size = none := I.hok.fresh (Nat.le_trans hge (Nat.le_of_lt hlt))
    have n1 : g.objs.size ≠ c' := Nat.ne_of_gt hlt
    have n2 : P ≠ g.objs.size := ne_of_none hP nF
    have n3 : P ≠ c' := ne_of_none hP nC
    have hE : ExtN H (upd (upd (upd H P (.tbl (ps ++ #[rawInt pos.line, rawInt pos.col, .ref c']))) c' (CodeO c' (X.env.qual ++ "<lambda>"))) g.objs.size (Pin (PySem.W.kla_obj "<lambda>" (X.env.qual ++ "<lambda>") params body scope (cloFrom X.env.cells scope.names []) ((X.mg "__name__").getD .none) c' ctv))) := fun b o e n => by
      rw [upd_ne (ne_of_none e nF), upd_ne (ne_of_none e nC), upd_ne fun z => n ps (Option.some.inj (e.symm.trans (by rw [z]; exact hP)))]
      exact e
    have hC2 : (upd (upd (upd H P (.tbl (ps ++ #[rawInt pos.line, rawInt pos.col, .ref c']))) c' (CodeO c' (X.env.qual ++ "<lambda>"))) g.objs.size (Pin (PySem.W.kla_obj "<lambda>" (X.env.qual ++ "<lambda>") params body scope (cloFrom X.env.cells scope.names []) ((X.mg "__name__").getD .none) c' ctv))) c' = some (CodeO c' (X.env.qual ++ "<lambda>")) := by
      rw [upd_ne (Ne.symm n1), upd_same]
    refine ⟨.ref g.objs.size, _, I2, rfl, h _ _ hE ⟨_, by rw [upd_ne n2, upd_ne n3, upd_same], ?_, fun p' cv hcv => ?_⟩ ⟨c', _, ctv, upd_same, hC2⟩ nF⟩
    · simp only [Array.toList_append]
      exact PySem.TriplesOk_snoc _ _ _ _ ht
    · simp only [Array.toList_append] at hcv
      rcases LamX.among_app _ ht hcv with z | z
      · obtain ⟨c0, y1, y2⟩ := ha p' cv z
        exact ⟨c0, y1, hE _ _ y2 (fun ps => LamX.codeO_ne ps)⟩
      · exact ⟨c', z, hC2⟩
  | some cv =>
    obtain ⟨c', rfl, hco⟩ := ha pos cv hc
    refine PySem.W.kla_makeFunctionHit (mg := X.mg) (c := c) (P := P) (ps := ps) (closure_ok (L.has I.ok)) I.ok.glob (I.mod.glob.keeps I.bk) hcode (TB.code.keeps I.bk) hP' ht hc (TB.bm.keeps I.bk) fun ctv g tk hx hsz => ?_
    have I1 : Inv X pins σ H { s with heap := g, toks := tk } := I.kept hx
    have I2 := I1.laid (a := g.objs.size) (o := Pin (PySem.W.kla_obj "<lambda>" (X.env.qual ++ "<lambda>") params body scope (cloFrom X.env.cells scope.names []) ((X.mg "__name__").getD .none) c' ctv)) (t' := tk) (fun b u e => Heap.get?_push_of_some (h := g) _ e) (Nat.le_refl _) ⟨Heap.get?_push_size _ rfl, ⟨_, Heap.get?_push_size _ rfl⟩⟩
    have nF : H g.objs.size = none := I.hok.fresh hsz
    have hE : ∀ b o, H b = some o → (upd H g.objs.size (Pin (PySem.W.kla_obj "<lambda>" (X.env.qual ++ "<lambda>") params body scope (cloFrom X.env.cells scope.names []) ((X.mg "__name__").getD .none) c' ctv))) b = some o := fun b o e => by
      rw [upd_ne (ne_of_none e nF)]
      exact e
    exact ⟨.ref g.objs.size, _, I2, rfl, h _ _ (ExtN.of hE) (hT.ext hE) ⟨c', _, ctv, upd_same, hE _ _ hco⟩ nF⟩
theorem IsLam.up {X : Cx} {σ : L2.St} {H G : Hp} {f : Addr} {q : Str} {params : Arguments} {body : Expr} {scope : Scope} {clos : List (Str × Addr)} (h : IsLam H f q params body scope clos) (c : Caught X σ H G) : IsLam G f q params body scope clos := by
  obtain ⟨c', pm, ctv, h1, h2⟩ := h
  exact ⟨c', pm, ctv, c.some h1, c.some h2⟩
/-! ### a def is called, this frame's cells being known meanwhile -/
def tCallP (X : Cx) (sp : Sp) (t : TA) : TE := fun σ H Q => t σ H fun vs H1 => ∀ G, Caught X σ H1 G → sp vs G (fun v H' => Q v (off X.env.cells H')) C8.E0
theorem cells_apart {pins : List (Addr × Obj)} {σ : L2.St} {H : Hp} {s : Shared} (I : Inv X pins σ H s) (hfn : ∀ y, X.fn y = true) : (∀ b, Cell X.env.cells b → X.base.get? b = none) ∧ ∀ b, Cell X.env.cells b → b ∉ frs X.stack := by
  have ab : ∀ b, Cell X.env.cells b → X.s_0.heap.objs.size ≤ b := fun b ⟨y, e⟩ => I.ok.cab y b (hfn y) e
  refine ⟨fun b c => Heap.get?_none_of_le (Nat.le_trans I.ok.bsz (ab b c)), fun b c hm => ?_⟩
  rcases List.mem_cons.mp (I.stkSub b hm) with z | z
  · obtain ⟨y, e⟩ := c
    exact I.cne y b e z
  · obtain ⟨_, o, ho, _⟩ := I.ok.funs.mem z
    exact absurd (Nat.lt_of_lt_of_le (Heap.lt_size ho) (ab b c)) (Nat.lt_irrefl _)
section
variable {CX : CXT} {k j : Nat} {ps : List Str} {sp : Sp} {E : XK} {x : Str} {p pos : Pos} {e : Expr} {es : List Expr} {t : TA} {to : TE}
theorem pe_cP (c : RS.Cal X.prog X.w X.K X.mg X.base C8.CX0 k x ps sp) (hr : Room j X.A) (hk : k ≤ j) (hfn : ∀ y, X.fn y = true) (hg : Gl X x) (ha : PA X (e :: es) t) (hdb : (x == ("__debug__" : Str)) = false := by decide)
    (he : starEach (e :: es) X.env = (false, eval e X.env) :: starEach es X.env := by rfl) (hpl : (backTo pos (starEach es X.env)).any (·.1) = false := by rfl) :
    PE X (.Call (.Name x p) (e :: es) [] pos) (tCallP X sp t) := by
  obtain ⟨f, fd, F, hm, kp, hb⟩ := c.ex
  refine ⟨fun pins s σ H Q I h => ?_⟩
  refine wpAny_Call_Name_kw (ld_glob I hg hm ?_ hdb)
  refine PySem.W.callWith_K (h₀ := X.base) I.ok.mod.kin kp (thn (ha.run pos pins s σ H _ I h) fun us s1 ⟨vs, H1, I1, r, q⟩ => ⟨I1.kIn, ?_⟩) he hpl
  obtain ⟨G, up, ca⟩ := caught_of I1
  obtain ⟨nb, nf⟩ := cells_apart I1 hfn
  have q := q G ca
  have hl : us.length = ps.length := by rw [← r.length]; exact F.len _ _ _ _ q
  have b := hb s1 us I1.kIn (by rw [List.append_nil]; exact hl)
  rw [List.append_nil] at b
  refine wpAny_call (codeAny_mono (F.run X.A X.stack s1 G ⟨us, []⟩ us vs _ _ (hr.mono hk) (env_up up nb nf I1.env0) b r q) fun r s' hq => ?_)
  cases r with
  | error e => exact False.elim hq
  | ok fl =>
    cases fl with
    | ret u => exact I1.after (end_up up hq)
    | next => exact False.elim hq
    | brk => exact False.elim hq
    | cont => exact False.elim hq
/-! ### what was handed in is called -/
def tAct (P : Program) (w : World) (K : PySem.W.Frag) (mg : Str → Option Value) (base : Heap) (k : Nat) (E : L2.St → XK) (to : TE) : TE := fun σ H Q => to σ H fun x H1 => ∃ (f : Addr) (R : Hp → Prop) (tl : Hp → VK → XK → Prop), x = .ref f ∧ Act P w K mg base k f R tl ∧ R H1 ∧ tl H1 Q (E σ)
theorem pe_act {P : Program} {w : World} {K : PySem.W.Frag} {mg : Str → Option Value} {base : Heap} {a : Str} {p1 p2 : Pos} {E : L2.St → XK} (eP : X.prog = P) (ew : X.w = w) (eK : X.K = K) (eg : X.mg = mg) (eb : X.base = base) (hx : ∀ σ, PassesAt (L2.CX X.prog X.w) X σ (E σ)) (hr : Room j X.A) (hk : k ≤ j) (ho : PE X (.Name a p1) to) : PE X (.Call (.Name a p1) [] [] p2) (tAct P w K mg base k E to) := by
  subst eP ew eK eg eb
  refine ⟨fun pins s σ H Q I h => ?_⟩
  refine wpAny_Call_Name_kw (thn (ho.run pins s σ H _ I h) fun u s1 ⟨v, H1, I1, r1, f, R, tl, ev, A, hR, q⟩ => ?_)
  subst ev
  obtain rfl : u = Value.ref f := r1
  refine PySem.W.callWith_F0 (first := []) (A.fn s1 H1 hR I1.hok) ?_
  refine wpAny_call (codeAny_mono (A.run X.A X.stack s1 H1 Q (E σ) (hr.mono hk) I1.env0 hR q) fun r s' hq => ?_)
  cases r with
  | error e => exact hx σ pins H1 s1 e s' I1 hq
  | ok fl =>
    cases fl with
    | ret u => exact I1.after hq
    | next => exact False.elim hq
    | brk => exact False.elim hq
    | cont => exact False.elim hq
end
end
end LM
set_option Elab.async false
set_option maxRecDepth 100000
namespace RS
open PySem PySem.Spec PyProof.Rows L2 GX
theorem sameNew {H H1 : Hp} {a : Addr} {o : HO} (s : Same H H1) (h : H1 a = none) : Same H (upd H1 a o) := fun b u e => by
  rw [upd_ne (ne_of_none (s _ _ e) h)]
  exact s _ _ e
end RS
set_option Elab.async false
set_option maxRecDepth 100000
set_option maxHeartbeats 4000000
namespace RS
open PySem PySem.Spec PyProof.Rows L2 GX
theorem catA_any {K : PySem.W.Frag} {H : Hp} {a b : Addr} {xs ys : List V} {Q : VK} (ha : SqT K H a xs) (hb : SqT K H b ys) (hz : xs.length + ys.length ≤ sizeLine) (q : ∀ p H', Same H H' → SqT K H' p (xs ++ ys) → Q (.ref p) H') : rCatA K (.ref a) (.ref b) H Q :=
  ⟨a, b, xs, ys, rfl, rfl, ha, hb, hz, fun e => q b H (Same.refl H) (by rw [e]; exact hb), fun _ e => q a H (Same.refl H) (by rw [e, List.append_nil]; exact ha), fun _ _ p hp => q p _ (sameNew (Same.refl H) hp) (SqT.of upd_same)⟩
theorem slA_any {K : PySem.W.Frag} {H : Hp} {a : Addr} {xs : List V} {lo hi : Option Int} {Q : VK} (ha : SqT K H a xs) (q : ∀ p H', Same H H' → SqT K H' p (cutV xs lo hi) → Q (.ref p) H') : rSlA K (.ref a) lo hi H Q :=
  ⟨a, xs, rfl, ha, fun ⟨e1, e2⟩ => q a H (Same.refl H) (by
    have : cutV xs lo hi = xs := by
      unfold cutV
      rw [e1, e2, List.drop_zero, Nat.sub_zero, List.take_length]
    rw [this]
    exact ha), fun _ p hp => q p _ (sameNew (Same.refl H) hp) (SqT.of upd_same)⟩
end RS
set_option Elab.async false
set_option maxRecDepth 100000
set_option maxHeartbeats 4000000
namespace RS
open PySem PySem.Spec PyProof.Rows L2 GX LM
/-- an error class without fields -/
structure PlE (K : PySem.W.Frag) (mg : Str → Option Value) (nm : Str) (C : Addr) : Prop where
  x : PySem.W.excIn K C [.type "ValueError", .type "Exception", .type "BaseException", .type "object"] "ValueError.__new__" = true
  g : mg nm = some (.ref C)
  k : PySem.W.keepIn K (.ref C) = true
  b : PySem.W.subIn K (.ref C) (.type "BaseException") = some true
  t : PySem.W.typeIn K (.ref C) = some (.type "type")
/-! ### a op b op c op d -/
section
variable {X : Cx} {a b c d : Expr} {ta tb tc td : TE} {pos : Pos}
def tChain3 (r r' r'' : R2) (ta tb tc td : TE) : TE := fun σ H Q => ta σ H fun x H1 => tb σ H1 fun y H2 => r x y H2 fun z H3 => ∃ k, z = .bl k ∧
  (if k = true then tc σ H3 fun u H4 => r' y u H4 fun z' H5 => ∃ k', z' = .bl k' ∧ (if k' = true then td σ H5 fun v H6 => r'' u v H6 Q else Q (.bl false) H5) else Q (.bl false) H3)
theorem pt_chain3 {op op' op'' : CmpOp} {r r' r'' : R2} (ho : OpR X (compareOp op) r) (ho' : OpR X (compareOp op') r') (ho'' : OpR X (compareOp op'') r'') (ha : PE X a ta) (hb : PE X b tb) (hc : PE X c tc) (hd : PE X d td)
    (hm : lastMarks [op, op', op''] [b, c, d] = false := by with_unfolding_all rfl) : PT X (.Compare a [op, op', op''] [b, c, d] pos) (tTest (tChain3 r r' r'' ta tb tc td)) := by
  refine ⟨fun pins s σ H Q I h => ?_⟩
  refine isTrue_chain (thn (ha.run pins s σ H _ I h) fun v s1 ⟨x, H1, I1, r1, q1⟩ => test_link (thn (hb.run pins s1 σ H1 _ I1 q1) fun u s2 ⟨y, H2, I2, r2, q2⟩ =>
    thn (ho pins s2 σ H2 x y v u _ I2 r1 r2 q2) fun d s3 ⟨z, H3, I3, r3, k, e, q3⟩ => ?_)) hm
  subst e
  cases r3
  refine wpAny_truthy_bool ?_
  cases k with
  | false =>
    obtain ⟨k', e', q'⟩ := q3
    cases e'
    exact ite_ff ⟨H3, I3, q'⟩
  | true =>
    refine ite_tt (test_link (thn (hc.run pins s3 σ H3 _ I3 q3) fun w' s4 ⟨z', H4, I4, r4, q4⟩ => thn (ho' pins s4 σ H4 y z' u w' _ I4 r2 r4 q4) fun d' s5 ⟨z2, H5, I5, r5, k2, e2, q5⟩ => ?_))
    subst e2
    cases r5
    refine wpAny_truthy_bool ?_
    cases k2 with
    | false =>
      obtain ⟨k', e', q'⟩ := q5
      cases e'
      exact ite_ff ⟨H5, I5, q'⟩
    | true =>
      refine ite_tt (test_last (thn (hd.run pins s5 σ H5 _ I5 q5) fun w2 s6 ⟨z3, H6, I6, r6, q6⟩ => thn (ho'' pins s6 σ H6 z' z3 w' w2 _ I6 r4 r6 q6) fun d2 s7 ⟨z4, H7, I7, r7, k4, e4, q7⟩ => ?_))
      subst e4
      cases r7
      exact wpAny_truthy_bool ⟨H7, I7, q7⟩
end
end RS
set_option Elab.async false
set_option maxRecDepth 100000
set_option maxHeartbeats 8000000
namespace RS
open PySem PySem.Spec PyProof.Rows L2 GX
/-- how many parts of n there are -/
def cnt (l n : Nat) : Nat := (Builtin.Range.rangeSize 0 l n).toNat
theorem small_all : ∀ l < 121, ∀ n < 25, 1 ≤ n → Builtin.Range.small 0 (l : Nat) (n : Nat) = true := by decide +kernel
theorem cnt_le : ∀ l < 121, ∀ n < 25, 1 ≤ n → cnt l n ≤ 120 := by decide +kernel
theorem rgc {l n : Nat} (hl : l ≤ 120) (h1 : 1 ≤ n) (h2 : n ≤ 24) : RgC 0 (l : Nat) (n : Nat) (cnt l n) := ⟨by omega, by omega, small_all l (by omega) n (by omega) h1, PyProof.Rows.rangeSize_toNat _ _ _⟩
theorem cutV_mid {xs : List V} {a n : Nat} : cutV xs (some ((a : Nat) : Int)) (some ((a + n : Nat) : Int)) = (xs.drop a).take n := by
  unfold cutV
  rw [HT.sIx_nat, HT.sIx_nat]
  by_cases h : a ≤ xs.length
  · rw [Nat.min_eq_left h]
    by_cases h2 : a + n ≤ xs.length
    · rw [Nat.min_eq_left h2, Nat.add_sub_cancel_left]
    · rw [Nat.min_eq_right (by omega), List.take_of_length_le (by rw [List.length_drop]; exact Nat.le_refl _), List.take_of_length_le (by rw [List.length_drop]; omega)]
  · rw [Nat.min_eq_right (show xs.length ≤ a by omega), Nat.min_eq_right (show xs.length ≤ a + n by omega), List.drop_of_length_le (Nat.le_refl _), List.drop_of_length_le (show xs.length ≤ a by omega)]
    simp
end RS
set_option Elab.async false
set_option maxRecDepth 100000
set_option maxHeartbeats 4000000
namespace RS
open PySem PySem.Spec PyProof.Rows L2 GX
section
variable {X : Cx}
/-- a, b, c = x, y, z with plain local names -/
def tPar3 (i j l : Nat) (ta : TA) : TS := fun D σ H => ta σ H fun vs H1 => ∃ v w z, vs = [v, w, z] ∧ D.nx (((σ.set i (some v)).set j (some w)).set l (some z)) H1
theorem ps_par3 {i j l : Nat} {x y z : Str} {a b c : Expr} {ta : TA} {px py pz pt pos : Pos} {kt k2 pt2} (hc : X.calm = true) (hN : X.N.Nodup) (hi : X.N[i]? = some x) (hj : X.N[j]? = some y) (hl : X.N[l]? = some z) (hij : i ≠ j) (hil : i ≠ l) (hjl : j ≠ l)
    (hx : X.env.scope.names.lookup x = some .local) (hy : X.env.scope.names.lookup y = some .local) (hz : X.env.scope.names.lookup z = some .local) (ha : PA X [a, b, c] ta)
    (hw : swappedStores [.Tuple [.Name x px, .Name y py, .Name z pz] kt pt] (.Tuple [a, b, c] k2 pt2) X.env = pure (some [x, y, z]))
    (hs : swapsWithSole [.Tuple [.Name x px, .Name y py, .Name z pz] kt pt] (.Tuple [a, b, c] k2 pt2) pos.line X.env = pure false := by rfl) :
    PS X (.Assign [.Tuple [.Name x px, .Name y py, .Name z pz] kt pt] (.Tuple [a, b, c] k2 pt2) pos) (tPar3 i j l ta) := by
  refine ⟨fun pins s σ H D I h => ?_⟩
  rw [exec_Assign_arm]
  refine wpAny_bind (wpAny_standAt ?_)
  rw [hs]
  refine wpAny_bind (wpAny_pure ?_)
  rw [if_neg (by decide)]
  refine wpAny_bind (Tuple_ (thn (ha.run _ pins s σ H _ I h) fun us s1 ⟨vs, H1, I1, r1, q1⟩ => ?_))
  obtain ⟨v, w, q, e1, q1⟩ := q1
  subst e1
  obtain ⟨u1, u2, u3, rfl, rv, rw', rq⟩ : ∃ u1 u2 u3, us = [u1, u2, u3] ∧ RelV v u1 ∧ RelV w u2 ∧ RelV q u3 := by
    cases r1 with
    | cons p q =>
      cases q with
      | cons p' q' =>
        cases q' with
        | cons p2 q2 =>
          cases q2
          exact ⟨_, _, _, rfl, p, p', p2⟩
  refine wpAny_newObj_type ?_ (by show 3 ≤ sizeLine; decide)
  have I2 : Inv X pins σ H1 { s1 with heap := s1.heap.push { cls := .type "tuple", data := .seq [u1, u2, u3].toArray } } := I1.kept (t' := s1.toks) fun b o e => Heap.get?_push_of_some _ e
  rw [hw]
  refine wpAny_bind (wpAny_pure ?_)
  show wpAny (model X.prog X.w) X.A (do rule "assign.swapped-stores"; let items ← unpackItems (.ref s1.heap.objs.size) 3 none; assignInOrder [fun v => bindName X.env z v, fun v => bindName X.env y v, fun v => bindName X.env x v] items.reverse; pure Flow.next) _ _ _
  refine wpAny_bind (wpAny_rule (wpAny_bind (unpackItems_tuple (items := #[u1, u2, u3]) (I.ok.hd hc) (IsTup.new s1.heap _) fun h' hx' => ?_)))
  have I3 := I2.kept (h' := h') (t' := s1.toks) fun b o e => hx' b o (Nat.ne_of_lt (Heap.lt_size e)) e
  show wpAny _ _ (assignInOrder [fun v => bindName X.env z v, fun v => bindName X.env y v, fun v => bindName X.env x v] [u3, u2, u1] >>= fun _ => pure Flow.next) _ _ _
  refine wpAny_bind (assignInOrder_cons (wpAny_bindName (store_ok I3 hN hl (.inl hz) rq (fun s2 I4 => ?_) (.inr hz))))
  refine assignInOrder_cons (wpAny_bindName (store_ok I4 hN hj (.inl hy) rw' (fun s3 I5 => ?_) (.inr hy)))
  refine assignInOrder_cons (wpAny_bindName (store_ok I5 hN hi (.inl hx) rv (fun s4 I6 => assignInOrder_nil (wpAny_pure ?_)) (.inr hx)))
  rw [List.set_comm _ _ (Ne.symm hij), List.set_comm _ _ (Ne.symm hil), List.set_comm _ _ (Ne.symm hjl)] at I6
  exact ⟨_, H1, I6, q1⟩
end
end RS
set_option Elab.async false
set_option maxRecDepth 100000
set_option maxHeartbeats 4000000
namespace RS
open PySem PySem.Spec PyProof.Rows L2 GX
theorem dpAll_drop {K : PySem.W.Frag} {H : Hp} : ∀ {xs : List V} {ds : List PyData}, DpAll K H xs ds → ∀ k : Nat, DpAll K H (xs.drop k) (ds.drop k)
  | _, _, h, 0 => h
  | _, _, .nil, _ + 1 => .nil
  | _, _, .cons _ t, k + 1 => dpAll_drop t k
theorem dpAll_take {K : PySem.W.Frag} {H : Hp} : ∀ {xs : List V} {ds : List PyData}, DpAll K H xs ds → ∀ k : Nat, DpAll K H (xs.take k) (ds.take k)
  | _, _, _, 0 => .nil
  | _, _, .nil, _ + 1 => .nil
  | _, _, .cons h t, k + 1 => .cons h (dpAll_take t k)
/-! ### a target that is an attribute -/
def gFld (K : PySem.W.Frag) (to : TE) (f : Str) : TG := fun v σ H Q => to σ H fun x H2 => ∃ a C dx fs, x = .ref a ∧ H2 a = some (.ins C dx fs) ∧ Cls K C ∧ NoAttr K C f ∧ fs.length < 1000 ∧ Q σ (upd H2 a (.ins C dx (putF f v fs)))
theorem pg_fld {X : Cx} {o : Expr} {f : Str} {pos : Pos} {to : TE} (ho : PE X o to) : PG X (.Attribute o f pos) (gFld X.K to f) := by
  refine ⟨fun pins s σ H v u Q I r h => ?_⟩
  rw [arm_assign_Attribute]
  refine wpAny_bind (wpAny_holding (thn (ho.run pins s σ H _ I h) fun ov s1 ⟨x, H1, I1, r1, a, C, dx, fs, ex, ea, c, n, l, q⟩ => ?_))
  subst ex
  obtain rfl : ov = Value.ref a := r1
  refine wpAny_bind (wpAny_standAt (wpAny_bind (wpAny_holding (setattr_ok I1 ea c n l r fun s2 I2 => ?_))))
  exact wpAny_release ⟨σ, _, I2, q⟩
/-! ### methods as constants of a class -/
structure MetC (P : Program) (w : World) (K : PySem.W.Frag) (mg : Str → Option Value) (base : Heap) (CX : CXT) (k : Nat) (C : Addr) (m : Str) (ps : List Str) (sp : Sp) : Prop where
  ex : ∃ (f : Addr) (fd : FuncData), Cls K C ∧ Meth K C m f ∧ FnOk P w K mg base CX k f fd ps sp ∧ Binds K fd ps []
structure MakC (P : Program) (w : World) (K : PySem.W.Frag) (mg : Str → Option Value) (base : Heap) (CX : CXT) (k : Nat) (x : Str) (C : Addr) (ps : List Str) (sp : Sp) : Prop where
  ex : ∃ (f : Addr) (fd : FuncData), Mk K C f ∧ FnOk P w K mg base CX k f fd ps sp ∧ mg x = some (.ref C) ∧ Binds K fd ps []
section
variable {X : Cx} {CX : CXT} {k j : Nat} {C : Addr} {ps : List Str} {sp : Sp} {E : XK} {x m : Str} {p pos apos : Pos} {e o : Expr} {es : List Expr} {ta : TE} {t : TA}
theorem pe_m {pl : Sem Bool} (c : MetC X.prog X.w X.K X.mg X.base CX k C m ps sp) (hr : Room j X.A) (hk : k ≤ j) (hx : Passes CX X E) (he : PE X o ta) (ha : PA X (e :: es) t)
    (hst : starEach (e :: es) X.env = (false, eval e X.env) :: starEach es X.env := by rfl) (hpl : (backTo pos (starEach es X.env)).any (·.1) = false := by rfl)
    (ht : eval (.Call (.Attribute o m apos) (e :: es) [] pos) X.env = (do
      let ov ← eval o X.env
      standAt apos.atName
      let (f, first) ← holding [ov] (getMethod ov m pl)
      callWith pos f first (backTo pos (starEach (e :: es) X.env)) (backToKw pos (keywordEach [] X.env))) := by rfl) :
    PE X (.Call (.Attribute o m apos) (e :: es) [] pos) (tMeth C m sp [] E ta t) := by
  obtain ⟨f, fd, cl, hm, F, hb⟩ := c.ex
  exact pe_meth he cl hm F (hr.mono hk) hb .nil hx ha hst hpl ht
theorem pe_m0 {pl : Sem Bool} (c : MetC X.prog X.w X.K X.mg X.base CX k C m ps sp) (hr : Room j X.A) (hk : k ≤ j) (hx : Passes CX X E) (he : PE X o ta)
    (ht : eval (.Call (.Attribute o m apos) [] [] pos) X.env = (do
      let ov ← eval o X.env
      standAt apos.atName
      let (f, first) ← holding [ov] (getMethod ov m pl)
      callWith pos f first (backTo pos (starEach [] X.env)) (backToKw pos (keywordEach [] X.env))) := by rfl) :
    PE X (.Call (.Attribute o m apos) [] [] pos) (tMeth C m sp [] E ta tNil) := by
  obtain ⟨f, fd, cl, hm, F, hb⟩ := c.ex
  exact pe_meth0 he cl hm F (hr.mono hk) hb .nil hx ht
theorem pe_mk (c : MakC X.prog X.w X.K X.mg X.base CX k x C ps sp) (hr : Room j X.A) (hk : k + 1 ≤ j) (hg : Gl X x) (hx : Passes CX X E) (ha : PA X (e :: es) t) (hdb : (x == ("__debug__" : Str)) = false := by decide)
    (he : starEach (e :: es) X.env = (false, eval e X.env) :: starEach es X.env := by rfl) (hpl : (backTo pos (starEach es X.env)).any (·.1) = false := by rfl) :
    PE X (.Call (.Name x p) (e :: es) [] pos) (tMake C sp [] E t) := by
  obtain ⟨f, fd, M, F, hm, hb⟩ := c.ex
  exact pe_make M F (hr.mono hk) hg hm hb .nil hx ha hdb he hpl
theorem pe_mk0 (c : MakC X.prog X.w X.K X.mg X.base CX k x C ps sp) (hr : Room j X.A) (hk : k + 1 ≤ j) (hg : Gl X x) (hx : Passes CX X E) (hdb : (x == ("__debug__" : Str)) = false := by decide) :
    PE X (.Call (.Name x p) [] [] pos) (tMake C sp [] E tNil) := by
  obtain ⟨f, fd, M, F, hm, hb⟩ := c.ex
  exact pe_make0 M F (hr.mono hk) hg hm hb .nil hx hdb
end
/-! ### attributes in a list -/
theorem putF_eq {f : Str} {v w : V} {r : List (Str × V)} : putF f v ((f, w) :: r) = (f, v) :: r := if_pos rfl
theorem putF_ne {f g : Str} {v w : V} {r : List (Str × V)} (h : ¬ g = f) : putF f v ((g, w) :: r) = (g, w) :: putF f v r := if_neg h
theorem lk_eq {f : Str} {v : V} {r : List (Str × V)} : ((f, v) :: r).lookup f = some v := by simp [List.lookup]
theorem lk_ne {f g : Str} {v : V} {r : List (Str × V)} (h : ¬ f = g) : ((g, v) :: r).lookup f = r.lookup f := by
  have e : (f == g) = false := beq_eq_false_iff_ne.mpr h
  simp [List.lookup, e]
/-! ### all but lists and instances stays -/
def KpS (H H' : Hp) : Prop := ∀ b o, H b = some o → (∀ xs, o ≠ .lst xs) → (∀ C dx fs, o ≠ .ins C dx fs) → H' b = some o
theorem KpS.of {H H' : Hp} (s : Same H H') : KpS H H' := fun b o e _ _ => s b o e
theorem KpS.trans {H H1 H2 : Hp} (a : KpS H H1) (b : KpS H1 H2) : KpS H H2 := fun c o e n1 n2 => b c o (a c o e n1 n2) n1 n2
theorem KpS.lst {H : Hp} {a : Addr} {xs u : List V} (h : H a = some (.lst xs)) : KpS H (upd H a (.lst u)) := fun b o e n _ => by
  rw [upd_ne (fun z => by rw [z, h] at e; exact n _ (Option.some.inj e).symm)]
  exact e
theorem KpS.ins {H : Hp} {a C dx : Addr} {fs : List (Str × V)} {o' : HO} (h : H a = some (.ins C dx fs)) : KpS H (upd H a o') := fun b o e _ n => by
  rw [upd_ne (fun z => by rw [z, h] at e; exact n _ _ _ (Option.some.inj e).symm)]
  exact e
theorem sqT_kp {K : PySem.W.Frag} {H H' : Hp} {a : Addr} {xs : List V} (k : KpS H H') (h : SqT K H a xs) : SqT K H' a xs := by
  rcases h with (h | ⟨o, h⟩) | h
  · exact .inl (.inl (k _ _ h (fun _ z => by cases z) (fun _ _ _ z => by cases z)))
  · exact .inl (.inr ⟨o, k _ _ h (fun _ z => by cases z) (fun _ _ _ z => by cases z)⟩)
  · exact .inr h
mutual
theorem dp_kp {K : PySem.W.Frag} {H H' : Hp} (k : KpS H H') : ∀ (d : PyData) {v : V}, noL d = true → Dp K H v d → Dp K H' v d
  | .none, _, _, .non => .non
  | .bool b, _, _, .bl _ => .bl b
  | .int i, _, _, .int _ => .int i
  | .str x, _, _, .str _ => .str x
  | .list ds, _, h, _ => by cases h
  | .tuple ds, _, h, .tup q hs => .tup (sqT_kp k q) (dpAll_kp k ds h hs)
  | .dict _, _, h, _ => by cases h
theorem dpAll_kp {K : PySem.W.Frag} {H H' : Hp} (k : KpS H H') : ∀ (ds : List PyData) {vs : List V}, noLs ds = true → DpAll K H vs ds → DpAll K H' vs ds
  | [], _, _, .nil => .nil
  | d :: ds, _, h, .cons q hs => by
    unfold noLs at h
    rw [Bool.and_eq_true] at h
    exact .cons (dp_kp k d h.1 q) (dpAll_kp k ds h.2 hs)
end
/-- a method as it stands -/
structure MethAt (K : PySem.W.Frag) (C : Addr) (m qual : Str) (st : Stmt) (f : Addr) (fd : FuncData) : Prop where
  me : Meth K C m f
  fn : L2.Fun K m qual st f fd
theorem lenF1 {f : Str} {v : V} {fs : List (Str × V)} {n : Nat} (h : fs.length ≤ n) : (putF f v fs).length ≤ n + 1 := Nat.le_trans (length_putF f v fs) (Nat.succ_le_succ h)
theorem lenF {f : Str} {v : V} {fs : List (Str × V)} {n : Nat} (h : fs.length ≤ n) (hn : n + 1 < 1000) : (putF f v fs).length < 1000 := Nat.lt_of_le_of_lt (lenF1 h) hn
end RS
set_option Elab.async false
set_option maxRecDepth 100000
set_option maxHeartbeats 4000000
namespace RS
open PySem PySem.Spec PyProof.Rows L2 GX
theorem BoxAt.nb {H : Hp} {B L a : Addr} (h : BoxAt H B L) (ha : H a = none) : a ≠ B ∧ a ≠ L := by
  obtain ⟨_, ⟨s, hb⟩, ⟨ms, hl⟩⟩ := h
  exact ⟨fun z => (by rw [z, hb] at ha; cases ha), fun z => (by rw [z, hl] at ha; cases ha)⟩
theorem BoxAt.upd_ {H : Hp} {B L a : Addr} {o : HO} (h : BoxAt H B L) (nB : a ≠ B) (nL : a ≠ L) : BoxAt (upd H a o) B L := by
  obtain ⟨n, ⟨s, hb⟩, ⟨ms, hl⟩⟩ := h
  exact ⟨n, ⟨s, (upd_ne (Ne.symm nB)).trans hb⟩, ⟨ms, (upd_ne (Ne.symm nL)).trans hl⟩⟩
theorem SameX.new {B L a : Addr} {H H' : Hp} {o : HO} (s : SameX B L H H') (ha : H a = none) : SameX B L H (upd H' a o) := fun b u h1 h2 e => by
  rw [upd_ne (ne_of_none e ha)]
  exact s b u h1 h2 e
theorem SameX.free {B L a : Addr} {H H' : Hp} (s : SameX B L H H') (_b : BoxAt H B L) (ha : H' a = none) (b' : BoxAt H' B L) : H a = none := by
  cases e : H a with
  | none => rfl
  | some o =>
    obtain ⟨n1, n2⟩ := b'.nb ha
    rw [s a o n1 n2 e] at ha
    cases ha
theorem ix_listC {X : Cx} {K : PySem.W.Frag} (e : X.K = K) : IxR X (rIxL K) := by
  subst e
  exact ix_list
theorem ix_tupC {X : Cx} {K : PySem.W.Frag} (e : X.K = K) : IxR X (rIxT K) := by
  subst e
  exact ix_tup
theorem ixDC {X : Cx} {K : PySem.W.Frag} (e : X.K = K) : IxR X (fun x y H Q => ∃ d ds i d', Dp K H x d ∧ itemsD d = some ds ∧ y = .int i ∧ atI ds i = some d' ∧ ∀ v, Dp K H v d' → Q v H) := by
  subst e
  exact ixD
/-- what has no list of its own stays -/
theorem sqT_x {K : PySem.W.Frag} {H H' : Hp} {B L a : Addr} {xs : List V} (b : BoxAt H B L) (s : SameX B L H H') (h : SqT K H a xs) : SqT K H' a xs := by
  obtain ⟨_, ⟨st, hb⟩, ⟨ms, hl⟩⟩ := b
  rcases h with (h | ⟨o, h⟩) | h
  · exact .inl (.inl (s a _ (fun z => by rw [z, hb] at h; cases h) (fun z => by rw [z, hl] at h; cases h) h))
  · exact .inl (.inr ⟨o, s a _ (fun z => by rw [z, hb] at h; cases h) (fun z => by rw [z, hl] at h; cases h) h⟩)
  · exact .inr h
mutual
theorem dp_x {K : PySem.W.Frag} {H H' : Hp} {B L : Addr} (b : BoxAt H B L) (s : SameX B L H H') : ∀ (d : PyData) {v : V}, noL d = true → Dp K H v d → Dp K H' v d
  | .none, _, _, .non => .non
  | .bool x, _, _, .bl _ => .bl x
  | .int i, _, _, .int _ => .int i
  | .str x, _, _, .str _ => .str x
  | .list ds, _, h, _ => by cases h
  | .tuple ds, _, h, .tup q hs => .tup (sqT_x b s q) (dpAll_x b s ds h hs)
  | .dict _, _, h, _ => by cases h
theorem dpAll_x {K : PySem.W.Frag} {H H' : Hp} {B L : Addr} (b : BoxAt H B L) (s : SameX B L H H') : ∀ (ds : List PyData) {vs : List V}, noLs ds = true → DpAll K H vs ds → DpAll K H' vs ds
  | [], _, _, .nil => .nil
  | d :: ds, _, h, .cons q hs => by
    unfold noLs at h
    rw [Bool.and_eq_true] at h
    exact .cons (dp_x b s d h.1 q) (dpAll_x b s ds h.2 hs)
end
end RS
set_option Elab.async false
set_option maxRecDepth 100000
set_option maxHeartbeats 4000000
set_option pp.maxSteps 400
namespace RS
open PySem PySem.Spec PyProof.Rows L2 GX HQ
/-! ### Stretches as they lie in the heap -/
def fldsT (a : Addr) (w : Nat) (N D : Addr) : List (Str × V) := [("lengths", .ref a), ("ways", .int (w : Nat)), ("numbers", .ref N), ("parted", .ref D)]
theorem le64T {n : Nat} (h : n + 64 < cLine) : n + 1 < cLine := by omega
theorem pe_fldC {X : Cx} {K : PySem.W.Frag} {e : Expr} {ta : TE} {f : Str} {pos : Pos} (hk : X.K = K) (he : PE X e ta) (hb : attributeBase e f X.env (eval e X.env) = eval e X.env) : PE X (.Attribute e f pos) (tFld K ta f) := by
  subst hk
  exact pe_fld he hb
theorem twl : ¬ (("ways" : Str) = "lengths") := by decide +kernel
theorem tnl : ¬ (("numbers" : Str) = "lengths") := by decide +kernel
theorem tnw : ¬ (("numbers" : Str) = "ways") := by decide +kernel
theorem tpl : ¬ (("parted" : Str) = "lengths") := by decide +kernel
theorem tpw : ¬ (("parted" : Str) = "ways") := by decide +kernel
theorem tpn : ¬ (("parted" : Str) = "numbers") := by decide +kernel
section
variable {a N D : Addr} {w : Nat}
theorem ft_len : (fldsT a w N D).lookup ("lengths" : Str) = some (.ref a) := lk_eq
theorem ft_ways : (fldsT a w N D).lookup ("ways" : Str) = some (.int (w : Nat)) := (lk_ne twl).trans lk_eq
theorem ft_num : (fldsT a w N D).lookup ("numbers" : Str) = some (.ref N) := (lk_ne tnl).trans ((lk_ne tnw).trans lk_eq)
theorem ft_part : (fldsT a w N D).lookup ("parted" : Str) = some (.ref D) := (lk_ne tpl).trans ((lk_ne tpw).trans ((lk_ne tpn).trans lk_eq))
theorem ft_no {f : Str} (h1 : ¬ f = "lengths") (h2 : ¬ f = "ways") (h3 : ¬ f = "numbers") (h4 : ¬ f = "parted") : (fldsT a w N D).lookup f = none := (lk_ne h1).trans ((lk_ne h2).trans ((lk_ne h3).trans ((lk_ne h4).trans rfl)))
end
structure TxT (K : PySem.W.Frag) (C : Addr) : Prop where
  cl : Cls K C
  nL : NoAttr K C "lengths"
  nW : NoAttr K C "ways"
  nN : NoAttr K C "numbers"
  nP : NoAttr K C "parted"
abbrev kI (n : Nat) : Key := .inl (n : Int)
abbrev key2 (b e : Nat) : List Key := [kI b, kI e]
abbrev key3 (b e p : Nat) : List Key := [kI b, kI e, kI p]
/-- a pair of numbers as a tuple -/
def TupAt (H : Hp) (v : V) (p : Int × Int) : Prop := ∃ t, v = .ref t ∧ H t = some (.tup [.int p.1, .int p.2])
/-- what is noted: W says of which stretches, f the numbers, q how many parts there may be of each -/
structure StAt (C : Addr) (ls : List Nat) (w : Nat) (f : Nat → Nat → Int) (W : Nat → Nat → Prop) (H : Hp) (x a N D : Addr) (m : Nat) : Prop where
  o : ∃ dx, H x = some (.ins C dx (fldsT a w N D))
  l : H a = some (.lst (ls.map fun n => V.int (n : Nat)))
  nm : ∃ kvs : List (List Key × V), H N = some (.dT kvs) ∧ kvs.length ≤ m ∧ ∀ b e, W b e → valV kvs (key2 b e) = some (.int (f b e))
  pd : ∃ kvs : List (List Key × V), H D = some (.dT kvs) ∧ kvs.length ≤ 5 * m ∧ ∀ b e p, W b e → p + 2 ≤ w → ∃ v, valV kvs (key3 b e (p + 1)) = some v ∧ TupAt H v (pt f p b e)
theorem TupAt.same {H H' : Hp} {v : V} {p : Int × Int} (h : TupAt H v p) (s : ∀ b l, H b = some (.tup l) → H' b = some (.tup l)) : TupAt H' v p := by
  obtain ⟨t, rfl, ht⟩ := h
  exact ⟨t, rfl, s _ _ ht⟩
section
variable {C : Addr} {ls : List Nat} {w : Nat} {f : Nat → Nat → Int} {W : Nat → Nat → Prop} {H H2 : Hp} {x a N D : Addr} {m : Nat}
theorem StAt.grow (h : StAt C ls w f W H x a N D m) (s : Same H H2) : StAt C ls w f W H2 x a N D m := by
  obtain ⟨dx, hx⟩ := h.o
  obtain ⟨kn, hn, ln, gn⟩ := h.nm
  obtain ⟨kp, hp, lp, gp⟩ := h.pd
  refine ⟨⟨dx, s _ _ hx⟩, s _ _ h.l, ⟨kn, s _ _ hn, ln, gn⟩, kp, s _ _ hp, lp, fun b e p hW hw => ?_⟩
  obtain ⟨v, h1, h2⟩ := gp b e p hW hw
  exact ⟨v, h1, h2.same fun b l e => s b _ e⟩
end
theorem TupAt.dp {K : PySem.W.Frag} {H : Hp} {v : V} {p : Int × Int} (h : TupAt H v p) : Dp K H v (prD p) := by
  obtain ⟨t, rfl, ht⟩ := h
  exact .tup (SqT.of ht) (.cons (.int _) (.cons (.int _) .nil))
theorem dpAll_of {K : PySem.W.Frag} {H : Hp} : ∀ {ts : List V} {qs : List (Int × Int)}, ts.length = qs.length → (∀ (j : Nat) (v : V) (q : Int × Int), ts[j]? = some v → qs[j]? = some q → TupAt H v q) → DpAll K H ts (qs.map prD)
  | [], [], _, _ => .nil
  | v :: ts, q :: qs, hl, h => .cons (h 0 v q rfl rfl).dp (dpAll_of (Nat.succ.inj hl) fun j v q e1 e2 => h (j + 1) v q e1 e2)
  | [], _ :: _, hl, _ => by cases hl
  | _ :: _, [], hl, _ => by cases hl
theorem StAt.weak {C : Addr} {ls : List Nat} {w : Nat} {f : Nat → Nat → Int} {W W' : Nat → Nat → Prop} {H : Hp} {x a N D : Addr} {m : Nat} (h : StAt C ls w f W H x a N D m) (hw : ∀ b e, W' b e → W b e) : StAt C ls w f W' H x a N D m := by
  obtain ⟨kn, hn, ln, gn⟩ := h.nm
  obtain ⟨kp, hp, lp, gp⟩ := h.pd
  exact ⟨h.o, h.l, ⟨kn, hn, ln, fun b e z => gn b e (hw b e z)⟩, kp, hp, lp, fun b e p z => gp b e p (hw b e z)⟩
theorem key2_eq {b e b' e' : Nat} : key2 b e = key2 b' e' ↔ b = b' ∧ e = e' := by
  constructor
  · intro h
    injection h with h1 h2
    injection h2 with h2 _
    have h1 := Sum.inl.inj h1
    have h2 := Sum.inl.inj h2
    omega
  · rintro ⟨rfl, rfl⟩
    rfl
theorem key3_eq {b e p b' e' p' : Nat} : key3 b e p = key3 b' e' p' ↔ b = b' ∧ e = e' ∧ p = p' := by
  constructor
  · intro h
    injection h with h1 h2
    injection h2 with h2 h3
    injection h3 with h3 _
    have h1 := Sum.inl.inj h1
    have h2 := Sum.inl.inj h2
    have h3 := Sum.inl.inj h3
    omega
  · rintro ⟨rfl, rfl, rfl⟩
    rfl
/-- one more stretch is noted -/
def Wx (W : Nat → Nat → Prop) (b e : Nat) : Nat → Nat → Prop := fun b' e' => W b' e' ∨ (b' = b ∧ e' = e)
/-- while a stretch is noted: its number is, and i numbers of parts -/
structure NtAt (C : Addr) (ls : List Nat) (w : Nat) (f : Nat → Nat → Int) (W : Nat → Nat → Prop) (H : Hp) (x a N D : Addr) (m b e i : Nat) : Prop where
  o : ∃ dx, H x = some (.ins C dx (fldsT a w N D))
  l : H a = some (.lst (ls.map fun n => V.int (n : Nat)))
  nm : ∃ kvs : List (List Key × V), H N = some (.dT kvs) ∧ kvs.length ≤ m + 1 ∧ ∀ b' e', Wx W b e b' e' → valV kvs (key2 b' e') = some (.int (f b' e'))
  pd : ∃ kvs : List (List Key × V), H D = some (.dT kvs) ∧ kvs.length ≤ 5 * m + i ∧ ∀ b' e' p, (W b' e' ∧ p + 2 ≤ w) ∨ (b' = b ∧ e' = e ∧ p < i) → ∃ v, valV kvs (key3 b' e' (p + 1)) = some v ∧ TupAt H v (pt f p b' e')
/-- all but two dicts stays -/
def Frt (H H' : Hp) (N D : Addr) : Prop := ∀ b o, H b = some o → b ≠ N → b ≠ D → H' b = some o
section
variable {C : Addr} {ls : List Nat} {w : Nat} {f : Nat → Nat → Int} {W : Nat → Nat → Prop} {H H2 : Hp} {x a N D : Addr} {m b e i : Nat}
theorem Frt.trans {H1 : Hp} (p : Frt H H1 N D) (q : Frt H1 H2 N D) : Frt H H2 N D := fun c o e n1 n2 => q c o (p c o e n1 n2) n1 n2
theorem Frt.of (s : Same H H2) : Frt H H2 N D := fun c o e _ _ => s c o e
theorem NtAt.st (h : NtAt C ls w f W H x a N D m b e i) (hi : i ≤ 5) : StAt C ls w f W H x a N D (m + 1) := by
  obtain ⟨kn, hn, ln, gn⟩ := h.nm
  obtain ⟨kp, hp, lp, gp⟩ := h.pd
  exact ⟨h.o, h.l, ⟨kn, hn, ln, fun b' e' z => gn b' e' (.inl z)⟩, kp, hp, by omega, fun b' e' p z1 z2 => gp b' e' p (.inl ⟨z1, z2⟩)⟩
theorem NtAt.fin (h : NtAt C ls w f W H x a N D m b e i) (hi : i ≤ 5) (hw : w ≤ i + 1) : StAt C ls w f (Wx W b e) H x a N D (m + 1) := by
  obtain ⟨kn, hn, ln, gn⟩ := h.nm
  obtain ⟨kp, hp, lp, gp⟩ := h.pd
  refine ⟨h.o, h.l, ⟨kn, hn, ln, gn⟩, kp, hp, by omega, fun b' e' p z1 z2 => ?_⟩
  rcases z1 with z | ⟨z3, z4⟩
  · exact gp b' e' p (.inl ⟨z, z2⟩)
  · exact gp b' e' p (.inr ⟨z3, z4, by omega⟩)
theorem NtAt.grow (h : NtAt C ls w f W H x a N D m b e i) (s : Same H H2) : NtAt C ls w f W H2 x a N D m b e i := by
  obtain ⟨dx, hx⟩ := h.o
  obtain ⟨kn, hn, ln, gn⟩ := h.nm
  obtain ⟨kp, hp, lp, gp⟩ := h.pd
  refine ⟨⟨dx, s _ _ hx⟩, s _ _ h.l, ⟨kn, s _ _ hn, ln, gn⟩, kp, s _ _ hp, lp, fun b' e' p z => ?_⟩
  obtain ⟨v, h1, h2⟩ := gp b' e' p z
  exact ⟨v, h1, h2.same fun b l e => s b _ e⟩
/-- the number is noted -/
theorem StAt.num (h : StAt C ls w f W H x a N D m) {kvs : List (List Key × V)} (hn : H N = some (.dT kvs)) (hND : N ≠ D) : NtAt C ls w f W (upd H N (.dT (putK kvs (key2 b e) (.int (f b e))))) x a N D m b e 0 := by
  obtain ⟨dx, hx⟩ := h.o
  obtain ⟨kn, hn', ln, gn⟩ := h.nm
  obtain ⟨kp, hp, lp, gp⟩ := h.pd
  have e0 : kn = kvs := by
    rw [hn] at hn'
    injection hn' with z
    injection z with z
    exact z.symm
  subst e0
  have nx : x ≠ N := fun z => by rw [z, hn] at hx; cases hx
  have na : a ≠ N := fun z => by have := h.l; rw [z, hn] at this; cases this
  refine ⟨⟨dx, (upd_ne nx).trans hx⟩, (upd_ne na).trans h.l, ⟨_, upd_same, Nat.le_trans (length_putK _ _ _) (by omega), fun b' e' z => ?_⟩, kp, (upd_ne (Ne.symm hND)).trans hp, by omega, fun b' e' p z => ?_⟩
  · rw [valV_put]
    by_cases q : key2 b' e' = key2 b e
    · rw [if_pos q]
      obtain ⟨rfl, rfl⟩ := key2_eq.mp q
      rfl
    · rw [if_neg q]
      rcases z with z | ⟨rfl, rfl⟩
      · exact gn _ _ z
      · exact absurd rfl q
  · rcases z with ⟨z1, z2⟩ | ⟨_, _, z⟩
    · obtain ⟨v, h1, t, rfl, ht⟩ := gp _ _ _ z1 z2
      exact ⟨_, h1, t, rfl, (upd_ne fun z => by rw [z, hn] at ht; cases ht).trans ht⟩
    · omega
/-- a further number of parts is noted -/
theorem NtAt.put (h : NtAt C ls w f W H x a N D m b e i) {kvs : List (List Key × V)} {v : V} (hd : H D = some (.dT kvs)) (hND : N ≠ D) (hv : TupAt H v (pt f i b e)) : NtAt C ls w f W (upd H D (.dT (putK kvs (key3 b e (i + 1)) v))) x a N D m b e (i + 1) := by
  obtain ⟨dx, hx⟩ := h.o
  obtain ⟨kn, hn, ln, gn⟩ := h.nm
  obtain ⟨kp, hp, lp, gp⟩ := h.pd
  have e0 : kp = kvs := by
    rw [hd] at hp
    injection hp with z
    injection z with z
    exact z.symm
  subst e0
  have nx : x ≠ D := fun z => by rw [z, hd] at hx; cases hx
  have na : a ≠ D := fun z => by have := h.l; rw [z, hd] at this; cases this
  refine ⟨⟨dx, (upd_ne nx).trans hx⟩, (upd_ne na).trans h.l, ⟨kn, (upd_ne hND).trans hn, ln, gn⟩, _, upd_same, Nat.le_trans (length_putK _ _ _) (by omega), fun b' e' p z => ?_⟩
  rw [valV_put]
  by_cases q : key3 b' e' (p + 1) = key3 b e (i + 1)
  · rw [if_pos q]
    obtain ⟨rfl, rfl, q3⟩ := key3_eq.mp q
    have : p = i := by omega
    subst this
    obtain ⟨t, e1, ht⟩ := hv
    exact ⟨v, rfl, t, e1, (upd_ne fun z => by rw [z, hd] at ht; cases ht).trans ht⟩
  · rw [if_neg q]
    have z' : (W b' e' ∧ p + 2 ≤ w) ∨ (b' = b ∧ e' = e ∧ p < i) := by
      rcases z with z | ⟨z1, z2, z3⟩
      · exact .inl z
      · refine .inr ⟨z1, z2, ?_⟩
        rcases Nat.lt_or_ge p i with z4 | z4
        · exact z4
        · exact absurd (key3_eq.mpr ⟨z1, z2, by omega⟩) q
    obtain ⟨v', h1, t, e1, ht⟩ := gp _ _ _ z'
    exact ⟨v', h1, t, e1, (upd_ne fun z => by rw [z, hd] at ht; cases ht).trans ht⟩
end
/-! ### the promises -/
def spTLeast (C : Addr) : Sp := fun vs H Q _ => ∃ (x a N D : Addr) (ls : List Nat) (w m b e p : Nat) (f : Nat → Nat → Int) (W : Nat → Nat → Prop), vs = [.ref x, .int (b : Nat), .int (e : Nat), .int ((p + 2 : Nat) : Int)] ∧ StAt C ls w f W H x a N D m ∧ b + 2 ≤ e ∧ e ≤ 40 ∧ p + 2 ≤ w ∧ (∀ c, b < c → c < e → W b c ∧ W c e) ∧
  ∀ (H' : Hp) (t : Addr), Same H H' → H' t = some (.tup [.int (leastT f p b e).1, .int (leastT f p b e).2]) → Q (.ref t) H'
section
variable {P : Program} {w : World} {K : PySem.W.Frag} {mg : Str → Option Value} {base : Heap}
theorem scTLeast : FnScope ["self", "begin", "end", "parts", "cut"] ["self", "begin", "end", "parts"] (defScope s_Stretches_least) := ⟨rfl, rfl, rfl, by decide +kernel, rfl, by decide +kernel, by decide +kernel⟩
theorem tleast_ok {f C : Addr} {fd : FuncData} (X : TxT K C) (M : MethAt K C "least" "Stretches.least" s_Stretches_least f fd) (T : Txt K mg) (hmin : mg "min" = none) : MetC P w K mg base CX0 1 C "least" ["self", "begin", "end", "parts"] (spTLeast C) := by
  have sc := scTLeast
  refine ⟨f, fd, X.cl, M.me, ?_, M.fn.binds (fun _ _ _ _ _ _ us hl => match us, hl with | [_, _, _, _], _ => rfl)⟩
  refine M.fn.ok sc (fun vs H Q E h => ?_) (fun cdv A outer s H vs Q E hr h => ?_)
  · obtain ⟨x, a, N, D, ls, w, m, b, e, p, f, W, rfl, _⟩ := h
    rfl
  · obtain ⟨x, a, N, D, ls, w, m, b, e, p, g, W, rfl, st, hbe, he, hpw, hW, k⟩ := h
    have hu := hr.units
    obtain ⟨dx, hx⟩ := st.o
    refine ⟨_, (pss_one (ps_ret (pe_callB (cr_minP rfl hu) (by rfl) hmin (by decide +kernel) (pa_cons (pe_lc (own := [("cut", 4)]) (tt := tYes)  rfl sc.nd (pi_range2 (by rfl) T.range (pa_cons (pe_op op_add (pv 1) pe_int) (pa_cons (pv 2) pa_nil))) (blkOk_by (N := ["self", "begin", "end", "parts", "cut"]) (sc := defScope s_Stretches_least) (own := [("cut", 4)]) (by decide +kernel)) (fun _ _ _ _ _ => (pg_name (i := 4) sc.nd rfl (Or.inl rfl))) (fun _ _ _ _ _ => pts_nil) (fun _ _ _ _ _ => (pe_tup (pa_cons (pe_op op_add (pe_dget (by exact le64T hu) (pe_fldC (K := K) rfl (pv 0) rfl) (pe_tup (pa_cons (pv 1) (pa_cons (pv 4) pa_nil))) (by intro _ _; rfl)) (pe_ix (ix_tupC (K := K) rfl) (pe_dget (by exact le64T hu) (pe_fldC (K := K) rfl (pv 0) rfl) (pe_tup (pa_cons (pv 4) (pa_cons (pv 2) (pa_cons (pe_op op_sub (pv 3) pe_int) pa_nil)))) (by intro _ _; rfl)) pe_int (fun _ _ => rfl))) (pa_cons (pv 4) pa_nil))))) pa_nil)))), ?_⟩
    refine ⟨_, rfl, _, _, rfl, rfl, _, rfl, ?_⟩
    refine ⟨_, _, rfl, ⟨by omega, by omega, by omega, by omega⟩, fun L hL => ?_⟩
    rw [show ((e : Int) - ((b : Int) + 1)).toNat = e - (b + 1) by omega]
    obtain ⟨kn, hn, _, gn⟩ := st.nm
    obtain ⟨kp, hp, _, gp⟩ := st.pd
    have lc := cands_len (f := g) (g := pt g p) (b := b) (e := e)
    refine lc_range (fun i H' => Same H H' ∧ ∃ ts : List V, H' L = some (.lst ts) ∧ ts.length = i ∧ ∀ (j : Nat) (v : V) (q : Int × Int), ts[j]? = some v → (cands g (pt g p) b e)[j]? = some q → TupAt H' v q) ⟨sameNew (Same.refl H) hL, [], upd_same, rfl, fun j v q e => by cases e⟩ ?_ ?_
    · rintro i H1 hi ⟨sm, ts, hl, lt, hdd⟩
      have ec : ((b : Nat) : Int) + 1 + (i : Nat) = ((b + 1 + i : Nat) : Int) := by omega
      simp only [ec]
      obtain ⟨w1, w2⟩ := hW (b + 1 + i) (by omega) (by omega)
      obtain ⟨v2, g2, t2, rfl, gt2⟩ := gp _ _ p w2 hpw
      have hx1 := sm _ _ hx
      refine ⟨rfl, _, rfl, x, C, dx, _, _, rfl, hx1, X.cl, X.nN, ft_num, _, rfl, _, rfl, by show 2 ≤ sizeLine; decide, fun t1 nt1 => ?_⟩
      have s2 := sameNew (o := .tup [.int (b : Nat), .int ((b + 1 + i : Nat) : Int)]) (Same.refl H1) nt1
      have hT2 : upd H1 t1 (.tup [.int (b : Nat), .int ((b + 1 + i : Nat) : Int)]) t1 = some (.tup [.int (b : Nat), .int ((b + 1 + i : Nat) : Int)]) := upd_same
      generalize upd H1 t1 (.tup [.int (b : Nat), .int ((b + 1 + i : Nat) : Int)]) = H2 at s2 hT2 ⊢
      have s02 := sm.trans s2
      refine ⟨N, .int (g b (b + 1 + i)), rfl, by rw [← gn _ _ w1]; exact DGet.t (s02 _ _ hn) hT2, ?_⟩
      refine ⟨_, rfl, x, C, dx, _, _, rfl, s02 _ _ hx, X.cl, X.nP, ft_part, _, rfl, _, rfl, _, rfl, _, _, rfl, rfl, by show 3 ≤ sizeLine; decide, fun t3 nt3 => ?_⟩
      dsimp only
      rw [show ((p + 2 : Nat) : Int) - 1 = ((p + 1 : Nat) : Int) by omega]
      have s3 := sameNew (o := .tup [.int ((b + 1 + i : Nat) : Int), .int (e : Nat), .int ((p + 1 : Nat) : Int)]) (Same.refl H2) nt3
      have hT3 : upd H2 t3 (.tup [.int ((b + 1 + i : Nat) : Int), .int (e : Nat), .int ((p + 1 : Nat) : Int)]) t3 = some (.tup [.int ((b + 1 + i : Nat) : Int), .int (e : Nat), .int ((p + 1 : Nat) : Int)]) := upd_same
      generalize upd H2 t3 (.tup [.int ((b + 1 + i : Nat) : Int), .int (e : Nat), .int ((p + 1 : Nat) : Int)]) = H3 at s3 hT3 ⊢
      have s03 := s02.trans s3
      refine ⟨D, .ref t2, rfl, by rw [← g2]; exact DGet.t (s03 _ _ hp) hT3, ?_⟩
      refine ⟨t2, _, _, _, rfl, rfl, SqT.of (s03 _ _ gt2), atI_nat (j := 0) rfl, ?_⟩
      refine ⟨_, _, rfl, rfl, _, rfl, by show 2 ≤ sizeLine; decide, fun t4 nt4 => ?_⟩
      have s4 := sameNew (o := .tup [.int (g b (b + 1 + i) + (pt g p (b + 1 + i) e).1), .int ((b + 1 + i : Nat) : Int)]) (Same.refl H3) nt4
      have hT4 : upd H3 t4 (.tup [.int (g b (b + 1 + i) + (pt g p (b + 1 + i) e).1), .int ((b + 1 + i : Nat) : Int)]) t4 = some (.tup [.int (g b (b + 1 + i) + (pt g p (b + 1 + i) e).1), .int ((b + 1 + i : Nat) : Int)]) := upd_same
      generalize upd H3 t4 (.tup [.int (g b (b + 1 + i) + (pt g p (b + 1 + i) e).1), .int ((b + 1 + i : Nat) : Int)]) = H4 at s4 hT4 ⊢
      have s14 := (s2.trans s3).trans s4
      have hl4 := s14 _ _ hl
      have nL4 : t4 ≠ L := fun z => by rw [z, s3 _ _ (s2 _ _ hl)] at nt4; cases nt4
      refine ⟨ts, hl4, small1000 (by omega), fun b o q => ?_, _, upd_same, by rw [List.length_append, lt]; rfl, fun j v q e1 e2 => ?_⟩
      · rw [upd_ne (ne_of_none q hL)]
        exact s14 _ _ (sm _ _ q)
      · have keep : ∀ bb l, H1 bb = some (.tup l) → upd H4 L (.lst (ts ++ [.ref t4])) bb = some (.tup l) := fun bb l q => by
          rw [upd_ne fun z => by rw [z, hl] at q; cases q]
          exact s14 _ _ q
        rcases Nat.lt_trichotomy j i with hj | hj | hj
        · rw [List.getElem?_append_left (by omega)] at e1
          exact (hdd j v q e1 e2).same keep
        · subst hj
          rw [List.getElem?_append_right (by omega), lt, Nat.sub_self] at e1
          unfold cands at e2
          rw [List.getElem?_map, List.getElem?_range (by omega)] at e2
          rw [← Option.some.inj e1, ← Option.some.inj e2]
          exact ⟨t4, rfl, (upd_ne nL4).trans hT4⟩
        · rw [List.getElem?_eq_none (by rw [List.length_append, lt]; show i + 1 ≤ j; omega)] at e1
          cases e1
    · rintro H1 ⟨sm, ts, hl, lt, hdd⟩
      refine ⟨L, ts, cands g (pt g p) b e, rfl, SqL.of hl, dpAll_of (by rw [lc]; exact lt) hdd, cands_ne hbe, fun j u q e1 e2 e3 => ?_⟩
      have eq : q = leastT g p b e := lstF_uni (List.mem_of_getElem? e2) e3
      obtain ⟨t, rfl, ht⟩ := hdd j u q e1 e2
      rw [eq] at ht
      exact k H1 t sm ht
theorem scTNoted : FnScope ["self", "begin", "end"] ["self", "begin", "end"] (defScope s_Stretches_noted) := ⟨rfl, rfl, rfl, by decide +kernel, rfl, by decide +kernel, by decide +kernel⟩
def spTNoted (C : Addr) : Sp := fun vs H Q _ => ∃ (x a N D : Addr) (ls : List Nat) (w m b e : Nat) (f : Nat → Nat → Int) (W : Nat → Nat → Prop), vs = [.ref x, .int (b : Nat), .int (e : Nat)] ∧ StAt C ls w f W H x a N D m ∧ W b e ∧
  ∀ (H' : Hp), Same H H' → Q (.int (f b e)) H'
theorem tnoted_ok {f C : Addr} {fd : FuncData} (X : TxT K C) (M : MethAt K C "noted" "Stretches.noted" s_Stretches_noted f fd) : MetC P w K mg base CX0 1 C "noted" ["self", "begin", "end"] (spTNoted C) := by
  have sc := scTNoted
  refine ⟨f, fd, X.cl, M.me, ?_, M.fn.binds (fun _ _ _ _ _ _ us hl => match us, hl with | [_, _, _], _ => rfl)⟩
  refine M.fn.ok sc (fun vs H Q E h => ?_) (fun cdv A outer s H vs Q E hr h => ?_)
  · obtain ⟨x, a, N, D, ls, w, m, b, e, f, W, rfl, _⟩ := h
    rfl
  · obtain ⟨x, a, N, D, ls, w, m, b, e, g, W, rfl, st, hW, k⟩ := h
    have hu := hr.units
    obtain ⟨dx, hx⟩ := st.o
    obtain ⟨kn, hn, _, gn⟩ := st.nm
    refine ⟨_, (pss_one (ps_ret (pe_dget (le64T hu) (pe_fld (pv 0) rfl) (pe_tup (pa_cons (pv 1) (pa_cons (pv 2) pa_nil))) (by intro _ _; rfl)))), ?_⟩
    refine ⟨_, rfl, x, C, dx, _, _, rfl, hx, X.cl, X.nN, ft_num, _, rfl, _, rfl, by show 2 ≤ sizeLine; decide, fun t1 nt1 => ?_⟩
    have s2 := sameNew (o := .tup [.int (b : Nat), .int (e : Nat)]) (Same.refl H) nt1
    have hT2 : upd H t1 (.tup [.int (b : Nat), .int (e : Nat)]) t1 = some (.tup [.int (b : Nat), .int (e : Nat)]) := upd_same
    generalize upd H t1 (.tup [.int (b : Nat), .int (e : Nat)]) = H2 at s2 hT2 ⊢
    exact ⟨N, .int (g b e), rfl, by rw [← gn _ _ hW]; exact DGet.t (s2 _ _ hn) hT2, k H2 s2⟩
theorem scTLimit : FnScope ["self", "begin", "end"] ["self", "begin", "end"] (defScope s_Stretches_limit) := ⟨rfl, rfl, rfl, by decide +kernel, rfl, by decide +kernel, by decide +kernel⟩
def spTLimit (C : Addr) : Sp := fun vs H Q _ => ∃ (x a N D : Addr) (ls : List Nat) (w m b e : Nat) (f : Nat → Nat → Int) (W : Nat → Nat → Prop), vs = [.ref x, .int (b : Nat), .int (e : Nat)] ∧ StAt C ls w f W H x a N D m ∧ b + 2 ≤ e ∧ e ≤ 40 ∧ 2 ≤ w ∧ (∀ c, b < c → c < e → W b c ∧ W c e) ∧
  ∀ (H' : Hp), Same H H' → Q (.int (limT ls f w b e)) H'
theorem tlimit_ok {f C : Addr} {fd : FuncData} (X : TxT K C) (M : MethAt K C "limit" "Stretches.limit" s_Stretches_limit f fd) (T : Txt K mg) (hsum : mg "sum" = none) (cL : MetC P w K mg base CX0 1 C "least" ["self", "begin", "end", "parts"] (spTLeast C)) : MetC P w K mg base CX0 2 C "limit" ["self", "begin", "end"] (spTLimit C) := by
  have sc := scTLimit
  refine ⟨f, fd, X.cl, M.me, ?_, M.fn.binds (fun _ _ _ _ _ _ us hl => match us, hl with | [_, _, _], _ => rfl)⟩
  refine M.fn.ok sc (fun vs H Q E h => ?_) (fun cdv A outer s H vs Q E hr h => ?_)
  · obtain ⟨x, a, N, D, ls, w, m, b, e, f, W, rfl, _⟩ := h
    rfl
  · obtain ⟨x, a, N, D, ls, w, m, b, e, g, W, rfl, st, hbe, he, hw2, hW, k⟩ := h
    have hu := hr.units
    obtain ⟨dx, hx⟩ := st.o
    refine ⟨_, (pss_one (ps_ret (pe_op op_add (pe_callB (cr_sum rfl) (by rfl) hsum (by decide +kernel) (pa_cons (pe_slice sl_list (pe_fld (pv 0) rfl) (po_some (pv 1)) (po_some (pv 2))) pa_nil)) (pe_ix ix_tup (pe_m cL hr (by decide) pass0 (pv 0) (pa_cons (pv 1) (pa_cons (pv 2) (pa_cons (pe_fld (pv 0) rfl) pa_nil)))) pe_int (fun _ _ => rfl))))), ?_⟩
    refine ⟨_, rfl, x, C, dx, _, _, rfl, hx, X.cl, X.nL, ft_len, _, rfl, _, rfl, _, rfl, _, rfl, a, _, rfl, SqL.of st.l, fun p np => ?_⟩
    have hcut : cutV (ls.map fun n => V.int (n : Nat)) (some ((b : Nat) : Int)) (some ((e : Nat) : Int)) = (((ls.take e).drop b).map fun n => ((n : Nat) : Int)).map V.int := by
      rw [show ((e : Nat) : Int) = ((b + (e - b) : Nat) : Int) by omega, cutV_mid, List.drop_take, ← List.map_drop, ← List.map_take, List.map_map]
      rfl
    rw [hcut]
    have s2 := sameNew (o := .lst ((((ls.take e).drop b).map fun n => ((n : Nat) : Int)).map V.int)) (Same.refl H) np
    have hP2 : upd H p (.lst ((((ls.take e).drop b).map fun n => ((n : Nat) : Int)).map V.int)) p = some (.lst ((((ls.take e).drop b).map fun n => ((n : Nat) : Int)).map V.int)) := upd_same
    generalize upd H p (.lst ((((ls.take e).drop b).map fun n => ((n : Nat) : Int)).map V.int)) = H2 at s2 hP2 ⊢
    refine ⟨p, _, rfl, SqL.of hP2, ?_⟩
    have st2 := st.grow s2
    have hx2 := s2 _ _ hx
    refine ⟨_, rfl, x, dx, _, rfl, hx2, ft_no (by decide +kernel) (by decide +kernel) (by decide +kernel) (by decide +kernel), _, rfl, _, rfl, _, rfl, x, C, dx, _, _, rfl, hx2, X.cl, X.nW, ft_ways, ?_⟩
    refine ⟨x, a, N, D, ls, w, m, b, e, w - 2, g, W, by show [_, _, _, _] = _; rw [show w - 2 + 2 = w by omega], st2, hbe, he, by omega, hW, fun H3 t s3 hT => ?_⟩
    refine ⟨t, _, _, _, rfl, rfl, SqT.of hT, atI_nat (j := 0) rfl, ?_⟩
    refine ⟨_, _, rfl, rfl, ?_⟩
    have es : (((ls.take e).drop b).map fun n => ((n : Nat) : Int)).sum = ((((ls.take e).drop b).sum : Nat) : Int) := by
      induction (ls.take e).drop b with
      | nil => rfl
      | cons n l ih => rw [List.map_cons, List.sum_cons, List.sum_cons, ih, Int.natCast_add]
    rw [es]
    exact k H3 (s2.trans s3)
theorem scTNote : FnScope ["self", "begin", "end", "number", "parts", "found"] ["self", "begin", "end", "number"] (defScope s_Stretches_note) := ⟨rfl, rfl, rfl, by decide +kernel, rfl, by decide +kernel, by decide +kernel⟩
def spTNote (C : Addr) : Sp := fun vs H Q _ => ∃ (x a N D : Addr) (ls : List Nat) (w m b e : Nat) (f : Nat → Nat → Int) (W : Nat → Nat → Prop), vs = [.ref x, .int (b : Nat), .int (e : Nat), .int (f b e)] ∧ StAt C ls w f W H x a N D m ∧ N ≠ D ∧ b < e ∧ e ≤ 40 ∧ 2 ≤ w ∧ w ≤ 6 ∧ m ≤ 2000 ∧ (∀ c, b < c → c < e → W b c ∧ W c e) ∧
  ∀ (H' : Hp), StAt C ls w f (Wx W b e) H' x a N D (m + 1) → Frt H H' N D → Q .non H'
theorem tnote_ok {f C : Addr} {fd : FuncData} (X : TxT K C) (M : MethAt K C "note" "Stretches.note" s_Stretches_note f fd) (T : Txt K mg) (hmin : mg "min" = none) (cL : MetC P w K mg base CX0 1 C "least" ["self", "begin", "end", "parts"] (spTLeast C)) : MetC P w K mg base CX0 2 C "note" ["self", "begin", "end", "number"] (spTNote C) := by
  have sc := scTNote
  refine ⟨f, fd, X.cl, M.me, ?_, M.fn.binds (fun _ _ _ _ _ _ us hl => match us, hl with | [_, _, _, _], _ => rfl)⟩
  refine M.fn.ok sc (fun vs H Q E h => ?_) (fun cdv A outer s H vs Q E hr h => ?_)
  · obtain ⟨x, a, N, D, ls, w, m, b, e, f, W, rfl, _⟩ := h
    rfl
  · obtain ⟨x, a, N, D, ls, w, m, b, e, g, W, rfl, st, nND, hbe, he, hw2, hw6, hm, hW, k⟩ := h
    have hu := hr.units
    obtain ⟨dx, hx⟩ := st.o
    obtain ⟨kn, hn, ln, _⟩ := st.nm
    refine ⟨_, (pss_cons (ps_dput (by exact le64T hu) (pe_fld (pv 0) rfl) (pe_tup (pa_cons (pv 1) (pa_cons (pv 2) pa_nil))) (pv 3) (by rfl)) (pss_one (ps_for PassesOwn.never rfl (pi_range2 (by rfl) T.range (pa_cons pe_int (pa_cons (pe_fld (pv 0) rfl) pa_nil))) (pg_name (i := 4) sc.nd rfl (Or.inl rfl)) (pss_cons (ps_set (i := 5) sc.nd rfl (Or.inl rfl) (pe_tup (pa_cons (pv 3) (pa_cons (pv 2) pa_nil)))) (pss_cons (ps_if ((pw_and (pt_cmpR op_gt (pv 4) pe_int (nomark _)) (pw_and1 (pt_cmpR op_gt (pe_op op_sub (pv 2) (pv 1)) pe_int (nomark _)))).pt) (pss_one (ps_set (i := 5) sc.nd rfl (Or.inl rfl) (pe_callB (call_min2P rfl hu) (by rfl) hmin (by decide +kernel) (pa_cons (pv 5) (pa_cons (pe_m cL hr (by decide) pass0 (pv 0) (pa_cons (pv 1) (pa_cons (pv 2) (pa_cons (pv 4) pa_nil)))) pa_nil))))) pss_nil) (pss_one (ps_dput (by exact le64T hu) (pe_fld (pv 0) rfl) (pe_tup (pa_cons (pv 1) (pa_cons (pv 2) (pa_cons (pv 4) pa_nil)))) (pv 5) (by rfl)))))))), ?_⟩
    refine ⟨_, rfl, _, rfl, x, C, dx, _, _, rfl, hx, X.cl, X.nN, ft_num, _, rfl, _, rfl, by show 2 ≤ sizeLine; decide, fun t1 nt1 => ?_⟩
    have s2 := sameNew (o := .tup [.int (b : Nat), .int (e : Nat)]) (Same.refl H) nt1
    have hT2 : upd H t1 (.tup [.int (b : Nat), .int (e : Nat)]) t1 = some (.tup [.int (b : Nat), .int (e : Nat)]) := upd_same
    generalize upd H t1 (.tup [.int (b : Nat), .int (e : Nat)]) = H2 at s2 hT2 ⊢
    refine ⟨N, _, rfl, DPut.t (k := key2 b e) (s2 _ _ hn) hT2 (by rw [sizeLine_eq]; omega), ?_⟩
    have q0 := (st.grow s2).num (b := b) (e := e) (s2 _ _ hn) nND
    have f0 : Frt H (upd H2 N (.dT (putK kn (key2 b e) (.int (g b e))))) N D := fun bb o q n1 n2 => (upd_ne n1).trans (s2 _ _ q)
    generalize upd H2 N (.dT (putK kn (key2 b e) (.int (g b e)))) = H3 at q0 f0 ⊢
    obtain ⟨dx3, hx3⟩ := q0.o
    refine ⟨_, rfl, x, C, dx3, _, _, rfl, hx3, X.cl, X.nW, ft_ways, _, _, rfl, ⟨by omega, by omega, by omega, by omega⟩, ?_⟩
    rw [show ((w : Int) - 1).toNat = w - 1 by omega]
    refine for_range (fun i σ H' => ∃ (v4 v5 : Option V), σ = [some (.ref x), some (.int (b : Nat)), some (.int (e : Nat)), some (.int (g b e)), v4, v5] ∧ NtAt C ls w g W H' x a N D m b e i ∧ Frt H H' N D) ⟨none, none, rfl, q0, f0⟩ ?_ ?_
    · rintro i σ H4 hi ⟨v4, v5, rfl, q4, f4⟩
      have ei : (1 : Int) + (i : Nat) = ((i + 1 : Nat) : Int) := by omega
      simp only [ei]
      refine ⟨_, rfl, _, rfl, by show 2 ≤ sizeLine; decide, fun t nt => ?_⟩
      have s5 := sameNew (o := .tup [.int (g b e), .int (e : Nat)]) (Same.refl H4) nt
      have hT5 : upd H4 t (.tup [.int (g b e), .int (e : Nat)]) t = some (.tup [.int (g b e), .int (e : Nat)]) := upd_same
      generalize upd H4 t (.tup [.int (g b e), .int (e : Nat)]) = H5 at s5 hT5 ⊢
      have q5 := q4.grow s5
      have f5 := f4.trans (.of s5)
      obtain ⟨dx5, hx5⟩ := q5.o
      have tT : TupAt H5 (.ref t) (g b e, (e : Int)) := ⟨t, rfl, hT5⟩
      refine ⟨_, rfl, _, _, rfl, rfl, _, rfl, ?_⟩
      by_cases hi0 : i = 0
      · subst hi0
        refine iteF' (decide_eq_false (by omega)) ?_
        refine iteF ?_
        refine ⟨_, rfl, _, rfl, x, C, dx5, _, _, rfl, hx5, X.cl, X.nP, ft_part, _, rfl, _, rfl, _, rfl, by show 3 ≤ sizeLine; decide, fun t6 nt6 => ?_⟩
        have s6 := sameNew (o := .tup [.int (b : Nat), .int (e : Nat), .int ((0 + 1 : Nat) : Int)]) (Same.refl H5) nt6
        have hT6 : upd H5 t6 (.tup [.int (b : Nat), .int (e : Nat), .int ((0 + 1 : Nat) : Int)]) t6 = some (.tup [.int (b : Nat), .int (e : Nat), .int ((0 + 1 : Nat) : Int)]) := upd_same
        generalize upd H5 t6 (.tup [.int (b : Nat), .int (e : Nat), .int ((0 + 1 : Nat) : Int)]) = H6 at s6 hT6 ⊢
        obtain ⟨kp, hp, lp, _⟩ := q5.pd
        refine ⟨D, _, rfl, DPut.t (k := key3 b e (0 + 1)) (s6 _ _ hp) hT6 (by rw [sizeLine_eq]; omega), _, _, rfl, (q5.grow s6).put (s6 _ _ hp) nND ?_, (f5.trans (.of s6)).trans fun bb o q n1 n2 => (upd_ne n2).trans q⟩
        exact tT.same fun bb l q => s6 _ _ q
      · obtain ⟨j, rfl⟩ : ∃ j, i = j + 1 := ⟨i - 1, by omega⟩
        refine iteT' (decide_eq_true (by omega)) ?_
        refine ⟨_, rfl, _, rfl, _, _, rfl, rfl, _, _, rfl, rfl, _, rfl, ?_⟩
        by_cases hl : 1 < e - b
        · rw [show decide ((1 : Int) < (e : Int) - (b : Int)) = true from decide_eq_true (by omega)]
          refine iteT ?_
          refine ⟨_, rfl, _, rfl, x, dx5, _, rfl, hx5, ft_no (by decide +kernel) (by decide +kernel) (by decide +kernel) (by decide +kernel), _, rfl, _, rfl, _, rfl, ?_⟩
          refine ⟨x, a, N, D, ls, w, m + 1, b, e, j, g, W, rfl, q5.st (by omega), by omega, he, by omega, hW, fun H7 t7 s7 hT7 => ?_⟩
          have q7 := q5.grow s7
          have f7 := f5.trans (.of s7)
          obtain ⟨dx5, hx5⟩ := q7.o
          refine ⟨.ref t, .ref t7, (g b e, (e : Int)), leastT g j b e, rfl, (tT.same fun bb l q => s7 _ _ q).dp, TupAt.dp ⟨t7, rfl, hT7⟩, ?_⟩
          have hv : TupAt H7 (if plt (leastT g j b e) (g b e, (e : Int)) = true then V.ref t7 else V.ref t) (pt g (j + 1) b e) := by
            rw [pt, if_pos hl]
            show TupAt H7 _ (if plt (leastT g j b e) (g b e, (e : Int)) = true then leastT g j b e else (g b e, (e : Int)))
            by_cases hb : plt (leastT g j b e) (g b e, (e : Int)) = true
            · rw [if_pos hb, if_pos hb]
              exact ⟨t7, rfl, hT7⟩
            · rw [if_neg hb, if_neg hb]
              exact tT.same fun bb l q => s7 _ _ q
          generalize (if plt (leastT g j b e) (g b e, (e : Int)) = true then V.ref t7 else V.ref t) = vv at hv ⊢
          refine ⟨_, rfl, _, rfl, x, C, dx5, _, _, rfl, hx5, X.cl, X.nP, ft_part, _, rfl, _, rfl, _, rfl, by show 3 ≤ sizeLine; decide, fun t6 nt6 => ?_⟩
          have s6 := sameNew (o := .tup [.int (b : Nat), .int (e : Nat), .int ((j + 1 + 1 : Nat) : Int)]) (Same.refl H7) nt6
          have hT6 : upd H7 t6 (.tup [.int (b : Nat), .int (e : Nat), .int ((j + 1 + 1 : Nat) : Int)]) t6 = some (.tup [.int (b : Nat), .int (e : Nat), .int ((j + 1 + 1 : Nat) : Int)]) := upd_same
          generalize upd H7 t6 (.tup [.int (b : Nat), .int (e : Nat), .int ((j + 1 + 1 : Nat) : Int)]) = H6 at s6 hT6 ⊢
          obtain ⟨kp, hp, lp, _⟩ := q7.pd
          refine ⟨D, _, rfl, DPut.t (k := key3 b e (j + 1 + 1)) (s6 _ _ hp) hT6 (by rw [sizeLine_eq]; omega), _, _, rfl, (q7.grow s6).put (s6 _ _ hp) nND ?_, (f7.trans (.of s6)).trans fun bb o q n1 n2 => (upd_ne n2).trans q⟩
          exact hv.same fun bb l q => s6 _ _ q
        · rw [show decide ((1 : Int) < (e : Int) - (b : Int)) = false from decide_eq_false (by omega)]
          refine iteF ?_
          refine ⟨_, rfl, _, rfl, x, C, dx5, _, _, rfl, hx5, X.cl, X.nP, ft_part, _, rfl, _, rfl, _, rfl, by show 3 ≤ sizeLine; decide, fun t6 nt6 => ?_⟩
          have s6 := sameNew (o := .tup [.int (b : Nat), .int (e : Nat), .int ((j + 1 + 1 : Nat) : Int)]) (Same.refl H5) nt6
          have hT6 : upd H5 t6 (.tup [.int (b : Nat), .int (e : Nat), .int ((j + 1 + 1 : Nat) : Int)]) t6 = some (.tup [.int (b : Nat), .int (e : Nat), .int ((j + 1 + 1 : Nat) : Int)]) := upd_same
          generalize upd H5 t6 (.tup [.int (b : Nat), .int (e : Nat), .int ((j + 1 + 1 : Nat) : Int)]) = H6 at s6 hT6 ⊢
          obtain ⟨kp, hp, lp, _⟩ := q5.pd
          refine ⟨D, _, rfl, DPut.t (k := key3 b e (j + 1 + 1)) (s6 _ _ hp) hT6 (by rw [sizeLine_eq]; omega), _, _, rfl, (q5.grow s6).put (s6 _ _ hp) nND ?_, (f5.trans (.of s6)).trans fun bb o q n1 n2 => (upd_ne n2).trans q⟩
          rw [pt, if_neg hl]
          exact tT.same fun bb l q => s6 _ _ q
    · rintro σ H4 ⟨v4, v5, rfl, q4, f4⟩
      exact k H4 (q4.fin (by omega) (by omega)) f4
/-- the stretches of a single run -/
def W1 (n : Nat) : Nat → Nat → Prop := fun b e => b < n ∧ e = b + 1
theorem scTInit : FnScope ["self", "lengths", "ways", "at"] ["self", "lengths", "ways"] (defScope s_Stretches_init) := ⟨rfl, rfl, rfl, by decide +kernel, rfl, by decide +kernel, by decide +kernel⟩
def spTInit (K : PySem.W.Frag) (C : Addr) : Sp := fun vs H Q _ => ∃ (x dx L : Addr) (ls : List Nat) (w : Nat) (f : Nat → Nat → Int), vs = [.ref x, .ref L, .int (w : Nat)] ∧ H x = some (.ins C dx []) ∧ SqL K H L (ls.map fun n => V.int (n : Nat)) ∧ ls.length ≤ 40 ∧ 2 ≤ w ∧ w ≤ 6 ∧ (∀ b, f b (b + 1) = 0) ∧
  ∀ (H' : Hp) (a N D : Addr), StAt C ls w f (W1 ls.length) H' x a N D ls.length → N ≠ D → H a = none → H N = none → H D = none → (∀ b o, H b = some o → b ≠ x → H' b = some o) → Q .non H'
theorem tinit_ok {f C : Addr} {fd : FuncData} (M : Mk K C f) (F : L2.Fun K "__init__" "Stretches.__init__" s_Stretches_init f fd) (X : TxT K C) (T : Txt K mg) (hm : mg "Stretches" = some (.ref C)) (cN : MetC P w K mg base CX0 2 C "note" ["self", "begin", "end", "number"] (spTNote C)) : MakC P w K mg base CX0 3 "Stretches" C ["self", "lengths", "ways"] (spTInit K C) := by
  have sc := scTInit
  refine ⟨f, fd, M, ?_, hm, F.binds (fun _ _ _ _ _ _ us hl => match us, hl with | [_, _, _], _ => rfl)⟩
  refine F.ok sc (fun vs H Q E h => ?_) (fun cdv A outer s H vs Q E hr h => ?_)
  · obtain ⟨x, dx, L, ls, w, f, rfl, _⟩ := h
    rfl
  · obtain ⟨x, dx, L, ls, w, g, rfl, hx, hL, n40, hw2, hw6, hg, k⟩ := h
    have hu := hr.units
    refine ⟨_, (pss_cons (ps_fld (pv 0) (pe_callTy call_list_of (by rfl) T.list_ (by decide +kernel) (pa_cons (pv 1) pa_nil)) rfl) (pss_cons (ps_fld (pv 0) (pv 2) rfl) (pss_cons (ps_fld (pv 0) pe_dnewT rfl) (pss_cons (ps_fld (pv 0) pe_dnewT rfl) (pss_one (ps_for PassesOwn.never rfl (pi_range1 (by rfl) T.range (pa_cons (pe_callB call_len_seq (by rfl) T.len PySem.boot_len (pa_cons (pv 1) pa_nil)) pa_nil)) (pg_name (i := 3) sc.nd rfl (Or.inl rfl)) (pss_one (ps_expr (pe_m cN hr (by decide) pass0 (pv 0) (pa_cons (pv 3) (pa_cons (pe_op op_add (pv 3) pe_int) (pa_cons pe_int pa_nil)))))))))))), ?_⟩
    refine ⟨_, rfl, L, _, rfl, .inl hL, fun a na => ?_⟩
    have nax : a ≠ x := fun z => by rw [z, hx] at na; cases na
    refine ⟨_, rfl, x, C, dx, _, rfl, (upd_ne (Ne.symm nax)).trans hx, X.cl, X.nL, by show 0 < 1000; decide, ?_⟩
    refine ⟨_, rfl, _, rfl, x, C, dx, _, rfl, upd_same, X.cl, X.nW, by show 1 < 1000; decide, ?_⟩
    refine fun N nN => ?_
    have nxN : x ≠ N := fun z => by rw [← z, upd_same] at nN; cases nN
    have nN1 := upd_no (upd_no nN)
    have naN : a ≠ N := fun z => by rw [← z, upd_same] at nN1; cases nN1
    have nN0 := upd_no nN1
    refine ⟨_, rfl, x, C, dx, _, rfl, (upd_ne nxN).trans upd_same, X.cl, X.nN, by show 2 < 1000; decide, ?_⟩
    refine fun D nD => ?_
    have nxD : x ≠ D := fun z => by rw [← z, upd_same] at nD; cases nD
    have nD1 := upd_no nD
    have nND : N ≠ D := fun z => by rw [← z, upd_same] at nD1; cases nD1
    have nD2 := upd_no (upd_no (upd_no nD1))
    have naD : a ≠ D := fun z => by rw [← z, upd_same] at nD2; cases nD2
    have nD0 := upd_no nD2
    refine ⟨_, rfl, x, C, dx, _, rfl, (upd_ne nxD).trans upd_same, X.cl, X.nP, by show 3 < 1000; decide, ?_⟩
    have eF : putF "parted" (.ref D) (putF "numbers" (.ref N) (putF "ways" (.int (w : Nat)) (putF "lengths" (.ref a) []))) = fldsT a w N D := by
      show putF "parted" (.ref D) (putF "numbers" (.ref N) (putF "ways" (.int (w : Nat)) [(("lengths" : Str), .ref a)])) = _
      rw [putF_ne (Ne.symm twl)]
      show putF "parted" (.ref D) (putF "numbers" (.ref N) [(("lengths" : Str), V.ref a), ("ways", .int (w : Nat))]) = _
      rw [putF_ne (Ne.symm tnl), putF_ne (Ne.symm tnw)]
      show putF "parted" (.ref D) [(("lengths" : Str), V.ref a), ("ways", .int (w : Nat)), ("numbers", .ref N)] = _
      rw [putF_ne (Ne.symm tpl), putF_ne (Ne.symm tpw), putF_ne (Ne.symm tpn)]
      rfl
    rw [eF]
    have st0 : StAt C ls w g (W1 0) (upd (upd (upd (upd (upd (upd (upd H a (.lst (ls.map fun n => V.int (n : Nat)))) x (.ins C dx (putF "lengths" (.ref a) []))) x (.ins C dx (putF "ways" (.int (w : Nat)) (putF "lengths" (.ref a) [])))) N (.dT [])) x (.ins C dx (putF "numbers" (.ref N) (putF "ways" (.int (w : Nat)) (putF "lengths" (.ref a) []))))) D (.dT [])) x (.ins C dx (fldsT a w N D))) x a N D 0 := by
      refine ⟨⟨dx, upd_same⟩, ?_, ⟨[], ?_, Nat.le_refl _, fun b e z => by cases z; omega⟩, [], ?_, Nat.le_refl _, fun b e p z => by cases z; omega⟩
      · rw [upd_ne nax, upd_ne naD, upd_ne nax, upd_ne naN, upd_ne nax, upd_ne nax, upd_same]
      · rw [upd_ne (Ne.symm nxN), upd_ne nND, upd_ne (Ne.symm nxN), upd_same]
      · rw [upd_ne (Ne.symm nxD), upd_same]
    have fr0 : ∀ b o, H b = some o → b ≠ x → (upd (upd (upd (upd (upd (upd (upd H a (.lst (ls.map fun n => V.int (n : Nat)))) x (.ins C dx (putF "lengths" (.ref a) []))) x (.ins C dx (putF "ways" (.int (w : Nat)) (putF "lengths" (.ref a) [])))) N (.dT [])) x (.ins C dx (putF "numbers" (.ref N) (putF "ways" (.int (w : Nat)) (putF "lengths" (.ref a) []))))) D (.dT [])) x (.ins C dx (fldsT a w N D))) b = some o := fun b o e nb => by
      rw [upd_ne nb, upd_ne (ne_of_none e nD0), upd_ne nb, upd_ne (ne_of_none e nN0), upd_ne nb, upd_ne nb, upd_ne (ne_of_none e na)]
      exact e
    generalize (upd (upd (upd (upd (upd (upd (upd H a (.lst (ls.map fun n => V.int (n : Nat)))) x (.ins C dx (putF "lengths" (.ref a) []))) x (.ins C dx (putF "ways" (.int (w : Nat)) (putF "lengths" (.ref a) [])))) N (.dT [])) x (.ins C dx (putF "numbers" (.ref N) (putF "ways" (.int (w : Nat)) (putF "lengths" (.ref a) []))))) D (.dT [])) x (.ins C dx (fldsT a w N D))) = H1 at st0 fr0 ⊢
    have hL1 : SqL K H1 L (ls.map fun n => V.int (n : Nat)) := by
      rcases hL with (hL | ⟨o, hL⟩) | hL
      · exact .inl (.inl (fr0 _ _ hL fun z => by rw [z, hx] at hL; cases hL))
      · exact .inl (.inr ⟨o, fr0 _ _ hL fun z => by rw [z, hx] at hL; cases hL⟩)
      · exact .inr hL
    have lm : (ls.map fun n => V.int (n : Nat)).length = ls.length := List.length_map _
    refine ⟨_, rfl, L, _, rfl, .inl hL1, _, rfl, by omega, by omega, ?_⟩
    rw [Int.toNat_natCast, lm]
    refine for_range (fun i σ H' => ∃ v3 : Option V, σ = [some (.ref x), some (.ref L), some (.int (w : Nat)), v3] ∧ StAt C ls w g (W1 i) H' x a N D i ∧ (∀ b o, H b = some o → b ≠ x → H' b = some o)) ⟨none, rfl, st0, fr0⟩ ?_ ?_
    · rintro i σ H2 hi ⟨v3, rfl, st2, fr2⟩
      simp only [Int.zero_add]
      obtain ⟨dx2, hx2⟩ := st2.o
      refine ⟨_, rfl, x, dx2, _, rfl, hx2, ft_no (by decide +kernel) (by decide +kernel) (by decide +kernel) (by decide +kernel), _, rfl, _, rfl, _, _, rfl, rfl, ?_⟩
      refine ⟨x, a, N, D, ls, w, i, i, i + 1, g, W1 i, by rw [hg]; rfl, st2, nND, by omega, by omega, hw2, hw6, by omega, fun c c1 c2 => by omega, fun H3 st3 f3 => ?_⟩
      refine ⟨_, rfl, st3.weak fun b e z => ?_, fun b o e nb => f3 b o (fr2 b o e nb) (ne_of_none e nN0) (ne_of_none e nD0)⟩
      by_cases q : b = i
      · exact .inr ⟨q, by rw [← q]; exact z.2⟩
      · exact .inl ⟨by have := z.1; omega, z.2⟩
    · rintro σ H2 ⟨v3, rfl, st2, fr2⟩
      exact k H2 a N D st2 nND na nN0 nD0 fr2
end
end RS
set_option Elab.async false
set_option maxRecDepth 100000
set_option maxHeartbeats 4000000
set_option pp.maxSteps 400
namespace RS
open PySem PySem.Spec PyProof.Rows L2 GX HQ
/-! ### stretches, inner ones first -/
theorem loop_by {J : It} {H0 : Hp} {Sp : Hp → Prop} {B : (Hp → Prop) → V → Hp → Prop} (n : Nat) (Pv : Nat → Hp → Prop) (h0 : Pv 0 H0) (turn : ∀ i H, i < n → Pv i H → J.go i H ∧ ∀ x H', J.yld i H x H' → B (Pv (i + 1)) x H') (stop : ∀ H, Pv n H → J.stop n H ∧ Sp H) :
    ∃ W : Nat → Nat → Hp → Prop, (∃ m, W 0 m H0) ∧ ∀ i m H, W i m H → (J.stop i H ∧ Sp H) ∨ (J.go i H ∧ ∃ Nx : Hp → Prop, (∀ H', Nx H' → ∃ m', m' < m ∧ W (i + 1) m' H') ∧ ∀ x H', J.yld i H x H' → B Nx x H') := by
  refine ⟨fun i m H => m = n - i ∧ i ≤ n ∧ Pv i H, ⟨n, rfl, Nat.zero_le _, h0⟩, ?_⟩
  rintro i m H ⟨rfl, hi, p⟩
  by_cases hlt : i < n
  · obtain ⟨go, nx⟩ := turn i H hlt p
    exact .inr ⟨go, Pv (i + 1), fun H' p' => ⟨n - (i + 1), by omega, rfl, hlt, p'⟩, nx⟩
  · have e : i = n := by omega
    subst e
    exact .inl (stop H p)
inductive Prs (H : Hp) : List V → List (Nat × Nat) → Prop
  | nil : Prs H [] []
  | cons {v : V} {q : Nat × Nat} {vs : List V} {qs : List (Nat × Nat)} : TupAt H v ((q.1 : Nat), (q.2 : Nat)) → Prs H vs qs → Prs H (v :: vs) (q :: qs)
theorem Prs.len {H : Hp} {vs : List V} {qs : List (Nat × Nat)} (h : Prs H vs qs) : vs.length = qs.length := by
  induction h with
  | nil => rfl
  | cons _ _ ih => rw [List.length_cons, List.length_cons, ih]
theorem Prs.move {H H' : Hp} {vs : List V} {qs : List (Nat × Nat)} (h : Prs H vs qs) (s : ∀ b l, H b = some (.tup l) → H' b = some (.tup l)) : Prs H' vs qs := by
  induction h with
  | nil => exact .nil
  | cons h _ ih => exact .cons (h.same s) ih
theorem Prs.app {H : Hp} {vs : List V} {qs : List (Nat × Nat)} {v : V} {q : Nat × Nat} (h : Prs H vs qs) (t : TupAt H v ((q.1 : Nat), (q.2 : Nat))) : Prs H (vs ++ [v]) (qs ++ [q]) := by
  induction h with
  | nil => exact .cons t .nil
  | cons h _ ih => exact .cons h ih
theorem Prs.get {H : Hp} {vs : List V} {qs : List (Nat × Nat)} (h : Prs H vs qs) : ∀ {j : Nat} {v : V}, vs[j]? = some v → ∃ q, qs[j]? = some q ∧ TupAt H v ((q.1 : Nat), (q.2 : Nat)) := by
  induction h with
  | nil => intro j v e; cases e
  | @cons v' q vs qs h _ ih =>
    intro j v e
    cases j with
    | zero =>
      have := Option.some.inj e
      subst this
      exact ⟨q, rfl, h⟩
    | succ j => exact ih e
/-- those that begin at one place -/
def innerB (n i j : Nat) : List (Nat × Nat) := (List.range j).map fun k => (n - 2 - i, n - i + k)
def innerP (n i : Nat) : List (Nat × Nat) := (List.range i).flatMap fun i => innerB n i (i + 1)
def innerL (n : Nat) : List (Nat × Nat) := innerP n (n - 1)
theorem innerB_succ {n i j : Nat} : innerB n i (j + 1) = innerB n i j ++ [(n - 2 - i, n - i + j)] := by
  unfold innerB
  rw [List.range_succ, List.map_append]
  rfl
theorem innerP_succ {n i : Nat} : innerP n (i + 1) = innerP n i ++ innerB n i (i + 1) := by
  unfold innerP
  rw [List.range_succ, List.flatMap_append]
  simp
theorem innerB_len {n i j : Nat} : (innerB n i j).length = j := by
  unfold innerB
  rw [List.length_map, List.length_range]
theorem innerP_len {n : Nat} : ∀ {i : Nat}, i ≤ 40 → (innerP n i).length ≤ i * 40
  | 0, _ => Nat.le_refl _
  | i + 1, h => by
    have := innerP_len (n := n) (i := i) (by omega)
    rw [innerP_succ, List.length_append, innerB_len]
    omega
def spTInner (C : Addr) : Sp := fun vs H Q _ => ∃ (x a N D : Addr) (ls : List Nat) (w m : Nat) (f : Nat → Nat → Int) (W : Nat → Nat → Prop), vs = [.ref x] ∧ StAt C ls w f W H x a N D m ∧ 1 ≤ ls.length ∧ ls.length ≤ 40 ∧
  ∀ (H' : Hp) (p : Addr) (ts : List V), Same H H' → H p = none → H' p = some (.lst ts) → Prs H' ts (innerL ls.length) → Q (.ref p) H'
section
variable {P : Program} {w : World} {K : PySem.W.Frag} {mg : Str → Option Value} {base : Heap}
theorem scTInner : FnScope ["self", "many", "begin", "end"] ["self"] (defScope s_Stretches_inner_first) := ⟨rfl, rfl, rfl, by decide +kernel, rfl, by decide +kernel, by decide +kernel⟩
theorem tinner_ok {f C : Addr} {fd : FuncData} (X : TxT K C) (M : MethAt K C "inner_first" "Stretches.inner_first" s_Stretches_inner_first f fd) (T : Txt K mg) : MetC P w K mg base CX0 1 C "inner_first" ["self"] (spTInner C) := by
  have sc := scTInner
  refine ⟨f, fd, X.cl, M.me, ?_, M.fn.binds (fun _ _ _ _ _ _ us hl => match us, hl with | [_], _ => rfl)⟩
  refine M.fn.ok sc (fun vs H Q E h => ?_) (fun cdv A outer s H vs Q E hr h => ?_)
  · obtain ⟨x, a, N, D, ls, w, m, f, W, rfl, _⟩ := h
    rfl
  · obtain ⟨x, a, N, D, ls, w, m, g, W, rfl, st, n1, n40, k⟩ := h
    have hu := hr.units
    obtain ⟨dx, hx⟩ := st.o
    refine ⟨_, (pss_cons (ps_set (i := 1) sc.nd rfl (Or.inr rfl) (pe_callB call_len_seq (by rfl) T.len PySem.boot_len (pa_cons (pe_fld (pv 0) rfl) pa_nil))) (pss_one (ps_ret (pe_lc2 (own := [("begin", 2), ("end", 3)]) (vs1 := [3]) (tt := tYes) (tt1 := tYes) rfl sc.nd (pi_range3 (by rfl) T.range (pa_cons (pe_op op_sub (pv 1) pe_int) (pa_cons (pe_un un_neg pe_int) (pa_cons (pe_un un_neg pe_int) pa_nil)))) (blkOk_by (N := ["self", "many", "begin", "end"]) (sc := defScope s_Stretches_inner_first) (own := [("begin", 2), ("end", 3)]) (by decide +kernel)) (by decide)
        (fun _ _ _ _ _ => (pg_name (i := 2) sc.nd rfl (Or.inl rfl))) (fun _ _ _ _ _ => pts_nil) (fun _ _ _ _ _ => (pi_range2 (by rfl) T.range (pa_cons (pe_op op_add (pv 2) pe_int) (pa_cons (pe_op op_add (pv 1) pe_int) pa_nil)))) (fun _ _ _ _ _ => (pg_name (i := 3) sc.nd rfl (Or.inl rfl))) (fun _ _ _ _ _ => pts_nil) (fun _ _ _ _ _ => (pe_tup (pa_cons (pv 2) (pa_cons (pv 3) pa_nil)))))))), ?_⟩
    have lm : (ls.map fun n => V.int (n : Nat)).length = ls.length := List.length_map _
    refine ⟨_, rfl, x, C, dx, _, _, rfl, hx, X.cl, X.nL, ft_len, a, _, rfl, .inl (SqL.of st.l), ?_⟩
    rw [lm]
    have n1' := n1
    generalize ls.length = n at n1 n40 k ⊢
    refine ⟨_, rfl, _, _, rfl, rfl, _, rfl, _, rfl, _, _, _, _, rfl, RgC.neg (by omega) (by omega) (by omega) (by omega), fun DD hD => ?_⟩
    rw [show ((n : Int) - 2 - -1).toNat = n - 1 by omega]
    refine loop_by (n - 1) (fun i H' => Same H H' ∧ ∃ ts : List V, H' DD = some (.lst ts) ∧ Prs H' ts (innerP n i)) ⟨sameNew (Same.refl H) hD, [], upd_same, .nil⟩ ?_ ?_
    · rintro i H1 hi ⟨sm, ts, hl, hq⟩
      refine ⟨hi, fun y H2 ⟨e2, ey⟩ => ?_⟩
      subst e2 ey
      have eb : ((n : Int) - 2 + (i : Nat) * -1) = ((n - 2 - i : Nat) : Int) := by omega
      rw [eb]
      refine ⟨rfl, _, rfl, _, _, rfl, rfl, _, rfl, _, _, rfl, rfl, _, _, rfl, ⟨by omega, by omega, by omega, by omega⟩, ?_⟩
      rw [show (((n : Nat) : Int) + 1 - (((n - 2 - i : Nat) : Int) + 2)).toNat = i + 1 by omega]
      refine loop_by (i + 1) (fun j H' => Same H H' ∧ ∃ ts : List V, H' DD = some (.lst ts) ∧ Prs H' ts (innerP n i ++ innerB n i j)) ⟨sm, ts, hl, by show Prs _ ts (innerP n i ++ []); rw [List.append_nil]; exact hq⟩ ?_ ?_
      · rintro j H3 hj ⟨sm3, ts3, hl3, hq3⟩
        refine ⟨hj, fun y H4 e4 => ?_⟩
        obtain ⟨e4, ey⟩ := e4
        subst e4 ey
        have ee : (((n - 2 - i : Nat) : Int) + 2 + (j : Nat)) = ((n - i + j : Nat) : Int) := by omega
        rw [ee]
        refine ⟨rfl, _, rfl, _, rfl, by show 2 ≤ sizeLine; decide, fun t nt => ?_⟩
        have s5 := sameNew (o := .tup [.int ((n - 2 - i : Nat) : Int), .int ((n - i + j : Nat) : Int)]) (Same.refl H4) nt
        have hT5 : upd H4 t (.tup [.int ((n - 2 - i : Nat) : Int), .int ((n - i + j : Nat) : Int)]) t = some (.tup [.int ((n - 2 - i : Nat) : Int), .int ((n - i + j : Nat) : Int)]) := upd_same
        generalize upd H4 t (.tup [.int ((n - 2 - i : Nat) : Int), .int ((n - i + j : Nat) : Int)]) = H5 at s5 hT5 ⊢
        have l3 := hq3.len
        have lP := innerP_len (n := n) (i := i) (by omega)
        rw [List.length_append, innerB_len] at l3
        have hl5 := s5 _ _ hl3
        have nt5 : t ≠ DD := fun z => by rw [z, hl3] at nt; cases nt
        refine ⟨ts3, hl5, by rw [sizeLine_eq]; omega, fun b o q => ?_, _, upd_same, ?_⟩
        · rw [upd_ne (ne_of_none q hD)]
          exact s5 _ _ (sm3 _ _ q)
        · rw [innerB_succ, ← List.append_assoc]
          refine (hq3.move fun b l q => ?_).app ⟨t, rfl, (upd_ne nt5).trans hT5⟩
          rw [upd_ne fun z => by rw [z, hl3] at q; cases q]
          exact s5 _ _ q
      · rintro H3 ⟨sm3, ts3, hl3, hq3⟩
        refine ⟨Nat.le_refl _, sm3, ts3, hl3, ?_⟩
        rw [innerP_succ]
        exact hq3
    · rintro H1 ⟨sm, ts, hl, hq⟩
      exact ⟨Nat.le_refl _, k H1 DD ts sm hD hl hq⟩
end
end RS
set_option Elab.async false
set_option maxRecDepth 100000
set_option maxHeartbeats 4000000
set_option pp.maxSteps 400
namespace RS
open PySem PySem.Spec PyProof.Rows L2 GX HQ
/-! ### the cheapest stretches -/
def aheadS (p q : Nat × Nat) : Prop := q.1 < p.1 ∨ (p.1 = q.1 ∧ p.2 < q.2)
theorem innerB_mem {n i j b e : Nat} (hi : i + 2 ≤ n) : (b, e) ∈ innerB n i j ↔ b + i + 2 = n ∧ n - i ≤ e ∧ e < n - i + j := by
  unfold innerB
  rw [List.mem_map]
  constructor
  · rintro ⟨k, hk, e1⟩
    rw [List.mem_range] at hk
    injection e1 with e1 e2
    omega
  · rintro ⟨h1, h2, h3⟩
    exact ⟨e - (n - i), List.mem_range.mpr (by omega), by rw [show n - 2 - i = b by omega, show n - i + (e - (n - i)) = e by omega]⟩
theorem innerP_mem {n b e : Nat} : ∀ {i : Nat}, i + 1 ≤ n → ((b, e) ∈ innerP n i ↔ n ≤ b + i + 1 ∧ b + 2 ≤ e ∧ e ≤ n)
  | 0, h => by
    unfold innerP
    simp
    omega
  | i + 1, h => by
    rw [innerP_succ, List.mem_append, innerP_mem (by omega), innerB_mem (by omega)]
    omega
theorem innerL_mem {n b e : Nat} (hn : 1 ≤ n) : (b, e) ∈ innerL n ↔ b + 2 ≤ e ∧ e ≤ n := by
  unfold innerL
  rw [innerP_mem (by omega)]
  omega
theorem innerB_pw {n i j : Nat} : (innerB n i j).Pairwise aheadS := by
  unfold innerB
  rw [List.pairwise_map]
  refine (List.pairwise_lt_range (n := j)).imp fun {a b} h => .inr ⟨rfl, by show n - i + a < n - i + b; omega⟩
theorem innerP_pw {n : Nat} : ∀ {i : Nat}, i + 1 ≤ n → (innerP n i).Pairwise aheadS
  | 0, _ => by
    unfold innerP
    exact List.Pairwise.nil
  | i + 1, h => by
    rw [innerP_succ, List.pairwise_append]
    refine ⟨innerP_pw (by omega), innerB_pw, fun p hp q hq => ?_⟩
    have a := (innerP_mem (b := p.1) (e := p.2) (by omega)).mp hp
    have b := (innerB_mem (b := q.1) (e := q.2) (by omega)).mp hq
    exact .inl (by omega)
theorem innerL_len {n : Nat} (hn : n ≤ 40) : (innerL n).length ≤ 1600 := by
  have := innerP_len (n := n) (i := n - 1) (by omega)
  unfold innerL
  omega
/-- what is noted when j of them are -/
def Wj (n j : Nat) : Nat → Nat → Prop := fun b e => W1 n b e ∨ (b, e) ∈ (innerL n).take j
theorem Wj_in {n j b e b' e' : Nat} (hn : 1 ≤ n) (hj : (innerL n)[j]? = some (b, e)) (h1 : b' < e') (h2 : e' ≤ n) (h3 : aheadS (b', e') (b, e)) : Wj n j b' e' := by
  by_cases q : e' = b' + 1
  · exact .inl ⟨by omega, q⟩
  · refine .inr ?_
    have m := (innerL_mem (b := b') (e := e') hn).mpr ⟨by omega, h2⟩
    obtain ⟨i, hi, ei⟩ := List.mem_iff_getElem.mp m
    have hjl := (List.getElem?_eq_some_iff.mp hj).1
    have ej := (List.getElem?_eq_some_iff.mp hj).2
    have pw := innerP_pw (n := n) (i := n - 1) (by omega)
    have pw := List.pairwise_iff_getElem.mp (show (innerL n).Pairwise aheadS from pw)
    rcases Nat.lt_trichotomy i j with h | h | h
    · exact List.mem_iff_getElem.mpr ⟨i, by rw [List.length_take]; omega, by rw [List.getElem_take]; exact ei⟩
    · subst h
      rw [ej] at ei
      injection ei with ei1 ei2
      rcases h3 with z | ⟨z, z2⟩ <;> simp only at * <;> omega
    · have := pw j i hjl hi h
      rw [ei, ej] at this
      unfold aheadS at h3 this
      simp only at h3 this
      omega
theorem Wj_suc {n j b e b' e' : Nat} (hj : (innerL n)[j]? = some (b, e)) (h : Wj n (j + 1) b' e') : Wx (Wj n j) b e b' e' := by
  rcases h with h | h
  · exact .inl (.inl h)
  · rw [List.take_add_one, hj] at h
    rcases List.mem_append.mp h with h | h
    · exact .inl (.inr h)
    · have := List.mem_singleton.mp h
      injection this with h1 h2
      exact .inr ⟨h1, h2⟩
/-- all are noted -/
def WA (n : Nat) : Nat → Nat → Prop := fun b e => b < e ∧ e ≤ n
theorem WA_all {n b e : Nat} (hn : 1 ≤ n) (h : WA n b e) : Wj n (innerL n).length b e := by
  by_cases q : e = b + 1
  · exact .inl ⟨by have := h.2; omega, q⟩
  · refine .inr ?_
    rw [List.take_length]
    exact (innerL_mem hn).mpr ⟨by have := h.1; omega, h.2⟩
def spTCheap (K : PySem.W.Frag) (C : Addr) : Sp := fun vs H Q _ => ∃ (L : Addr) (ls : List Nat) (w : Nat), vs = [.ref L, .int (w : Nat)] ∧ SqL K H L (ls.map fun n => V.int (n : Nat)) ∧ 1 ≤ ls.length ∧ ls.length ≤ 40 ∧ 2 ≤ w ∧ w ≤ 6 ∧
  ∀ (H' : Hp) (x a N D : Addr) (m : Nat), Same H H' → H x = none → StAt C ls w (numC ls w) (WA ls.length) H' x a N D m → Q (.ref x) H'
structure Str7 (P : Program) (w : World) (K : PySem.W.Frag) (mg : Str → Option Value) (base : Heap) (C : Addr) : Prop where
  init : MakC P w K mg base CX0 3 "Stretches" C ["self", "lengths", "ways"] (spTInit K C)
  inner : MetC P w K mg base CX0 1 C "inner_first" ["self"] (spTInner C)
  note : MetC P w K mg base CX0 2 C "note" ["self", "begin", "end", "number"] (spTNote C)
  limit : MetC P w K mg base CX0 2 C "limit" ["self", "begin", "end"] (spTLimit C)
section
variable {P : Program} {w : World} {K : PySem.W.Frag} {mg : Str → Option Value} {base : Heap}
theorem scTCheap : FnScope ["lengths", "ways", "stretches", "begin", "end"] ["lengths", "ways"] (defScope s_cheapest_stretches) := ⟨rfl, rfl, rfl, by decide +kernel, rfl, by decide +kernel, by decide +kernel⟩
theorem tcheap_ok {c C : Addr} (DD : DefAt K mg "cheapest_stretches" s_cheapest_stretches c) (S : Str7 P w K mg base C) : Cal P w K mg base CX0 5 "cheapest_stretches" ["lengths", "ways"] (spTCheap K C) := by
  have sc := scTCheap
  refine def_ok0 DD sc (fun vs H Q E h => ?_) (fun _ _ _ _ _ _ us hl => match us, hl with | [_, _], _ => rfl) (fun f A outer s H vs Q E hr h => ?_)
  · obtain ⟨L, ls, w, rfl, _⟩ := h
    rfl
  · obtain ⟨L, ls, w, rfl, hL, n1, n40, hw2, hw6, k⟩ := h
    have cI := S.init
    have cF := S.inner
    have cN := S.note
    have cL := S.limit
    refine ⟨_, (pss_cons (ps_set (i := 2) sc.nd rfl (Or.inl rfl) (pe_mk cI hr (by decide) (by rfl) pass0 (pa_cons (pv 0) (pa_cons (pv 1) pa_nil)))) (pss_cons (ps_for PassesOwn.never rfl (pi_list (pe_m0 cF hr (by decide) pass0 (pv 2))) (pg_tup (by rfl) (pgs_cons (pg_name (i := 3) sc.nd rfl (Or.inl rfl)) (pgs_cons (pg_name (i := 4) sc.nd rfl (Or.inl rfl)) pgs_nil))) (pss_one (ps_expr (pe_m cN hr (by decide) pass0 (pv 2) (pa_cons (pv 3) (pa_cons (pv 4) (pa_cons (pe_m cL hr (by decide) pass0 (pv 2) (pa_cons (pv 3) (pa_cons (pv 4) pa_nil))) pa_nil))))))) (pss_one (ps_ret (pv 2))))), ?_⟩
    refine ⟨_, rfl, _, rfl, fun x dx nx ndx ndxx => ?_⟩
    have s1 : Same H (upd H dx (.own x)) := sameNew (Same.refl H) ndx
    have nx1 : upd H dx (.own x) x = none := (upd_ne (Ne.symm ndxx)).trans nx
    have s2 : Same H (upd (upd H dx (.own x)) x (.ins C dx [])) := sameNew s1 nx1
    have hL2 := s2.seq hL
    refine ⟨x, dx, L, ls, w, numC ls w, rfl, upd_same, hL2, n40, hw2, hw6, fun b => numC_one, fun H3 a N D st nND na nN nD fr => ?_⟩
    refine ⟨rfl, ?_⟩
    have sH : ∀ {H' : Hp}, Frt H3 H' N D → Same H H' := fun {H'} f b o e => by
      have e2 := s2 b o e
      exact f b o (fr b o e2 (ne_of_none e nx)) (ne_of_none e2 nN) (ne_of_none e2 nD)
    obtain ⟨dx3, hx3⟩ := st.o
    refine ⟨_, rfl, x, dx3, _, rfl, hx3, ft_no (by decide +kernel) (by decide +kernel) (by decide +kernel) (by decide +kernel), ?_⟩
    refine ⟨x, a, N, D, ls, w, ls.length, numC ls w, W1 ls.length, rfl, st, n1, n40, fun H4 p ts s4 np hp hq => ?_⟩
    have lq := hq.len
    have lI := innerL_len n40
    refine ⟨p, rfl, ⟨_, SqL.of hp⟩, ?_⟩
    refine for_list (K := K) (a := p) (xs := ts) (fun j σ H' => ∃ v3 v4 : Option V, σ = [some (.ref L), some (.int (w : Nat)), some (.ref x), v3, v4] ∧ StAt C ls w (numC ls w) (Wj ls.length j) H' x a N D (ls.length + j) ∧ Frt H4 H' N D) ⟨none, none, rfl, (st.grow s4).weak fun b e z => ?_, fun b o e _ _ => e⟩ ?_ ?_ ?_
    · rcases z with z | z
      · exact z
      · rw [List.take_zero] at z
        cases z
    · rintro j σ H5 _ ⟨v3, v4, rfl, st5, f5⟩
      refine SqL.of (f5 _ _ hp ?_ ?_)
      · rintro rfl
        obtain ⟨kn, hn, _⟩ := (st.grow s4).nm
        rw [hn] at hp
        cases hp
      · rintro rfl
        obtain ⟨kn, hn, _⟩ := (st.grow s4).pd
        rw [hn] at hp
        cases hp
    · rintro j y σ H5 hj ⟨v3, v4, rfl, st5, f5⟩
      obtain ⟨⟨b, e⟩, eq, t, rfl, ht⟩ := hq.get hj
      have jl := (List.getElem?_eq_some_iff.mp eq).1
      have mem := (innerL_mem (b := b) (e := e) n1).mp (List.mem_of_getElem? eq)
      have ht5 : H5 t = some (.tup [.int (b : Nat), .int (e : Nat)]) := f5 _ _ ht (by
        rintro rfl
        obtain ⟨kn, hn, _⟩ := (st.grow s4).nm
        rw [hn] at ht
        cases ht) (by
        rintro rfl
        obtain ⟨kn, hn, _⟩ := (st.grow s4).pd
        rw [hn] at ht
        cases ht)
      obtain ⟨dx5, hx5⟩ := st5.o
      have hW : ∀ c, b < c → c < e → Wj ls.length j b c ∧ Wj ls.length j c e := fun c c1 c2 => ⟨Wj_in n1 eq c1 (by omega) (.inr ⟨rfl, c2⟩), Wj_in n1 eq c2 mem.2 (.inl c1)⟩
      refine ⟨t, _, rfl, SqT.of ht5, rfl, _, _, rfl, _, _, rfl, rfl, ?_⟩
      refine ⟨_, rfl, x, dx5, _, rfl, hx5, ft_no (by decide +kernel) (by decide +kernel) (by decide +kernel) (by decide +kernel), _, rfl, _, rfl, ?_⟩
      refine ⟨_, rfl, x, dx5, _, rfl, hx5, ft_no (by decide +kernel) (by decide +kernel) (by decide +kernel) (by decide +kernel), _, rfl, _, rfl, ?_⟩
      refine ⟨x, a, N, D, ls, w, ls.length + j, b, e, numC ls w, Wj ls.length j, rfl, st5, mem.1, by omega, hw2, hW, fun H6 s6 => ?_⟩
      refine ⟨x, a, N, D, ls, w, ls.length + j, b, e, numC ls w, Wj ls.length j, by rw [numC_lim mem.1]; rfl, st5.grow s6, nND, by omega, by omega, hw2, hw6, by omega, hW, fun H7 st7 f7 => ?_⟩
      exact ⟨_, _, rfl, st7.weak fun b e z => Wj_suc eq z, (f5.trans (.of s6)).trans f7⟩
    · rintro σ H5 ⟨v3, v4, rfl, st5, f5⟩
      exact ⟨_, rfl, k H5 x a N D _ (sH ((Frt.of s4).trans f5)) nx (st5.weak fun b e z => by rw [lq]; exact WA_all n1 z)⟩
end
end RS
set_option Elab.async false
set_option maxRecDepth 100000
set_option maxHeartbeats 4000000
set_option pp.maxSteps 400
namespace RS
open PySem PySem.Spec PyProof.Rows L2 GX LM
/-! ### what a paper tells -/
abbrev Tri := Int × Int × Int
def triD (x : Tri) : PyData := .tuple [.int x.1, .int x.2.1, .int x.2.2]
def GoodE (n : Nat) (x : Tri) : Prop := 0 ≤ x.1 ∧ x.1 < x.2.1 - 1 ∧ x.2.1 - 1 < n
instance (n : Nat) (x : Tri) : Decidable (GoodE n x) := by unfold GoodE; infer_instance
def pairE (x : Tri) : Int × Int := (x.1, x.2.1)
def GoodT (n : Nat) (es : List Tri) : Prop := (∀ x ∈ es, GoodE n x) ∧ (es.map pairE).Nodup ∧ n * (n - 1) / 2 ≤ es.length
/-- the number told of a stretch -/
def lookE : List Tri → Nat → Nat → Option Int
  | [], _, _ => none
  | x :: es, b, e => if x.1 = b ∧ x.2.1 = e then some x.2.2 else lookE es b e
theorem take_snoc9 {α : Type} {l : List α} {i : Nat} {p : α} (e : l[i]? = some p) : l.take (i + 1) = l.take i ++ [p] := by
  rw [List.take_add_one, e]
  rfl
theorem lookE_none {es : List Tri} {b e : Nat} (h : ((b : Int), (e : Int)) ∉ es.map pairE) : lookE es b e = none := by
  induction es with
  | nil => rfl
  | cons x es ih =>
    rw [List.map_cons, List.mem_cons, not_or] at h
    rw [lookE, if_neg, ih h.2]
    rintro ⟨h1, h2⟩
    exact h.1 (Prod.ext h1.symm h2.symm)
theorem lookE_some {es : List Tri} {b e : Nat} (h : ((b : Int), (e : Int)) ∈ es.map pairE) : ∃ z, lookE es b e = some z := by
  induction es with
  | nil => cases h
  | cons x es ih =>
    rw [lookE]
    by_cases c : x.1 = b ∧ x.2.1 = e
    · rw [if_pos c]; exact ⟨_, rfl⟩
    · rw [if_neg c]
      rw [List.map_cons, List.mem_cons] at h
      rcases h with h | h
      · exact absurd ⟨(congrArg Prod.fst h).symm, (congrArg Prod.snd h).symm⟩ c
      · exact ih h
theorem lookE_snoc {es : List Tri} {x : Tri} {b e : Nat} (n : pairE x ∉ es.map pairE) : lookE (es ++ [x]) b e = if x.1 = b ∧ x.2.1 = e then some x.2.2 else lookE es b e := by
  induction es with
  | nil => rfl
  | cons y es ih =>
    rw [List.map_cons, List.mem_cons, not_or] at n
    rw [List.cons_append, lookE, lookE, ih n.2]
    by_cases c : y.1 = b ∧ y.2.1 = e
    · rw [if_pos c, if_pos c, if_neg]
      rintro ⟨h1, h2⟩
      exact n.1 (Prod.ext (h1.trans c.1.symm) (h2.trans c.2.symm))
    · rw [if_neg c, if_neg c]
theorem lookE_mem {es : List Tri} (nd : (es.map pairE).Nodup) {x : Tri} (h : x ∈ es) {b e : Nat} (hb : x.1 = b) (he : x.2.1 = e) : lookE es b e = some x.2.2 := by
  induction es with
  | nil => cases h
  | cons y es ih =>
    rw [List.map_cons, List.nodup_cons] at nd
    rw [lookE]
    rcases List.mem_cons.mp h with rfl | h
    · rw [if_pos ⟨hb, he⟩]
    · rw [if_neg, ih nd.2 h]
      rintro ⟨h1, h2⟩
      exact nd.1 (List.mem_map.mpr ⟨x, h, Prod.ext (hb.trans h1.symm) (he.trans h2.symm)⟩)
section
variable {P : Program} {w : World} {K : PySem.W.Frag} {mg : Str → Option Value} {base : Heap}
theorem scTold9 : FnScope ["many", "told", "numbers", "entry", "begin", "end", "number", "part"] ["many", "told"] (defScope s_told_numbers) := ⟨rfl, rfl, rfl, by decide +kernel, rfl, by decide +kernel, by decide +kernel⟩
def spTold9 (K : PySem.W.Frag) (CP p : Addr) : Sp := fun vs H Q E => ∃ (vt : V) (n : Nat) (es : List Tri), vs = [.int (n : Nat), vt] ∧ Dp K H vt (.list (es.map triD)) ∧ n ≤ 40 ∧ es.length ≤ 2000 ∧ Tab H p ∧
  ((GoodT n es ∧ ∀ (H' : Hp) (N : Addr) (kvs : List (List Key × V)), Same H H' → H N = none → H' N = some (.dT kvs) → (∀ b e : Nat, valV kvs (key2 b e) = (lookE es b e).map V.int) → Q (.ref N) H') ∨
   (¬ GoodT n es ∧ ∀ H', Same H H' → E (.ref CP) none H'))
theorem told9_ok {c p CP : Addr} (D : DefAt K mg "told_numbers" s_told_numbers c) (T : Txt K mg) (TB : GxR.TabB base mg c p) (X : PlE K mg "BadPaper" CP) (cN : Cal P w K mg base CX0 1 "is_number" ["value"] (spNum K)) : Cal P w K mg base (L2.CX P w) 3 "told_numbers" ["many", "told"] (spTold9 K CP p) := by
  have sc := scTold9
  refine def_ok D sc (fun vs H Q E h => ?_) (fun _ _ _ _ _ _ us hl => match us, hl with | [_, _], _ => rfl) (fun f A outer s H vs Q E hr h => ?_)
  · obtain ⟨vt, n, es, rfl, _⟩ := h
    rfl
  · obtain ⟨vt, n, es, rfl, ht, n40, l2, tb, k⟩ := h
    have hu := hr.units
    refine ⟨_, (pss_cons (ps_if (pt_not (pt_val (pe_callB call_isiD (by rfl) T.isinstance (by decide +kernel) (pa_cons (pv 1) (pa_cons (pe_bltn (v := V.ty "list") (u := Value.type "list") (by rfl) T.list_ (by decide +kernel) rfl) pa_nil))))) (pss_one (ps_raise rfl (takes_of rfl rfl rfl rfl) (L2.pmk_own PySem.F.excBase_ValueError X.x X.g X.k (raises_own X.b X.t) (by rfl)))) pss_nil) (pss_cons (ps_set (i := 2) sc.nd rfl (Or.inl rfl) pe_dnewT) (pss_cons (ps_for (passes_of rfl) rfl (pi_list (pv 1)) (pg_name (i := 3) sc.nd rfl (Or.inl rfl)) (pss_cons (ps_if ((pw_or (pt_not (pt_val (pe_callB call_isiD (by rfl) T.isinstance (by decide +kernel) (pa_cons (pv 3) (pa_cons (pe_bltn (v := V.ty "tuple") (u := Value.type "tuple") (by rfl) T.tuple_ (by decide +kernel) rfl) pa_nil))))) (pw_or (pt_cmpR op_ne (pe_callB call_lenD (by rfl) T.len PySem.boot_len (pa_cons (pv 3) pa_nil)) pe_int (nomark _)) (pw_or1 (pt_not (pt_val (pe_all (own := [("part", 7)])  hr (by rfl) T.all TB (by rfl) (by rfl) sc.nd (blkOk_by (N := ["many", "told", "numbers", "entry", "begin", "end", "number", "part"]) (sc := defScope s_told_numbers) (own := [("part", 7)]) (by decide +kernel)) (by decide +kernel) (by rfl) (by rfl) (pi_tup (pv 3)) (fun _ _ _ _ _ _ _ => (pg_name (i := 7) sc.nd rfl (Or.inl rfl))) (fun _ _ _ _ _ _ _ hr => (pe_c cN hr (by decide) (by rfl) pass0 (pa_cons (pv 7) pa_nil))))))))).pt) (pss_one (ps_raise rfl (takes_of rfl rfl rfl rfl) (L2.pmk_own PySem.F.excBase_ValueError X.x X.g X.k (raises_own X.b X.t) (by rfl)))) pss_nil) (pss_cons (ps_asg (pv 3) (pg_tup (by rfl) (pgs_cons (pg_name (i := 4) sc.nd rfl (Or.inl rfl)) (pgs_cons (pg_name (i := 5) sc.nd rfl (Or.inl rfl)) (pgs_cons (pg_name (i := 6) sc.nd rfl (Or.inl rfl)) pgs_nil))))) (pss_cons (ps_if ((pw_or (pt_not (pt_chain3 op_le op_lt op_lt pe_int (pv 4) (pe_op op_sub (pv 5) pe_int) (pv 0))) (pw_or1 (pt_cmp (pc_din (by exact le64T hu) (pe_tup (pa_cons (pv 4) (pa_cons (pv 5) pa_nil))) (pv 2))))).pt) (pss_one (ps_raise rfl (takes_of rfl rfl rfl rfl) (L2.pmk_own PySem.F.excBase_ValueError X.x X.g X.k (raises_own X.b X.t) (by rfl)))) pss_nil) (pss_one (ps_dput (by exact le64T hu) (pv 2) (pe_tup (pa_cons (pv 4) (pa_cons (pv 5) pa_nil))) (pv 6) (by rfl))))))) (pss_cons (ps_if (pt_cmpR op_lt (pe_callB call_len_dT (by rfl) T.len PySem.boot_len (pa_cons (pv 2) pa_nil)) (pe_op op_fdiv (pe_op op_mul (pv 0) (pe_op op_sub (pv 0) pe_int)) pe_int) (nomark _)) (pss_one (ps_raise rfl (takes_of rfl rfl rfl rfl) (L2.pmk_own PySem.F.excBase_ValueError X.x X.g X.k (raises_own X.b X.t) (by rfl)))) pss_nil) (pss_one (ps_ret (pv 2))))))), ?_⟩
    refine ⟨_, rfl, _, _, _, rfl, by simp, ht, _, rfl, ?_⟩
    refine iteF ?_
    refine fun N nN => ?_
    cases ht with
    | @lst a xs _ hS hI =>
      have s0 := sameNew (o := .dT []) (Same.refl H) nN
      have hN0 : upd H N (.dT []) N = some (.dT []) := upd_same
      generalize upd H N (.dT []) = H0 at s0 hN0 ⊢
      refine ⟨_, rfl, a, rfl, ⟨_, s0.seq hS⟩, for_list (K := K) (a := a) (xs := xs) (fun i σ H' => ∃ (v3 v4 v5 v6 : Option V) (kvs : List (List Key × V)), σ = [some (.int (n : Nat)), some (.ref a), some (.ref N), v3, v4, v5, v6, none] ∧ Same H H' ∧ H' N = some (.dT kvs) ∧ kvs.length = i ∧ (∀ x ∈ es.take i, GoodE n x) ∧ ((es.take i).map pairE).Nodup ∧ ∀ b e : Nat, valV kvs (key2 b e) = (lookE (es.take i) b e).map V.int)
        ⟨none, none, none, none, [], rfl, s0, hN0, rfl, (fun x h => nomatch h), List.nodup_nil, fun b e => rfl⟩ (fun i σ H' _ h => by obtain ⟨_, _, _, _, _, _, h, _⟩ := h; exact h.seq hS) ?_ ?_⟩
      · rintro i y σ H1 hy ⟨v3, v4, v5, v6, kvs, rfl, sm, hN, lk, gd, nd, lo⟩
        obtain ⟨d, ed, hd⟩ := dpGet hI hy
        rw [List.getElem?_map] at ed
        obtain ⟨x, ex, rfl⟩ : ∃ x, es[i]? = some x ∧ d = triD x := by
          cases q : es[i]? with
          | none => rw [q] at ed; cases ed
          | some x => rw [q] at ed; exact ⟨x, rfl, (Option.some.inj ed).symm⟩
        have hd1 := dp_same sm _ hd
        refine ⟨_, rfl, _, _, _, rfl, by simp, hd1, _, rfl, ?_⟩
        refine iteF ⟨_, rfl, _, _, 3, rfl, hd1, rfl, ?_⟩
        cases hd1 with
        | @tup t zs _ hT hI1 =>
        cases hI1 with
        | cons h1 hI1 =>
        cases hI1 with
        | cons h2 hI1 =>
        cases hI1 with
        | cons h3 hI1 =>
        cases hI1
        cases h1
        cases h2
        cases h3
        refine ⟨rfl, _, rfl, iteF ⟨_, rfl, t, rfl, ⟨_, hT⟩, sm _ _ tb, ?_⟩⟩
        refine all_by 3 (fun j H' => Same H1 H') (Same.refl H1) (fun j H' hj s1 => ?_) (fun H' s1 => ?_)
        · refine ⟨⟨_, [V.int x.1, V.int x.2.1, V.int x.2.2][j]'hj, sqT_same s1 hT, List.getElem?_eq_getElem hj⟩, fun y H2 ⟨e, hy⟩ => ?_⟩
          have ey := hy _ (sqT_same s1 hT)
          subst e
          obtain ⟨z, rfl⟩ : ∃ z : Int, y = .int z := by
            match j, hj, ey with
            | 0, _, ey => exact ⟨_, (Option.some.inj ey).symm⟩
            | 1, _, ey => exact ⟨_, (Option.some.inj ey).symm⟩
            | 2, _, ey => exact ⟨_, (Option.some.inj ey).symm⟩
          have hn : isNum (.int z) = true := by simp [isNum, isI, isT, tyN]
          refine ⟨rfl, _, rfl, _, _, rfl, .int z, _, rfl, fun _ => .mk hj s1, fun c => ?_⟩
          rw [hn] at c
          cases c
        · refine ⟨⟨_, sqT_same s1 hT, Nat.le_refl _⟩, _, rfl, iteF ?_⟩
          have smv := sm.trans s1
          have hNv := s1 _ _ hN
          have hTv := sqT_same s1 hT
          refine ⟨_, rfl, t, _, rfl, hTv, rfl, _, _, rfl, _, _, rfl, _, _, rfl, rfl, ?_⟩
          obtain ⟨hi, _⟩ := List.getElem?_eq_some_iff.mp ex
          have exm := List.mem_of_getElem? ex
          have bad : (¬ GoodE n x ∨ pairE x ∈ (es.take i).map pairE) → ∀ H', Same H H' → E (.ref CP) none H' := fun hb => by
            rcases k with ⟨g, _⟩ | ⟨_, k⟩
            · exfalso
              rcases hb with hb | hb
              · exact hb (g.1 x exm)
              · have e2 : es.map pairE = (es.take i).map pairE ++ (es.drop i).map pairE := by rw [← List.map_append, List.take_append_drop]
                have g2 := g.2.1
                rw [e2] at g2
                exact (List.nodup_append.mp g2).2.2 _ hb _ (List.mem_map.mpr ⟨x, List.mem_of_getElem? (i := 0) (by rw [List.getElem?_drop]; exact ex), rfl⟩) rfl
            · exact k
          refine ⟨_, rfl, _, _, rfl, rfl, _, rfl, ?_⟩
          by_cases c0 : (0 : Int) ≤ x.1
          · rw [decide_eq_true c0]
            refine iteT ⟨_, rfl, _, _, rfl, rfl, _, _, rfl, rfl, _, rfl, ?_⟩
            by_cases c1 : x.1 < x.2.1 - 1
            · rw [decide_eq_true c1]
              refine iteT ⟨_, rfl, _, _, rfl, rfl, _, rfl, ?_⟩
              by_cases c2 : x.2.1 - 1 < (n : Int)
              · rw [decide_eq_true c2]
                refine iteF ?_
                obtain ⟨b, hb⟩ : ∃ b : Nat, x.1 = (b : Int) := ⟨x.1.toNat, by omega⟩
                obtain ⟨e, he⟩ : ∃ e : Nat, x.2.1 = (e : Int) := ⟨x.2.1.toNat, by omega⟩
                rw [hb, he]
                refine ⟨_, rfl, _, rfl, by show 2 ≤ sizeLine; decide, fun t2 nt2 => ?_⟩
                have s2 := sameNew (o := .tup [.int (b : Nat), .int (e : Nat)]) (Same.refl H') nt2
                have hT2 : upd H' t2 (.tup [.int (b : Nat), .int (e : Nat)]) t2 = some (.tup [.int (b : Nat), .int (e : Nat)]) := upd_same
                generalize upd H' t2 (.tup [.int (b : Nat), .int (e : Nat)]) = H2 at s2 hT2 ⊢
                refine ⟨_, rfl, N, _, rfl, DGet.t (k := key2 b e) (s2 _ _ hNv) hT2, _, rfl, ?_⟩
                rw [lo b e]
                have ep : pairE x = ((b : Int), (e : Int)) := Prod.ext hb he
                by_cases hm : pairE x ∈ (es.take i).map pairE
                · obtain ⟨z, ez⟩ := lookE_some (b := b) (e := e) (by rw [← ep]; exact hm)
                  rw [ez]
                  exact iteT (bad (.inr hm) H2 (smv.trans s2))
                · rw [lookE_none (by rw [← ep]; exact hm)]
                  refine iteF ⟨_, rfl, _, rfl, _, rfl, _, rfl, by show 2 ≤ sizeLine; decide, fun t3 nt3 => ?_⟩
                  have s3 := sameNew (o := .tup [.int (b : Nat), .int (e : Nat)]) (Same.refl H2) nt3
                  have hT3 : upd H2 t3 (.tup [.int (b : Nat), .int (e : Nat)]) t3 = some (.tup [.int (b : Nat), .int (e : Nat)]) := upd_same
                  generalize upd H2 t3 (.tup [.int (b : Nat), .int (e : Nat)]) = H3 at s3 hT3 ⊢
                  have s23 := s2.trans s3
                  have hN3 := s23 _ _ hNv
                  have sm3 := smv.trans s23
                  refine ⟨N, _, rfl, DPut.t (k := key2 b e) hN3 hT3 (by rw [sizeLine_eq]; omega), ?_⟩
                  have tk := take_snoc9 ex
                  refine ⟨_, _, _, _, _, rfl, fun c o q => ?_, upd_same, ?_, ?_, ?_, fun b' e' => ?_⟩
                  · rw [upd_ne (ne_of_none q nN)]
                    exact sm3 _ _ q
                  · rw [putK_new _ (by rw [lo b e, lookE_none (by rw [← ep]; exact hm)]; rfl), List.length_append, lk]
                    rfl
                  · rw [tk]
                    intro q hq
                    rcases List.mem_append.mp hq with hq | hq
                    · exact gd q hq
                    · rw [List.mem_singleton.mp hq]; exact ⟨c0, c1, c2⟩
                  · rw [tk, List.map_append]
                    refine List.nodup_append.mpr ⟨nd, by simp, fun u hu v hv => ?_⟩
                    rw [List.mem_singleton.mp hv]
                    exact fun z => hm (by rw [← z]; exact hu)
                  · rw [valV_put, tk, lookE_snoc hm, lo b' e']
                    by_cases c : b' = b ∧ e' = e
                    · rw [if_pos (key2_eq.mpr c), if_pos ⟨by rw [hb, c.1], by rw [he, c.2]⟩]
                      rfl
                    · rw [if_neg (fun z => c (key2_eq.mp z)), if_neg (fun z => c ⟨by omega, by omega⟩)]
              · rw [decide_eq_false c2]
                refine iteT (bad (.inl fun g => c2 g.2.2) H' smv)
            · rw [decide_eq_false c1]
              refine iteF ⟨_, rfl, iteT (bad (.inl fun g => c1 g.2.1) H' smv)⟩
          · rw [decide_eq_false c0]
            refine iteF ⟨_, rfl, iteT (bad (.inl fun g => c0 g.1) H' smv)⟩
      · rintro σ H1 ⟨v3, v4, v5, v6, kvs, rfl, sm, hN, lk, gd, nd, lo⟩
        have lx : xs.length = es.length := by rw [dpLen hI, List.length_map]
        rw [lx, List.take_length] at gd nd lo
        refine ⟨_, rfl, N, _, rfl, hN, _, rfl, _, rfl, _, _, rfl, rfl, _, _, rfl, rfl, .inr ⟨by omega, by omega⟩, _, _, rfl, rfl, ⟨by decide, by decide⟩, _, _, rfl, rfl, _, rfl, ?_⟩
        have eq : ((n : Int) * ((n : Int) - 1)) / 2 = ((n * (n - 1) / 2 : Nat) : Int) := by
          cases n with
          | zero => rfl
          | succ m =>
            rw [show ((m + 1 : Nat) : Int) - 1 = (m : Int) by omega, ← Int.natCast_mul, show m + 1 - 1 = m by omega]
            rfl
        rw [eq, lk, lx]
        by_cases c : es.length < n * (n - 1) / 2
        · rw [decide_eq_true (by omega)]
          refine iteT ?_
          rcases k with ⟨g, _⟩ | ⟨_, k⟩
          · have := g.2.2
            omega
          · exact k H1 sm
        · rw [decide_eq_false (by omega)]
          refine iteF ⟨_, rfl, ?_⟩
          rcases k with ⟨_, k⟩ | ⟨g, _⟩
          · exact k H1 N kvs sm nN hN lo
          · exact absurd ⟨gd, nd, by omega⟩ g
end
end RS
set_option Elab.async false
set_option maxRecDepth 100000
set_option maxHeartbeats 4000000
namespace RS
open PySem PySem.Spec PyProof.Rows L2 GX
theorem dpAll_nats7 {K : PySem.W.Frag} {H : Hp} : ∀ {xs : List V} {ls : List Nat}, DpAll K H xs (ls.map fun n => .int (n : Nat)) → xs = ls.map fun n => V.int (n : Nat)
  | [], [], _ => rfl
  | x :: xs, n :: ls, h => by
    cases h with
    | cons h1 h2 =>
      cases h1
      rw [List.map_cons, ← dpAll_nats7 h2]
  | [], _ :: _, h => nomatch h
  | _ :: _, [], h => nomatch h
end RS
set_option Elab.async false
set_option maxRecDepth 100000
set_option maxHeartbeats 4000000
set_option pp.maxSteps 400
namespace RS
open PySem PySem.Spec PyProof.Rows L2 GX LM HQ
/-! ### what a paper binds -/
def fT (es : List Tri) (b e : Nat) : Int := if e = b + 1 then 0 else (lookE es b e).getD 0
theorem fT_one {es : List Tri} {b : Nat} : fT es b (b + 1) = 0 := if_pos rfl
def GoodP (ls : List Nat) (w : Nat) (es : List Tri) : Prop := GoodT ls.length es ∧ ∀ b e, b + 2 ≤ e → e ≤ ls.length → fT es b e ≤ limT ls (fT es) w b e
theorem sub_back {α : Type} [DecidableEq α] : ∀ {l1 l2 : List α}, l1.Nodup → (∀ x ∈ l1, x ∈ l2) → l2.length ≤ l1.length → ∀ x ∈ l2, x ∈ l1
  | [], l2, _, _, h, x, hx => by
    have : l2 = [] := List.length_eq_zero_iff.mp (by simpa using h)
    rw [this] at hx; cases hx
  | y :: l1, l2, nd, sub, h, x, hx => by
    obtain ⟨n1, n2⟩ := List.nodup_cons.mp nd
    have hy := sub y List.mem_cons_self
    by_cases e : x = y
    · rw [e]; exact List.mem_cons_self
    · refine List.mem_cons_of_mem _ (sub_back (l2 := l2.erase y) n2 (fun z hz => ?_) ?_ x ?_)
      · have ne : z ≠ y := fun q => n1 (by rw [← q]; exact hz)
        exact (List.mem_erase_of_ne ne).mpr (sub z (List.mem_cons_of_mem _ hz))
      · rw [List.length_erase_of_mem hy]
        rw [List.length_cons] at h
        omega
      · exact (List.mem_erase_of_ne e).mpr hx
theorem innerP_cnt {n : Nat} : ∀ {i : Nat}, (innerP n i).length * 2 = i * (i + 1)
  | 0 => rfl
  | i + 1 => by
    have := innerP_cnt (n := n) (i := i)
    rw [innerP_succ, List.length_append, innerB_len, Nat.add_mul, this, Nat.mul_comm i, ← Nat.mul_add]
theorem innerL_cnt {n : Nat} (hn : 1 ≤ n) : (innerL n).length = n * (n - 1) / 2 := by
  have := innerP_cnt (n := n) (i := n - 1)
  unfold innerL
  rw [show n - 1 + 1 = n by omega, Nat.mul_comm (n - 1) n] at this
  omega
/-- all stretches are told of -/
theorem GoodT.all {n : Nat} {es : List Tri} (g : GoodT n es) (hn : 1 ≤ n) {b e : Nat} (h1 : b + 2 ≤ e) (h2 : e ≤ n) : ∃ z, lookE es b e = some z := by
  refine lookE_some ?_
  refine sub_back (l1 := es.map pairE) (l2 := (innerL n).map fun q => ((q.1 : Int), (q.2 : Int))) g.2.1 (fun x hx => ?_) ?_ _ (List.mem_map.mpr ⟨(b, e), (innerL_mem hn).mpr ⟨h1, h2⟩, rfl⟩)
  · obtain ⟨t, ht, rfl⟩ := List.mem_map.mp hx
    obtain ⟨g1, g2, g3⟩ := g.1 t ht
    refine List.mem_map.mpr ⟨(t.1.toNat, t.2.1.toNat), (innerL_mem hn).mpr ⟨by omega, by omega⟩, Prod.ext ?_ ?_⟩
    · show ((t.1.toNat : Nat) : Int) = t.1
      omega
    · show ((t.2.1.toNat : Nat) : Int) = t.2.1
      omega
  · rw [List.length_map, List.length_map, innerL_cnt hn]
    exact g.2.2
section
variable {P : Program} {w : World} {K : PySem.W.Frag} {mg : Str → Option Value} {base : Heap}
theorem scBound : FnScope ["lengths", "ways", "told", "numbers", "stretches", "begin", "end"] ["lengths", "ways", "told"] (defScope s_bound) := ⟨rfl, rfl, rfl, by decide +kernel, rfl, by decide +kernel, by decide +kernel⟩
def spBound (K : PySem.W.Frag) (CP p q : Addr) : Sp := fun vs H Q E => ∃ (vl vt : V) (ls : List Nat) (w : Nat) (es : List Tri), vs = [vl, .int (w : Nat), vt] ∧ Dp K H vl (lensD ls) ∧ OkLens ls ∧ 2 ≤ w ∧ w ≤ 6 ∧ Dp K H vt (.list (es.map triD)) ∧ es.length ≤ 2000 ∧ Tab H p ∧ Tab H q ∧
  ((GoodP ls w es ∧ ∀ H', Same H H' → Q (.int (fT es 0 ls.length)) H') ∨ (¬ GoodP ls w es ∧ ∀ H', Same H H' → E (.ref CP) none H'))
theorem bound_ok {c p q CP C : Addr} (DD : DefAt K mg "bound" s_bound c) (T : Txt K mg) (X : PlE K mg "BadPaper" CP) (S : Str7 P w K mg base C) (cO : MetC P w K mg base CX0 1 C "noted" ["self", "begin", "end"] (spTNoted C)) (cM : Cal P w K mg base CX0 4 "check_merging" ["lengths", "ways"] (spCheckMerging K p)) (cT : Cal P w K mg base (L2.CX P w) 3 "told_numbers" ["many", "told"] (spTold9 K CP q)) :
    Cal P w K mg base (L2.CX P w) 5 "bound" ["lengths", "ways", "told"] (spBound K CP p q) := by
  have sc := scBound
  refine def_ok DD sc (fun vs H Q E h => ?_) (fun _ _ _ _ _ _ us hl => match us, hl with | [_, _, _], _ => rfl) (fun f A outer s H vs Q E hr h => ?_)
  · obtain ⟨vl, vt, ls, w, es, rfl, _⟩ := h
    rfl
  · obtain ⟨vl, vt, ls, w, es, rfl, hl, okl, hw2, hw6, ht, l2, tp, tq, k⟩ := h
    have hu := hr.units
    have cI := S.init
    have cF := S.inner
    have cN := S.note
    have cL := S.limit
    refine ⟨_, (pss_cons (ps_expr (pe_c cM hr (by decide) (by rfl) pass0 (pa_cons (pv 0) (pa_cons (pv 1) pa_nil)))) (pss_cons (ps_set (i := 3) sc.nd rfl (Or.inl rfl) (pe_c cT hr (by decide) (by rfl) (passes_call (takes_of rfl rfl rfl rfl) fun _ _ _ _ h => h) (pa_cons (pe_callB call_lenD (by rfl) T.len PySem.boot_len (pa_cons (pv 0) pa_nil)) (pa_cons (pv 2) pa_nil)))) (pss_cons (ps_set (i := 4) sc.nd rfl (Or.inl rfl) (pe_mk cI hr (by decide) (by rfl) pass0 (pa_cons (pv 0) (pa_cons (pv 1) pa_nil)))) (pss_cons (ps_for (passes_of rfl) rfl (pi_list (pe_m0 cF hr (by decide) pass0 (pv 4))) (pg_tup (by rfl) (pgs_cons (pg_name (i := 5) sc.nd rfl (Or.inl rfl)) (pgs_cons (pg_name (i := 6) sc.nd rfl (Or.inl rfl)) pgs_nil))) (pss_cons (ps_if (pt_cmpR op_gt (pe_dget (by exact le64T hu) (pv 3) (pe_tup (pa_cons (pv 5) (pa_cons (pv 6) pa_nil))) (by intro _ _; rfl)) (pe_m cL hr (by decide) pass0 (pv 4) (pa_cons (pv 5) (pa_cons (pv 6) pa_nil))) (nomark _)) (pss_one (ps_raise rfl (takes_of rfl rfl rfl rfl) (L2.pmk_own PySem.F.excBase_ValueError X.x X.g X.k (raises_own X.b X.t) (by rfl)))) pss_nil) (pss_one (ps_expr (pe_m cN hr (by decide) pass0 (pv 4) (pa_cons (pv 5) (pa_cons (pv 6) (pa_cons (pe_dget (by exact le64T hu) (pv 3) (pe_tup (pa_cons (pv 5) (pa_cons (pv 6) pa_nil))) (by intro _ _; rfl)) pa_nil)))))))) (pss_one (ps_ret (pe_m cO hr (by decide) pass0 (pv 4) (pa_cons pe_int (pa_cons (pe_callB call_len_seq (by rfl) T.len PySem.boot_len (pa_cons (pv 0) pa_nil)) pa_nil))))))))), ?_⟩
    refine ⟨_, rfl, _, rfl, vl, ls, _, rfl, hl, okl, by omega, by omega, tp, fun H1 s1 => ?_⟩
    have hl1 := dp_same s1 _ hl
    have n1 := okl.one
    have n40 := okl.most
    cases hl1 with
    | @lst L xs _ hS hI =>
      have ex := dpAll_nats7 hI
      subst ex
      have lm : (ls.map fun n => V.int (n : Nat)).length = ls.length := List.length_map _
      refine ⟨_, rfl, _, _, (ls.map fun n => PyData.int (n : Nat)).length, rfl, .lst hS hI, rfl, _, rfl, vt, ls.length, es, by rw [List.length_map]; rfl, dp_same s1 _ ht, n40, l2, s1 _ _ tq, ?_⟩
      by_cases gT : GoodT ls.length es
      · refine .inl ⟨gT, fun H2 N9 kvs s2 nN9 hN9 lo => ?_⟩
        have s02 := s1.trans s2
        refine ⟨_, rfl, _, rfl, fun x dx nx ndx ndxx => ?_⟩
        have s3a : Same H2 (upd H2 dx (.own x)) := sameNew (Same.refl H2) ndx
        have nx1 : upd H2 dx (.own x) x = none := (upd_ne (Ne.symm ndxx)).trans nx
        have s3 : Same H2 (upd (upd H2 dx (.own x)) x (.ins C dx [])) := sameNew s3a nx1
        refine ⟨x, dx, L, ls, w, fT es, rfl, upd_same, s3.seq (s2.seq hS), n40, hw2, hw6, fun b => fT_one, fun H3 a N D st nND na nN nD fr => ?_⟩
        refine ⟨rfl, ?_⟩
        have sH : ∀ {H' : Hp}, Frt H3 H' N D → Same H2 H' := fun {H'} f b o e => by
          have e2 := s3 b o e
          exact f b o (fr b o e2 (ne_of_none e nx)) (ne_of_none e2 nN) (ne_of_none e2 nD)
        obtain ⟨dx3, hx3⟩ := st.o
        refine ⟨_, rfl, x, dx3, _, rfl, hx3, ft_no (by decide +kernel) (by decide +kernel) (by decide +kernel) (by decide +kernel), ?_⟩
        refine ⟨x, a, N, D, ls, w, ls.length, fT es, W1 ls.length, rfl, st, n1, n40, fun H4 p ts s4 np hp hq => ?_⟩
        have lq := hq.len
        have lI := innerL_len n40
        refine ⟨p, rfl, ⟨_, SqL.of hp⟩, ?_⟩
        refine for_list (K := K) (a := p) (xs := ts) (fun j σ H' => ∃ v3 v4 : Option V, σ = [some (.ref L), some (.int (w : Nat)), some vt, some (.ref N9), some (.ref x), v3, v4] ∧ StAt C ls w (fT es) (Wj ls.length j) H' x a N D (ls.length + j) ∧ Frt H4 H' N D ∧ ∀ q ∈ (innerL ls.length).take j, fT es q.1 q.2 ≤ limT ls (fT es) w q.1 q.2) ⟨none, none, rfl, (st.grow s4).weak fun b e z => ?_, (fun b o e _ _ => e), (fun q h => nomatch h)⟩ ?_ ?_ ?_
        · rcases z with z | z
          · exact z
          · rw [List.take_zero] at z
            cases z
        · rintro j σ H5 _ ⟨v3, v4, rfl, st5, f5, _⟩
          refine SqL.of (f5 _ _ hp ?_ ?_)
          · rintro rfl
            obtain ⟨kn, hn, _⟩ := (st.grow s4).nm
            rw [hn] at hp
            cases hp
          · rintro rfl
            obtain ⟨kn, hn, _⟩ := (st.grow s4).pd
            rw [hn] at hp
            cases hp
        · rintro j y σ H5 hj ⟨v3, v4, rfl, st5, f5, le5⟩
          obtain ⟨⟨b, e⟩, eq, t, rfl, ht⟩ := hq.get hj
          have jl := (List.getElem?_eq_some_iff.mp eq).1
          have mem := (innerL_mem (b := b) (e := e) n1).mp (List.mem_of_getElem? eq)
          have ht5 : H5 t = some (.tup [.int (b : Nat), .int (e : Nat)]) := f5 _ _ ht (by
            rintro rfl
            obtain ⟨kn, hn, _⟩ := (st.grow s4).nm
            rw [hn] at ht
            cases ht) (by
            rintro rfl
            obtain ⟨kn, hn, _⟩ := (st.grow s4).pd
            rw [hn] at ht
            cases ht)
          obtain ⟨dx5, hx5⟩ := st5.o
          have s25 := sH ((Frt.of s4).trans f5)
          have hN5 := s25 _ _ hN9
          obtain ⟨z, ez⟩ := gT.all n1 mem.1 mem.2
          have efz : fT es b e = z := by
            unfold fT
            rw [if_neg (by omega), ez]
            rfl
          have hW : ∀ c, b < c → c < e → Wj ls.length j b c ∧ Wj ls.length j c e := fun c c1 c2 => ⟨Wj_in n1 eq c1 (by omega) (.inr ⟨rfl, c2⟩), Wj_in n1 eq c2 mem.2 (.inl c1)⟩
          have get : ∀ {HX : Hp} {t2 : Addr}, HX N9 = some (.dT kvs) → HX t2 = some (.tup [.int (b : Nat), .int (e : Nat)]) → DGet HX N9 (.ref t2) (some (.int z)) := fun {HX t2} h1 h2 => by
            have := DGet.t (k := key2 b e) h1 h2
            rw [lo b e, ez] at this
            exact this
          refine ⟨t, _, rfl, SqT.of ht5, rfl, _, _, rfl, _, _, rfl, rfl, ?_⟩
          refine ⟨_, rfl, _, rfl, _, rfl, by show 2 ≤ sizeLine; decide, fun t2 nt2 => ?_⟩
          have s6 := sameNew (o := .tup [.int (b : Nat), .int (e : Nat)]) (Same.refl H5) nt2
          have hT6 : upd H5 t2 (.tup [.int (b : Nat), .int (e : Nat)]) t2 = some (.tup [.int (b : Nat), .int (e : Nat)]) := upd_same
          generalize upd H5 t2 (.tup [.int (b : Nat), .int (e : Nat)]) = H6 at s6 hT6 ⊢
          refine ⟨N9, .int z, rfl, get (s6 _ _ hN5) hT6, ?_⟩
          refine ⟨_, rfl, x, dx5, _, rfl, s6 _ _ hx5, ft_no (by decide +kernel) (by decide +kernel) (by decide +kernel) (by decide +kernel), _, rfl, _, rfl, ?_⟩
          refine ⟨x, a, N, D, ls, w, ls.length + j, b, e, fT es, Wj ls.length j, rfl, st5.grow s6, mem.1, by omega, hw2, hW, fun H7 s7 => ?_⟩
          refine ⟨_, _, rfl, rfl, _, rfl, ?_⟩
          by_cases c : limT ls (fT es) w b e < z
          · refine iteT' (decide_eq_true c) ?_
            rcases k with ⟨g, _⟩ | ⟨_, k⟩
            · have := g.2 b e mem.1 mem.2
              rw [efz] at this
              omega
            · exact k H7 (s02.trans ((s25.trans s6).trans s7))
          · refine iteF' (decide_eq_false c) ?_
            have st7 := (st5.grow s6).grow s7
            refine ⟨_, rfl, x, dx5, _, rfl, s7 _ _ (s6 _ _ hx5), ft_no (by decide +kernel) (by decide +kernel) (by decide +kernel) (by decide +kernel), _, rfl, _, rfl, _, rfl, _, rfl, _, rfl, by show 2 ≤ sizeLine; decide, fun t3 nt3 => ?_⟩
            have s8 := sameNew (o := .tup [.int (b : Nat), .int (e : Nat)]) (Same.refl H7) nt3
            have hT8 : upd H7 t3 (.tup [.int (b : Nat), .int (e : Nat)]) t3 = some (.tup [.int (b : Nat), .int (e : Nat)]) := upd_same
            generalize upd H7 t3 (.tup [.int (b : Nat), .int (e : Nat)]) = H8 at s8 hT8 ⊢
            refine ⟨N9, .int z, rfl, get (s8 _ _ (s7 _ _ (s6 _ _ hN5))) hT8, ?_⟩
            refine ⟨x, a, N, D, ls, w, ls.length + j, b, e, fT es, Wj ls.length j, by rw [efz]; rfl, st7.grow s8, nND, by omega, by omega, hw2, hw6, by omega, hW, fun H9 st9 f9 => ?_⟩
            refine ⟨_, _, rfl, st9.weak fun b e z => Wj_suc eq z, (f5.trans (.of ((s6.trans s7).trans s8))).trans f9, fun q hq => ?_⟩
            rw [take_snoc9 eq] at hq
            rcases List.mem_append.mp hq with hq | hq
            · exact le5 q hq
            · rw [List.mem_singleton.mp hq]
              show fT es b e ≤ limT ls (fT es) w b e
              rw [efz]
              omega
        · rintro σ H5 ⟨v3, v4, rfl, st5, f5, le5⟩
          have s25 := sH ((Frt.of s4).trans f5)
          have gp : GoodP ls w es := ⟨gT, fun b e h1 h2 => le5 (b, e) (by rw [lq, List.take_length]; exact (innerL_mem n1).mpr ⟨h1, h2⟩)⟩
          obtain ⟨dx5, hx5⟩ := st5.o
          refine ⟨_, rfl, x, dx5, _, rfl, hx5, ft_no (by decide +kernel) (by decide +kernel) (by decide +kernel) (by decide +kernel), _, rfl, L, _, rfl, .inl (s25.seq (s2.seq hS)), ?_⟩
          rw [lm]
          refine ⟨x, a, N, D, ls, w, ls.length + ts.length, 0, ls.length, fT es, _, rfl, st5, by rw [lq]; exact WA_all n1 ⟨by omega, Nat.le_refl _⟩, fun H6 s6 => ?_⟩
          rcases k with ⟨_, k⟩ | ⟨g, _⟩
          · exact k H6 ((s02.trans s25).trans s6)
          · exact absurd gp g
      · refine .inr ⟨gT, fun H2 s2 => ?_⟩
        rcases k with ⟨g, _⟩ | ⟨_, k⟩
        · exact absurd g.1 gT
        · exact k H2 (s1.trans s2)
end
end RS
set_option Elab.async false
set_option maxRecDepth 100000
set_option maxHeartbeats 4000000
set_option pp.maxSteps 400
namespace RS
open PySem PySem.Spec PyProof.Rows L2 GX LM HQ
/-! ### the paper of the cheapest numbers -/
def lexN (p q : Nat × Nat) : Prop := p.1 < q.1 ∨ (p.1 = q.1 ∧ p.2 < q.2)
def papE (ls : List Nat) (w : Nat) (q : Nat × Nat) : Tri := ((q.1 : Int), (q.2 : Int), numC ls w q.1 q.2)
/-- the pair that a value is, by the heap -/
def kPr (H : Hp) : V → Int × Int
  | .ref t => match H t with
    | some (.tup [.int i, .int j]) => (i, j)
    | _ => (0, 0)
  | _ => (0, 0)
theorem kPr_at {H : Hp} {v : V} {p : Int × Int} (h : TupAt H v p) : kPr H v = p := by
  obtain ⟨t, rfl, ht⟩ := h
  simp only [kPr, ht]
def kNat (H : Hp) (v : V) : Nat × Nat := ((kPr H v).1.toNat, (kPr H v).2.toNat)
theorem kNat_at {H : Hp} {v : V} {q : Nat × Nat} (h : TupAt H v ((q.1 : Nat), (q.2 : Nat))) : kNat H v = q := by
  unfold kNat
  rw [kPr_at h]
  exact Prod.ext (Int.toNat_natCast _) (Int.toNat_natCast _)
theorem Prs.nats {H : Hp} {vs : List V} {qs : List (Nat × Nat)} (h : Prs H vs qs) : vs.map (kNat H) = qs ∧ ∀ v ∈ vs, TupAt H v (((kNat H v).1 : Nat), ((kNat H v).2 : Nat)) := by
  induction h with
  | nil => exact ⟨rfl, fun v h => nomatch h⟩
  | @cons v q vs qs h _ ih =>
    refine ⟨by rw [List.map_cons, kNat_at h, ih.1], fun u hu => ?_⟩
    rcases List.mem_cons.mp hu with e | hu
    · rw [e, kNat_at h]; exact h
    · exact ih.2 u hu
section
variable {P : Program} {w : World} {K : PySem.W.Frag} {mg : Str → Option Value} {base : Heap}
theorem scPaper : FnScope ["lengths", "ways", "stretches", "begin", "end"] ["lengths", "ways"] (defScope s_paper) := ⟨rfl, rfl, rfl, by decide +kernel, rfl, by decide +kernel, by decide +kernel⟩
def spPaper (K : PySem.W.Frag) (p : Addr) : Sp := fun vs H Q _ => ∃ (vl : V) (ls : List Nat) (w : Nat), vs = [vl, .int (w : Nat)] ∧ Dp K H vl (lensD ls) ∧ OkLens ls ∧ 2 ≤ w ∧ w ≤ 6 ∧ Tab H p ∧
  ∀ (H' : Hp) (a : Addr) (xs : List V) (qs : List (Nat × Nat)), Same H H' → H a = none → H' a = some (.lst xs) → DpAll K H' xs ((qs.map (papE ls w)).map triD) → qs.Perm (innerL ls.length) → qs.Pairwise lexN → Q (.ref a) H'
theorem paper_ok {c p C : Addr} (DD : DefAt K mg "paper" s_paper c) (T : Txt K mg) (cF : MetC P w K mg base CX0 1 C "inner_first" ["self"] (spTInner C)) (cO : MetC P w K mg base CX0 1 C "noted" ["self", "begin", "end"] (spTNoted C)) (cM : Cal P w K mg base CX0 4 "check_merging" ["lengths", "ways"] (spCheckMerging K p)) (cS : Cal P w K mg base CX0 5 "cheapest_stretches" ["lengths", "ways"] (spTCheap K C)) :
    Cal P w K mg base CX0 6 "paper" ["lengths", "ways"] (spPaper K p) := by
  have sc := scPaper
  refine def_ok0 DD sc (fun vs H Q E h => ?_) (fun _ _ _ _ _ _ us hl => match us, hl with | [_, _], _ => rfl) (fun f A outer s H vs Q E hr h => ?_)
  · obtain ⟨vl, ls, w, rfl, _⟩ := h
    rfl
  · obtain ⟨vl, ls, w, rfl, hl, okl, hw2, hw6, tp, k⟩ := h
    have hu := hr.units
    refine ⟨_, (pss_cons (ps_expr (pe_c cM hr (by decide) (by rfl) pass0 (pa_cons (pv 0) (pa_cons (pv 1) pa_nil)))) (pss_cons (ps_set (i := 2) sc.nd rfl (Or.inr rfl) (pe_c cS hr (by decide) (by rfl) pass0 (pa_cons (pv 0) (pa_cons (pv 1) pa_nil)))) (pss_one (ps_ret (pe_lc (own := [("begin", 3), ("end", 4)]) (g := gTup K 2 (gCons (gName 3) (gCons (gName 4) gNil))) (tt := tYes) rfl sc.nd (pi_list (pe_callB cr_sortedPO (by rfl) T.sorted (by decide +kernel) (pa_cons (pe_m0 cF hr (by decide) pass0 (pv 2)) pa_nil))) (blkOk_by (N := ["lengths", "ways", "stretches", "begin", "end"]) (sc := defScope s_paper) (own := [("begin", 3), ("end", 4)]) (by decide +kernel)) (fun _ _ _ _ _ => (pg_tup (by rfl) (pgs_cons (pg_name (i := 3) sc.nd rfl (Or.inl rfl)) (pgs_cons (pg_name (i := 4) sc.nd rfl (Or.inl rfl)) pgs_nil)))) (fun _ _ _ _ _ => pts_nil) (fun _ _ _ _ _ => (pe_tup (pa_cons (pv 3) (pa_cons (pv 4) (pa_cons (pe_m cO hr (by decide) pass0 (pv 2) (pa_cons (pv 3) (pa_cons (pv 4) pa_nil))) pa_nil)))))))))), ?_⟩
    have n1 := okl.one
    have n40 := okl.most
    refine ⟨_, rfl, _, rfl, vl, ls, _, rfl, hl, okl, by omega, by omega, tp, fun H1 s1 => ?_⟩
    have hl1 := dp_same s1 _ hl
    cases hl1 with
    | @lst L xs _ hS hI =>
      have ex := dpAll_nats7 hI
      subst ex
      refine ⟨_, rfl, _, rfl, L, ls, w, rfl, hS, n1, n40, hw2, hw6, fun H2 x a N D m s2 nx st => ?_⟩
      obtain ⟨dx, hx⟩ := st.o
      refine ⟨_, rfl, x, dx, _, rfl, hx, ft_no (by decide +kernel) (by decide +kernel) (by decide +kernel) (by decide +kernel), ?_⟩
      refine ⟨x, a, N, D, ls, w, m, numC ls w, WA ls.length, rfl, st, n1, n40, fun H3 p3 ts s3 np hp hq => ?_⟩
      obtain ⟨e1, e2⟩ := hq.nats
      refine ⟨p3, ts, kPr H3, rfl, SqL.of hp, fun v hv => ?_, fun ys p4 so sb n4 => ?_⟩
      · obtain ⟨t, e, ht⟩ := e2 v hv
        exact ⟨t, e, by rw [kPr_at (e2 v hv)]; exact ht⟩
      have s4 := sameNew (o := .lst ys) (Same.refl H3) n4
      have hp4 : upd H3 p4 (.lst ys) p4 = some (.lst ys) := upd_same
      generalize upd H3 p4 (.lst ys) = H4 at s4 hp4 ⊢
      have pm : (ys.map (kNat H3)).Perm (innerL ls.length) := by
        rw [← e1]
        exact sb.perm.map _
      have ndI : (innerL ls.length).Nodup := by
        refine List.Pairwise.imp (fun {p q} h => ?_) (innerP_pw (n := ls.length) (i := ls.length - 1) (by omega))
        rintro rfl
        unfold aheadS at h
        omega
      have tup : ∀ y ∈ ys, TupAt H3 y (((kNat H3 y).1 : Nat), ((kNat H3 y).2 : Nat)) := fun y hy => e2 y (sb.perm.mem_iff.mp hy)
      have lex : (ys.map (kNat H3)).Pairwise lexN := by
        have nd := pm.nodup_iff.mpr ndI
        rw [List.nodup_iff_pairwise_ne] at nd
        rw [List.pairwise_map] at nd ⊢
        refine List.Pairwise.imp_of_mem (fun {x y} hx hy h => ?_) (List.pairwise_and_iff.mpr ⟨so, nd⟩)
        obtain ⟨h1, h2⟩ := h
        have h3 := SrtO.lexB_no.mp h1
        rw [kPr_at (tup x hx), kPr_at (tup y hy)] at h3
        have h4 : ¬ ((kNat H3 x).1 = (kNat H3 y).1 ∧ (kNat H3 x).2 = (kNat H3 y).2) := fun z => h2 (Prod.ext z.1 z.2)
        unfold lexN
        simp only at h3
        omega
      have x4 := s4 _ _ (s3 _ _ hx)
      have st4 := (st.grow s3).grow s4
      have n40' := innerL_len n40
      have lys : ys.length ≤ 1600 := by
        have := pm.length_eq
        rw [List.length_map] at this
        omega
      refine ⟨p4, rfl, ⟨_, SqL.of hp4⟩, fun DD hD => ?_⟩
      refine lc_list (K := K) (a := p4) (xs := ys) (fun j H' => Same H4 H' ∧ ∃ zs, H' DD = some (.lst zs) ∧ DpAll K H' zs ((((ys.map (kNat H3)).take j).map (papE ls w)).map triD))
        ⟨sameNew (Same.refl H4) hD, [], upd_same, .nil⟩ (fun j H' _ h => SqL.of (h.1 _ _ hp4)) ?_ ?_
      · rintro j y H5 hy ⟨s5, zs, hD5, d5⟩
        have hym := List.mem_of_getElem? hy
        obtain ⟨t, et, ht⟩ := tup y hym
        subst et
        have ht5 := s5 _ _ (s4 _ _ ht)
        have hj : j < ys.length := (List.getElem?_eq_some_iff.mp hy).1
        have mem := (innerL_mem (b := (kNat H3 (.ref t)).1) (e := (kNat H3 (.ref t)).2) n1).mp (pm.mem_iff.mp (List.mem_map.mpr ⟨_, hym, rfl⟩))
        have eq : (ys.map (kNat H3))[j]? = some (kNat H3 (.ref t)) := by rw [List.getElem?_map, hy]; rfl
        generalize hq2 : kNat H3 (.ref t) = q at mem eq ht5 ⊢
        obtain ⟨b, e⟩ := q
        refine ⟨t, _, rfl, SqT.of ht5, rfl, _, _, rfl, _, _, rfl, rfl, rfl, ?_⟩
        have st5 := st4.grow s5
        refine ⟨_, rfl, _, rfl, _, rfl, x, dx, _, rfl, s5 _ _ x4, ft_no (by decide +kernel) (by decide +kernel) (by decide +kernel) (by decide +kernel), _, rfl, _, rfl, ?_⟩
        refine ⟨x, a, N, D, ls, w, m, b, e, numC ls w, WA ls.length, rfl, st5, ⟨by omega, mem.2⟩, fun H6 s6 => ?_⟩
        refine ⟨by show 3 ≤ sizeLine; decide, fun t7 nt7 => ?_⟩
        have s7 := sameNew (o := .tup [.int (b : Nat), .int (e : Nat), .int (numC ls w b e)]) (Same.refl H6) nt7
        have hT7 : upd H6 t7 (.tup [.int (b : Nat), .int (e : Nat), .int (numC ls w b e)]) t7 = some (.tup [.int (b : Nat), .int (e : Nat), .int (numC ls w b e)]) := upd_same
        generalize upd H6 t7 (.tup [.int (b : Nat), .int (e : Nat), .int (numC ls w b e)]) = H7 at s7 hT7 ⊢
        have s67 := s6.trans s7
        have hD7 := s67 _ _ hD5
        have lz : zs.length = j := by rw [dpLen d5, List.length_map, List.length_map, List.length_take, List.length_map]; omega
        have noT9 : ∀ qs : List (Nat × Nat), noLs ((qs.map (papE ls w)).map triD) = true := fun qs => noLs_iff.mpr fun d hd => by
          obtain ⟨u, hu, rfl⟩ := List.mem_map.mp hd
          simp [triD, noL, noLs]
        refine ⟨zs, hD7, (by rw [sizeLine_eq]; omega), fun b o z => (upd_ne (ne_of_none z hD)).trans (s67 _ _ (s5 b o z)), zs ++ [.ref t7], upd_same, ?_⟩
        rw [take_snoc9 eq]
        have nl := noT9 ((ys.map (kNat H3)).take j ++ [(b, e)])
        rw [List.map_append, List.map_append] at nl ⊢
        exact dpAll_upd hD7 _ nl (dpApp (dpAll_same s67 _ d5) (.cons (.tup (SqT.of hT7) (.cons (.int _) (.cons (.int _) (.cons (.int _) .nil)))) .nil))
      · rintro H5 ⟨s5, zs, hD5, d5⟩
        rw [List.take_of_length_le (by rw [List.length_map]; exact Nat.le_refl _)] at d5
        exact k H5 DD zs _ (((((s1.trans s2).trans s3).trans s4)).trans s5) ((((s1.trans s2).trans s3).trans s4).free hD) hD5 d5 pm lex
end
end RS
set_option Elab.async false
set_option maxRecDepth 100000
set_option maxHeartbeats 4000000
namespace RS
open PySem PySem.Spec PyProof.Rows L2 GX
theorem perm_erase {α : Type} : ∀ {l : List α} {k : Nat} {x : α}, l[k]? = some x → l.Perm (x :: l.eraseIdx k)
  | [], k, x, h => by simp at h
  | y :: l, 0, x, h => by
    simp at h
    subst h
    exact List.Perm.refl _
  | y :: l, k + 1, x, h => by
    have ih := perm_erase (l := l) (k := k) (x := x) (by simpa using h)
    exact (ih.cons y).trans (List.Perm.swap x y _)
theorem map_erase {α β : Type} (f : α → β) : ∀ (l : List α) (k : Nat), (l.map f).eraseIdx k = (l.eraseIdx k).map f
  | [], _ => rfl
  | _ :: _, 0 => rfl
  | x :: l, k + 1 => by
    show f x :: (l.map f).eraseIdx k = f x :: (l.eraseIdx k).map f
    rw [map_erase f l k]
theorem seqIx {k n : Nat} (h : k < n) : seqIndex? (k : Int) n = some k := by
  simp [seqIndex?]
  omega
section
variable {P : Program} {w : World} {K : PySem.W.Frag} {mg : Str → Option Value} {base : Heap}
theorem dpNats {H : Hp} : ∀ ns : List Nat, DpAll K H (ns.map fun c => V.int (c : Nat)) (ns.map fun c => .int (c : Nat))
  | [] => .nil
  | _ :: ns => .cons (.int _) (dpNats ns)
end
end RS
set_option Elab.async false
set_option maxRecDepth 100000
set_option maxHeartbeats 4000000
namespace RS
open PySem PySem.Spec PyProof.Rows L2 GX
/-- a new object in a heap that differs by the drawer -/
theorem alX {B L e : Addr} {H H1 : Hp} {o : HO} (s : SameX B L H H1) (hb : BoxAt H B L) (b : BoxAt H1 B L) (he : H1 e = none) : SameX B L H (upd H1 e o) ∧ BoxAt (upd H1 e o) B L ∧ e ≠ B ∧ e ≠ L := by
  obtain ⟨n1, n2⟩ := b.nb he
  exact ⟨s.new (s.free hb he b), b.upd_ n1 n2, n1, n2⟩
section
variable {P : Program} {w : World} {K : PySem.W.Frag} {mg : Str → Option Value} {base : Heap}
theorem scLens : FnScope ["_law_box", "_law_most", "_law_found", "_law_k", "_law_some"] ["_law_box", "_law_most"] (defScope s__law_lengths) := ⟨rfl, rfl, rfl, by decide +kernel, rfl, by decide +kernel, by decide +kernel⟩
def spLens : Sp := fun vs H Q _ => ∃ (B L : Addr) (m : Nat), vs = [.ref B, .int (m : Nat)] ∧ BoxAt H B L ∧ 1 ≤ m ∧ m ≤ 40 ∧
  ∀ (H' : Hp) (a : Addr) (ls : List Nat), SameX B L H H' → BoxAt H' B L → OkLens ls → ls.length ≤ m → H a = none → H' a = some (.lst (ls.map fun n => V.int (n : Nat))) → Q (.ref a) H'
theorem lens_ok {c : Addr} (D : DefAt K mg "_law_lengths" s__law_lengths c) (T : Txt K mg) (cT : Cal P w K mg base CX0 1 "_law_take" ["_law_box", "_law_many"] spTake) : Cal P w K mg base CX0 2 "_law_lengths" ["_law_box", "_law_most"] spLens := by
  have sc := scLens
  refine def_ok0 D sc (fun vs H Q E h => ?_) (fun _ _ _ _ _ _ us hl => match us, hl with | [_, _], _ => rfl) (fun f A outer s H vs Q E hr h => ?_)
  · obtain ⟨B, L, m, rfl, _⟩ := h
    rfl
  · obtain ⟨B, L, m, rfl, hb, m1, m40, k⟩ := h
    refine ⟨_, (pss_cons (ps_set (i := 2) sc.nd rfl (Or.inl rfl) (pe_lst pa_nil)) (pss_cons (ps_for PassesOwn.never rfl (pi_range1 (by rfl) T.range (pa_cons (pe_op op_add pe_int (pe_c cT hr (by decide) (by rfl) pass0 (pa_cons (pv 0) (pa_cons (pv 1) pa_nil)))) pa_nil)) (pg_name (i := 3) sc.nd rfl (Or.inl rfl)) (pss_cons (ps_set (i := 4) sc.nd rfl (Or.inl rfl) (pe_lst (pa_cons (pe_op op_add pe_int (pe_c cT hr (by decide) (by rfl) pass0 (pa_cons (pv 0) (pa_cons pe_int pa_nil)))) (pa_cons (pe_op op_add pe_int (pe_c cT hr (by decide) (by rfl) pass0 (pa_cons (pv 0) (pa_cons pe_int pa_nil)))) (pa_cons (pe_op op_add (pv 3) pe_int) (pa_cons (pe_op op_add pe_int (pe_c cT hr (by decide) (by rfl) pass0 (pa_cons (pv 0) (pa_cons (pe_op op_pow pe_int pe_int) pa_nil)))) (pa_cons (pe_op op_pow pe_int pe_int) pa_nil))))))) (pss_one (ps_expr (pe_bm PySem.F.plainAttrs_list PySem.F.slot_list_append PySem.F.type_list_append mt_append (pv 2) (pa_cons (pe_ix ix_list (pv 4) (pe_ix ix_list (pe_lst (pa_cons pe_int (pa_cons pe_int (pa_cons pe_int (pa_cons pe_int (pa_cons pe_int (pa_cons pe_int pa_nil))))))) (pe_c cT hr (by decide) (by rfl) pass0 (pa_cons (pv 0) (pa_cons pe_int pa_nil))) (fun _ _ => rfl)) (fun _ _ => rfl)) pa_nil)))))) (pss_one (ps_ret (pv 2))))), ?_⟩
    refine ⟨Nat.zero_le _, fun F hF => ?_⟩
    obtain ⟨s0, b0, nFB, nFL⟩ := alX (o := .lst []) SameX.refl hb hb hF
    refine ⟨_, rfl, _, rfl, B, L, _, rfl, b0, by omega, by omega, fun H1 n s1 b1 n0 n1 => ?_⟩
    refine ⟨_, _, rfl, rfl, _, rfl, by omega, by omega, ?_⟩
    rw [show (1 + n).toNat = n.toNat + 1 by omega]
    have hF1 : H1 F = some (.lst []) := s1 _ _ nFB nFL upd_same
    have sA := s0.trans s1
    refine for_range (fun i σ H' => ∃ (v3 v4 : Option V) (ls : List Nat), σ = [some (.ref B), some (.int (m : Nat)), some (.ref F), v3, v4] ∧ SameX B L H H' ∧ BoxAt H' B L ∧ H' F = some (.lst (ls.map fun n => V.int (n : Nat))) ∧ ls.length = i ∧ ∀ x ∈ ls, 1 ≤ x ∧ x ≤ 1000000)
      ⟨none, none, [], rfl, sA, b1, hF1, rfl, (fun _ h => nomatch h)⟩ ?_ ?_
    · rintro i σ H2 hi ⟨v3, v4, ls, rfl, sm, b2, hF2, li, ok⟩
      have pw : ((10 : Int) ^ (6 : Int).toNat) = 1000000 := by decide +kernel
      refine ⟨_, rfl, B, L, 9, rfl, b2, by decide, by decide, fun H3 x1 s3 b3 p0 p1 => ?_⟩
      refine ⟨_, _, rfl, rfl, _, rfl, B, L, 2, rfl, b3, by decide, by decide, fun H4 x2 s4 b4 q0 q1 => ?_⟩
      refine ⟨_, _, rfl, rfl, _, rfl, _, _, rfl, rfl, _, rfl, _, _, rfl, rfl, ⟨by decide, by decide, by decide⟩, B, L, _, rfl, b4, by rw [pw]; decide, by rw [pw]; decide, fun H5 x3 s5 b5 r0 r1 => ?_⟩
      refine ⟨_, _, rfl, rfl, _, _, rfl, rfl, ⟨by decide, by decide, by decide⟩, by show 5 ≤ sizeLine; decide, fun e he => ?_⟩
      have sB := ((sm.trans s3).trans s4).trans s5
      obtain ⟨s6, b6, e1, e2⟩ := alX (o := .lst [.int (1 + x1), .int (1 + x2), .int (0 + (i : Nat) + 1), .int (1 + x3), .int ((10 : Int) ^ (6 : Int).toNat)]) sB hb b5 he
      have hF5 := s5 _ _ nFB nFL (s4 _ _ nFB nFL (s3 _ _ nFB nFL hF2))
      have neF : F ≠ e := fun z => by rw [← z, hF5] at he; cases he
      have hF6 : upd H5 e (.lst [.int (1 + x1), .int (1 + x2), .int (0 + (i : Nat) + 1), .int (1 + x3), .int ((10 : Int) ^ (6 : Int).toNat)]) F = some (.lst (ls.map fun n => V.int (n : Nat))) := (upd_ne neF).trans hF5
      have he6 : upd H5 e (.lst [.int (1 + x1), .int (1 + x2), .int (0 + (i : Nat) + 1), .int (1 + x3), .int ((10 : Int) ^ (6 : Int).toNat)]) e = some (.lst [.int (1 + x1), .int (1 + x2), .int (0 + (i : Nat) + 1), .int (1 + x3), .int ((10 : Int) ^ (6 : Int).toNat)]) := upd_same
      generalize upd H5 e (.lst [.int (1 + x1), .int (1 + x2), .int (0 + (i : Nat) + 1), .int (1 + x3), .int ((10 : Int) ^ (6 : Int).toNat)]) = H6 at s6 b6 hF6 he6 ⊢
      refine ⟨_, rfl, .inl ⟨rfl, _, SqL.of hF6⟩, _, rfl, by show 6 ≤ sizeLine; decide, fun g hg => ?_⟩
      obtain ⟨s7, b7, g1, g2⟩ := alX (o := .lst [.int 0, .int 0, .int 1, .int 2, .int 3, .int 4]) s6 hb b6 hg
      refine ⟨_, rfl, B, L, 6, rfl, b7, by decide, by decide, fun H8 x4 s8 b8 t0 t1 => ?_⟩
      have ng : F ≠ g := fun z => by rw [← z, hF6] at hg; cases hg
      have nge : e ≠ g := fun z => by rw [← z, he6] at hg; cases hg
      have hF8 := s8 _ _ nFB nFL ((upd_ne ng).trans hF6)
      have he8 := s8 _ _ e1 e2 ((upd_ne nge).trans he6)
      have hg8 := s8 _ _ g1 g2 upd_same
      obtain ⟨j, hj, j4⟩ : ∃ j : Nat, atI [V.int 0, V.int 0, V.int 1, V.int 2, V.int 3, V.int 4] x4 = some (.int (j : Nat)) ∧ j < 5 := by
        rcases (by omega : x4 = 0 ∨ x4 = 1 ∨ x4 = 2 ∨ x4 = 3 ∨ x4 = 4 ∨ x4 = 5) with e | e | e | e | e | e <;> subst e
        · exact ⟨0, atI_nat (j := 0) rfl, by decide⟩
        · exact ⟨0, atI_nat (j := 1) rfl, by decide⟩
        · exact ⟨1, atI_nat (j := 2) rfl, by decide⟩
        · exact ⟨2, atI_nat (j := 3) rfl, by decide⟩
        · exact ⟨3, atI_nat (j := 4) rfl, by decide⟩
        · exact ⟨4, atI_nat (j := 5) rfl, by decide⟩
      obtain ⟨y, hy, y1, y2⟩ : ∃ y : Nat, [V.int (1 + x1), .int (1 + x2), .int (0 + (i : Nat) + 1), .int (1 + x3), .int ((10 : Int) ^ (6 : Int).toNat)][j]? = some (.int (y : Nat)) ∧ 1 ≤ y ∧ y ≤ 1000000 := by
        rcases (by omega : j = 0 ∨ j = 1 ∨ j = 2 ∨ j = 3 ∨ j = 4) with e | e | e | e | e <;> subst e
        · exact ⟨(1 + x1).toNat, congrArg (fun z => some (V.int z)) (Int.toNat_of_nonneg (by omega)).symm, by omega, by omega⟩
        · exact ⟨(1 + x2).toNat, congrArg (fun z => some (V.int z)) (Int.toNat_of_nonneg (by omega)).symm, by omega, by omega⟩
        · exact ⟨i + 1, congrArg (fun z => some (V.int z)) (by omega), by omega, by omega⟩
        · exact ⟨(1 + x3).toNat, congrArg (fun z => some (V.int z)) (Int.toNat_of_nonneg (by omega)).symm, by omega, by omega⟩
        · exact ⟨1000000, congrArg (fun z => some (V.int z)) pw, by decide, by decide⟩
      refine ⟨g, _, x4, _, rfl, rfl, SqL.of hg8, hj, e, _, _, _, rfl, rfl, SqL.of he8, atI_nat hy, ?_⟩
      refine ⟨F, _, _, rfl, rfl, hF8, small1000 (by rw [List.length_map]; omega), ?_⟩
      refine ⟨_, _, ls ++ [y], rfl, (s7.trans s8).new hF, b8.upd_ nFB nFL, ?_, by rw [List.length_append, li]; rfl, fun x hx => ?_⟩
      · rw [upd_same, List.map_append]
        rfl
      · rcases List.mem_append.mp hx with hx | hx
        · exact ok x hx
        · rw [List.mem_singleton.mp hx]
          exact ⟨y1, y2⟩
    · rintro σ H2 ⟨v3, v4, ls, rfl, sm, b2, hF2, li, ok⟩
      exact ⟨_, rfl, k H2 F ls sm b2 ⟨by omega, by omega, ok⟩ (by omega) hF hF2⟩
end
end RS
set_option Elab.async false
set_option maxRecDepth 100000
set_option maxHeartbeats 4000000
set_option pp.maxSteps 400
namespace RS
open PySem PySem.Spec PyProof.Rows L2 GX LM HQ
/-! ### sums of tuples, slices of lists -/
def rSumT (K : PySem.W.Frag) : List V → Hp → VK → Prop := fun vs H Q => ∃ (a : Addr) (ns : List Int), vs = [V.ref a] ∧ SqT K H a (ns.map V.int) ∧ Q (.int ns.sum) H
theorem cr_sumT {X : Cx} (hc : X.calm = true) : CallR X (.builtin "sum") (rSumT X.K) := by
  intro pins s σ H vs us Q I r h
  obtain ⟨a, ns, rfl, hs, q⟩ := h
  obtain ⟨its, rv, hl, _⟩ := I.tuple hs
  rw [Vals.ref1 r]
  obtain ⟨xs, e⟩ := rv.ints.allInts.items
  have hn : numsOf (intItems xs).toList = ns := by rw [← e]; exact rv.ints.numsOf
  rw [nums_intItems] at hn
  have hl2 : s.heap.IsTuple a (intItems xs) := by rw [← e]; exact hl
  refine PySem.W.ktm_sumG (I.ok.hd hc) hl2 fun h' tk t' hk => ⟨.int _, H, I.kept hk, ⟨_, rfl⟩, ?_⟩
  rw [preSum_eq, List.take_of_length_le (by simp), hn]
  exact q
theorem dpNats9 {K : PySem.W.Frag} {H : Hp} : ∀ l : List Nat, DpAll K H (l.map fun c => V.int (c : Nat)) (l.map fun c => PyData.int (c : Nat))
  | [] => .nil
  | n :: l => .cons (.int _) (dpNats9 l)
theorem cutV_mid9 {xs : List V} {a n : Nat} : cutV xs (some (a : Int)) (some ((a : Int) + (n : Int))) = (xs.drop a).take n := by
  rw [← Int.natCast_add]
  exact cutV_mid
theorem cutV_to9 {xs : List V} {k : Nat} : cutV xs none (some (k : Nat)) = xs.take k := by
  unfold cutV
  rw [HT.sIx_nat, HT.sIx_none, Nat.sub_zero, List.drop_zero]
  by_cases h : k ≤ xs.length
  · rw [Nat.min_eq_left h]
  · rw [Nat.min_eq_right (by omega), List.take_of_length_le (Nat.le_refl _), List.take_of_length_le (by omega)]
theorem cutV_from9 {xs : List V} {a n : Nat} (h : a + n ≤ xs.length) : cutV xs (some ((a : Int) + (n : Int))) none = xs.drop (a + n) := by
  rw [← Int.natCast_add]
  unfold cutV
  rw [HT.sIx_nat, HT.sIx_none, Nat.min_eq_left h, List.take_of_length_le (by rw [List.length_drop]; exact Nat.le_refl _)]
section
variable {P : Program} {w : World} {K : PySem.W.Frag} {mg : Str → Option Value} {base : Heap}
theorem scSide : FnScope ["_law_box", "_law_runs", "_law_ways", "_law_left", "_law_many", "_law_at", "_law_group"] ["_law_box", "_law_runs", "_law_ways"] (defScope s__law_side) := ⟨rfl, rfl, rfl, by decide +kernel, rfl, by decide +kernel, by decide +kernel⟩
def spSide (K : PySem.W.Frag) : Sp := fun vs H Q _ => ∃ (B L R : Addr) (n m : Nat), vs = [.ref B, .ref R, .int (m : Nat)] ∧ BoxAt H B L ∧ 2 ≤ m ∧ m ≤ 6 ∧ 1 ≤ n ∧ n ≤ 40 ∧ H R = some (.lst ((List.range n).map fun c => V.int (c : Nat))) ∧
  ∀ (H' : Hp) (v : V) (d : PyData), SameX B L H H' → BoxAt H' B L → Dp K H' v d → NB.SidePlan n m d → Q v H'
theorem side_ok {c : Addr} (D : DefAt K mg "_law_side" s__law_side c) (T : Txt K mg) (cT : Cal P w K mg base CX0 1 "_law_take" ["_law_box", "_law_many"] spTake) : Cal P w K mg base CX0 2 "_law_side" ["_law_box", "_law_runs", "_law_ways"] (spSide K) := by
  have sc := scSide
  refine def_ok0 D sc (fun vs H Q E h => ?_) (fun _ _ _ _ _ _ us hl => match us, hl with | [_, _, _], _ => rfl) (fun f A outer s H vs Q E hr h => ?_)
  · obtain ⟨B, L, R, n, m, rfl, _⟩ := h
    rfl
  · obtain ⟨B, L, R, n, m, rfl, hb, m2, m6, n1, n40, hR, k⟩ := h
    refine ⟨_, (pss_cons (ps_set (i := 3) sc.nd rfl (Or.inl rfl) (pe_callTy call_list_of (by rfl) T.list_ (by decide +kernel) (pa_cons (pv 1) pa_nil))) (pss_cons (ps_while PassesOwn.never (pt_cmpR op_gt (pe_callB call_len_seq (by rfl) T.len PySem.boot_len (pa_cons (pv 3) pa_nil)) pe_int (nomark _)) (pss_cons (ps_set (i := 4) sc.nd rfl (Or.inl rfl) (pe_callB (call_min2 rfl) (by rfl) T.min boot_min (pa_cons (pe_callB call_len_seq (by rfl) T.len PySem.boot_len (pa_cons (pv 3) pa_nil)) (pa_cons (pe_op op_add pe_int (pe_c cT hr (by decide) (by rfl) pass0 (pa_cons (pv 0) (pa_cons (pe_op op_sub (pv 2) pe_int) pa_nil)))) pa_nil)))) (pss_cons (ps_set (i := 5) sc.nd rfl (Or.inl rfl) (pe_c cT hr (by decide) (by rfl) pass0 (pa_cons (pv 0) (pa_cons (pe_op op_add (pe_op op_sub (pe_callB call_len_seq (by rfl) T.len PySem.boot_len (pa_cons (pv 3) pa_nil)) (pv 4)) pe_int) pa_nil)))) (pss_cons (ps_set (i := 6) sc.nd rfl (Or.inl rfl) (pe_callTy call_tuple_of (by rfl) T.tuple_ (by decide +kernel) (pa_cons (pe_slice sl_list (pv 3) (po_some (pv 5)) (po_some (pe_op op_add (pv 5) (pv 4)))) pa_nil))) (pss_one (ps_set (i := 3) sc.nd rfl (Or.inl rfl) (pe_op op_cat (pe_op op_cat (pe_slice sl_list (pv 3) po_none (po_some (pv 5))) (pe_lst (pa_cons (pv 6) pa_nil))) (pe_slice sl_list (pv 3) (po_some (pe_op op_add (pv 5) (pv 4))) po_none)))))))) (pss_one (ps_ret (pe_ix ix_list (pv 3) pe_int (fun _ _ => rfl)))))), ?_⟩
    refine ⟨_, rfl, R, _, rfl, .inl (SqL.of hR), fun Lf hLf => ?_⟩
    obtain ⟨s0, b0, nfB, nfL⟩ := alX (o := .lst ((List.range n).map fun c => V.int (c : Nat))) SameX.refl hb hb hLf
    refine ⟨fun mm σ H' => ∃ (v4 v5 v6 : Option V) (Lf : Addr) (xs : List V) (ds : List PyData), σ = [some (.ref B), some (.ref R), some (.int (m : Nat)), some (.ref Lf), v4, v5, v6] ∧ SameX B L H H' ∧ BoxAt H' B L ∧ H' Lf = some (.lst xs) ∧ Lf ≠ B ∧ Lf ≠ L ∧ DpAll K H' xs ds ∧ okPs m ds ∧ leafs ds = List.range n ∧ 1 ≤ xs.length ∧ mm = xs.length,
      ⟨_, none, none, none, Lf, _, (List.range n).map fun c => .int (c : Nat), rfl, s0, b0, upd_same, nfB, nfL, dpNats9 _, ?_, ?_, ?_, rfl⟩, ?_⟩
    · refine okPs_iff.mpr fun d hd => ?_
      obtain ⟨c, hc, rfl⟩ := List.mem_map.mp hd
      have := List.mem_range.mp hc
      exact ⟨by omega, by omega⟩
    · rw [leafs_nats]
    · rw [List.length_map, List.length_range]
      exact n1
    rintro mm σ H1 ⟨v4, v5, v6, Lf, xs, ds, rfl, s1, b1, hL, nfB, nfL, hd, okd, pm, x1, rfl⟩
    have lx : xs.length = ds.length := dpLen hd
    have ll := leafs_depth ds okd
    rw [pm, List.length_range] at ll
    have lx40 : xs.length ≤ 40 := by omega
    refine ⟨_, rfl, Lf, _, rfl, .inl (SqL.of hL), _, _, rfl, rfl, _, rfl, ?_⟩
    by_cases hgt : xs.length > 1
    · refine iteT' (decide_eq_true (by omega)) ⟨_, fun _ _ h => h, ?_⟩
      refine ⟨_, rfl, Lf, _, rfl, .inl (SqL.of hL), _, rfl, _, rfl, _, _, rfl, rfl, B, L, _, rfl, b1, by omega, by omega, fun H2 x s2 b2 h0 h1 => ?_⟩
      refine ⟨_, _, rfl, rfl, _, _, rfl, ?_⟩
      obtain ⟨mn, emn, q2, qx, qm⟩ : ∃ mn : Nat, (if 2 + x < ((xs.length : Nat) : Int) then 2 + x else ((xs.length : Nat) : Int)) = (mn : Int) ∧ 2 ≤ mn ∧ mn ≤ xs.length ∧ mn ≤ m := by
        by_cases hx : 2 + x < ((xs.length : Nat) : Int)
        · exact ⟨(2 + x).toNat, by rw [if_pos hx]; omega, by omega, by omega, by omega⟩
        · exact ⟨xs.length, if_neg hx, by omega, Nat.le_refl _, by omega⟩
      rw [emn]
      have hL2 := s2 _ _ nfB nfL hL
      have nlds := okPs_noL ds okd
      have hd2 := dpAll_x b1 s2 _ nlds hd
      have sH2 := s1.trans s2
      refine ⟨_, rfl, _, rfl, Lf, _, rfl, .inl (SqL.of hL2), _, rfl, _, _, rfl, rfl, _, _, rfl, rfl, B, L, _, rfl, b2, by omega, by omega, fun H3 a s3 b3 a0 a1 => ?_⟩
      obtain ⟨an, rfl⟩ : ∃ an : Nat, a = (an : Int) := ⟨a.toNat, by omega⟩
      have sH3 := sH2.trans s3
      have hL3 := s3 _ _ nfB nfL hL2
      have hd3 := dpAll_x b2 s3 _ nlds hd2
      have ha : an + mn ≤ xs.length := by omega
      refine ⟨_, rfl, _, rfl, _, rfl, _, rfl, _, rfl, _, _, rfl, rfl, _, rfl, Lf, xs, rfl, SqL.of hL3, fun p1 np1 => ?_⟩
      rw [cutV_mid9]
      have s4 := sameNew (o := .lst ((xs.drop an).take mn)) (Same.refl H3) np1
      have hp4 : upd H3 p1 (.lst ((xs.drop an).take mn)) p1 = some (.lst ((xs.drop an).take mn)) := upd_same
      generalize upd H3 p1 (.lst ((xs.drop an).take mn)) = H4 at s4 hp4 ⊢
      refine ⟨p1, _, rfl, .inl ⟨SqL.of hp4, fun tp ntp => ?_⟩⟩
      have s5 := sameNew (o := .tup ((xs.drop an).take mn)) (Same.refl H4) ntp
      have hT5 : upd H4 tp (.tup ((xs.drop an).take mn)) tp = some (.tup ((xs.drop an).take mn)) := upd_same
      generalize upd H4 tp (.tup ((xs.drop an).take mn)) = H5 at s5 hT5 ⊢
      have s35 := s4.trans s5
      have hL5 := s35 _ _ hL3
      refine ⟨_, rfl, _, rfl, _, rfl, Lf, xs, rfl, SqL.of hL5, fun p6 np6 => ?_⟩
      rw [cutV_to9]
      have s6 := sameNew (o := .lst (xs.take an)) (Same.refl H5) np6
      have hp6 : upd H5 p6 (.lst (xs.take an)) p6 = some (.lst (xs.take an)) := upd_same
      generalize upd H5 p6 (.lst (xs.take an)) = H6 at s6 hp6 ⊢
      refine ⟨_, rfl, by show 1 ≤ sizeLine; decide, fun Z nZ => ?_⟩
      have s7 := sameNew (o := .lst [.ref tp]) (Same.refl H6) nZ
      have hZ7 : upd H6 Z (.lst [.ref tp]) Z = some (.lst [.ref tp]) := upd_same
      generalize upd H6 Z (.lst [.ref tp]) = H7 at s7 hZ7 ⊢
      refine ⟨p6, Z, _, _, rfl, rfl, s7 _ _ hp6, hZ7, Nat.le_of_lt (small1000 (by rw [List.length_take, List.length_singleton]; omega)), fun Y nY => ?_⟩
      have s8 := sameNew (o := .lst (xs.take an ++ [.ref tp])) (Same.refl H7) nY
      have hY8 : upd H7 Y (.lst (xs.take an ++ [.ref tp])) Y = some (.lst (xs.take an ++ [.ref tp])) := upd_same
      generalize upd H7 Y (.lst (xs.take an ++ [.ref tp])) = H8 at s8 hY8 ⊢
      have s58 := (s6.trans s7).trans s8
      refine ⟨_, rfl, _, rfl, _, rfl, _, _, rfl, rfl, _, rfl, Lf, xs, rfl, SqL.of (s58 _ _ hL5), fun p9 np9 => ?_⟩
      rw [cutV_from9 ha]
      have s9 := sameNew (o := .lst (xs.drop (an + mn))) (Same.refl H8) np9
      have hp9 : upd H8 p9 (.lst (xs.drop (an + mn))) p9 = some (.lst (xs.drop (an + mn))) := upd_same
      generalize upd H8 p9 (.lst (xs.drop (an + mn))) = H9 at s9 hp9 ⊢
      have lnew : (xs.take an ++ [V.ref tp] ++ xs.drop (an + mn)).length = xs.length - mn + 1 := by
        rw [List.length_append, List.length_append, List.length_take, List.length_drop, List.length_singleton]
        omega
      refine ⟨Y, p9, _, _, rfl, rfl, s9 _ _ hY8, hp9, Nat.le_of_lt (small1000 (by rw [← List.length_append, lnew]; omega)), fun Yf nYf => ?_⟩
      have s10 := sameNew (o := .lst (xs.take an ++ [.ref tp] ++ xs.drop (an + mn))) (Same.refl H9) nYf
      have hY10 : upd H9 Yf (.lst (xs.take an ++ [.ref tp] ++ xs.drop (an + mn))) Yf = some (.lst (xs.take an ++ [.ref tp] ++ xs.drop (an + mn))) := upd_same
      have s39 : Same H3 H9 := (s35.trans s58).trans s9
      have s3a := s39.trans s10
      have nY3 := s39.free nYf
      generalize upd H9 Yf (.lst (xs.take an ++ [.ref tp] ++ xs.drop (an + mn))) = H10 at s10 hY10 s3a ⊢
      have hT10 := ((s58.trans s9).trans s10) _ _ hT5
      have dk := dpAll_same s3a _ hd3
      obtain ⟨k1, k2⟩ := dpAll_tk dk an
      obtain ⟨k3, _⟩ := dpAll_tk k2 mn
      obtain ⟨_, k4⟩ := dpAll_tk dk (an + mn)
      have eds : ds = ds.take an ++ ((ds.drop an).take mn ++ ds.drop (an + mn)) := by
        conv => lhs; rw [← List.take_append_drop an ds, ← List.take_append_drop mn (ds.drop an), List.drop_drop]
      have okd' := okd
      rw [eds] at okd'
      obtain ⟨o1, o2⟩ := okPs_app.mp okd'
      obtain ⟨o3, o4⟩ := okPs_app.mp o2
      have lsub : ((ds.drop an).take mn).length = mn := by rw [List.length_take, List.length_drop]; omega
      have okt : okP m (.tuple ((ds.drop an).take mn)) := ⟨by omega, by omega, o3⟩
      refine ⟨_, ?_, _, _, _, Yf, xs.take an ++ [.ref tp] ++ xs.drop (an + mn), ds.take an ++ [.tuple ((ds.drop an).take mn)] ++ ds.drop (an + mn), rfl, sH3.trans (SameX.of s3a), b3.same s3a, hY10, (b3.nb nY3).1, (b3.nb nY3).2, dpApp (dpApp k1 (.cons (.tup (SqT.of hT10) k3) .nil)) k4, okPs_app.mpr ⟨okPs_app.mpr ⟨o1, okt, trivial⟩, o4⟩, ?_, by rw [lnew]; omega, rfl⟩
      · rw [lnew]; omega
      · rw [← pm]
        conv => rhs; rw [eds]
        rw [leafs_app, leafs_app, leafs_app, leafs_app]
        have e2 : leafs [PyData.tuple ((ds.drop an).take mn)] = leafs ((ds.drop an).take mn) := by
          show leafs _ ++ [] = _
          rw [List.append_nil]
        rw [e2, List.append_assoc]
    · refine iteF' (decide_eq_false (by omega)) ?_
      have lx1 : xs.length = 1 := by omega
      cases hd with
      | nil => simp at lx1
      | cons hv ht =>
        cases ht with
        | cons _ _ => simp at lx1
        | nil =>
          rename_i v d
          have pm' : leaf d = List.range n := by simpa [leafs] using pm
          exact ⟨_, rfl, Lf, _, _, v, rfl, rfl, SqL.of hL, atI_nat (j := 0) rfl, k H1 v d s1 b1 hv ⟨okd.1, pm'⟩⟩
end
end RS
set_option Elab.async false
set_option maxRecDepth 100000
set_option maxHeartbeats 4000000
set_option pp.maxSteps 400
namespace RS
open PySem PySem.Spec PyProof.Rows L2 GX LM HQ
open NB (cutsL cuts2)
/-! ### how many cuts there are -/
theorem cut_sum {p b e : Nat} (h : ∀ c, b < c → c < e → (cutsL p c e).length ≤ 2 ^ (e - c)) : ∀ k, b + k < e → ((List.range' (b + 1) k).flatMap fun c => (cutsL p c e).map fun r => c :: r).length + 2 ^ (e - b - k) ≤ 2 ^ (e - b)
  | 0, _ => by simp
  | k + 1, hk => by
    have ih := cut_sum h k (by omega)
    have h1 := h (b + 1 + k) (by omega) (by omega)
    rw [List.range'_1_concat, List.flatMap_append, List.length_append]
    simp only [List.flatMap_cons, List.flatMap_nil, List.append_nil, List.length_map]
    have e1 : e - (b + 1 + k) = e - b - (k + 1) := by omega
    rw [e1] at h1
    have e2 : 2 ^ (e - b - k) = 2 ^ (e - b - (k + 1)) + 2 ^ (e - b - (k + 1)) := by
      rw [show e - b - k = (e - b - (k + 1)) + 1 by omega, Nat.pow_succ]
      omega
    omega
theorem cuts_len : ∀ (p : Nat) {b e : Nat}, b < e → (cutsL p b e).length ≤ 2 ^ (e - b)
  | 0, b, e, h => by
    show 1 ≤ 2 ^ (e - b)
    exact Nat.one_le_two_pow
  | p + 1, b, e, h => by
    have := cut_sum (p := p) (b := b) (e := e) (fun c c1 c2 => cuts_len p c2) (e - (b + 1)) (by omega)
    rw [NB.cutsL_succ, List.length_cons]
    have e1 : e - b - (e - (b + 1)) = 1 := by omega
    rw [e1] at this
    unfold cuts2
    omega
/-- the cuts that begin with one of the first i places -/
def cutsT (p b e i : Nat) : List (List Nat) := (List.range' (b + 1) i).flatMap fun c => (cutsL p c e).map fun r => c :: r
theorem cutsT_succ (p b e i : Nat) : cutsT p b e (i + 1) = cutsT p b e i ++ (cutsL p (b + 1 + i) e).map fun r => (b + 1 + i) :: r := by
  unfold cutsT
  rw [List.range'_1_concat, List.flatMap_append]
  simp
theorem cutsT_len {p b e i : Nat} (h : b + i < e) : (cutsT p b e i).length + 2 ^ (e - b - i) ≤ 2 ^ (e - b) := cut_sum (fun _ _ c2 => cuts_len p c2) i h
/-! ### new lists of numbers -/
structure Lol (H0 H : Hp) (as : List Addr) (xs : List (List Nat)) : Prop where
  len : as.length = xs.length
  at_ : ∀ (i : Nat) (a : Addr) (x : List Nat), as[i]? = some a → xs[i]? = some x → H a = some (.lst (x.map fun n => V.int (n : Nat))) ∧ H0 a = none
theorem Lol.nil {H0 H : Hp} : Lol H0 H [] [] := ⟨rfl, fun i a x h => by simp at h⟩
theorem Lol.same {H0 H H' : Hp} {as : List Addr} {xs : List (List Nat)} (h : Lol H0 H as xs) (s : Same H H') : Lol H0 H' as xs := ⟨h.len, fun i a x h1 h2 => ⟨s _ _ (h.at_ i a x h1 h2).1, (h.at_ i a x h1 h2).2⟩⟩
theorem Lol.base {H0 H1 H : Hp} {as : List Addr} {xs : List (List Nat)} (h : Lol H1 H as xs) (s : Same H0 H1) : Lol H0 H as xs := ⟨h.len, fun i a x h1 h2 => ⟨(h.at_ i a x h1 h2).1, s.free (h.at_ i a x h1 h2).2⟩⟩
theorem Lol.upd_ {H0 H : Hp} {as : List Addr} {xs : List (List Nat)} {b : Addr} {o : HO} (h : Lol H0 H as xs) (n : b ∉ as) : Lol H0 (upd H b o) as xs := ⟨h.len, fun i a x h1 h2 => ⟨(upd_ne fun z => n (by rw [← z]; exact List.mem_of_getElem? h1)).trans (h.at_ i a x h1 h2).1, (h.at_ i a x h1 h2).2⟩⟩
theorem Lol.app {H0 H : Hp} {as bs : List Addr} {xs ys : List (List Nat)} (h : Lol H0 H as xs) (g : Lol H0 H bs ys) : Lol H0 H (as ++ bs) (xs ++ ys) := by
  refine ⟨by rw [List.length_append, List.length_append, h.len, g.len], fun i a x h1 h2 => ?_⟩
  by_cases hi : i < as.length
  · rw [List.getElem?_append_left hi] at h1
    rw [List.getElem?_append_left (by rw [← h.len]; exact hi)] at h2
    exact h.at_ i a x h1 h2
  · rw [List.getElem?_append_right (by omega)] at h1
    rw [List.getElem?_append_right (by rw [← h.len]; omega), ← h.len] at h2
    exact g.at_ _ a x h1 h2
theorem Lol.one {H0 H : Hp} {a : Addr} {x : List Nat} (h : H a = some (.lst (x.map fun n => V.int (n : Nat)))) (n : H0 a = none) : Lol H0 H [a] [x] := ⟨rfl, fun i b y h1 h2 => by
  cases i with
  | zero => cases h1; cases h2; exact ⟨h, n⟩
  | succ i => simp at h1⟩
theorem Lol.mem {H0 H : Hp} {as : List Addr} {xs : List (List Nat)} (h : Lol H0 H as xs) {a : Addr} (ha : a ∈ as) : (∃ ys, H a = some (.lst ys)) ∧ H0 a = none := by
  obtain ⟨i, hi, e⟩ := List.getElem_of_mem ha
  have hi2 : i < xs.length := by rw [← h.len]; exact hi
  obtain ⟨h1, h2⟩ := h.at_ i a xs[i] (by rw [List.getElem?_eq_getElem hi, e]) (List.getElem?_eq_getElem hi2)
  exact ⟨⟨_, h1⟩, h2⟩
section
variable {P : Program} {w : World} {K : PySem.W.Frag} {mg : Str → Option Value} {base : Heap}
abbrev NCU : List Str := ["_law_begin", "_law_end", "_law_ways", "_law_found", "_law_place", "_law_rest"]
theorem scCuts : FnScope NCU ["_law_begin", "_law_end", "_law_ways"] (defScope s__law_cuts) := ⟨rfl, rfl, rfl, by decide +kernel, rfl, by decide +kernel, by decide +kernel⟩
def spCuts (n : Nat) : Sp := fun vs H Q _ => ∃ (b e p : Nat), vs = [.int (b : Nat), .int (e : Nat), .int ((p + 1 : Nat) : Int)] ∧ b < e ∧ e ≤ 12 ∧ p ≤ n ∧
  ∀ (H' : Hp) (a : Addr) (as : List Addr), Same H H' → H a = none → H' a = some (.lst (as.map V.ref)) → Lol H H' as (cutsL p b e) → a ∉ as → Q (.ref a) H'
theorem cuts_none {c : Addr} (D : DefAt K mg "_law_cuts" s__law_cuts c) : Cal P w K mg base CX0 1 "_law_cuts" ["_law_begin", "_law_end", "_law_ways"] (fun _ _ _ _ => False) :=
  def_ok0 D scCuts (fun vs H Q E h => h.elim) (fun _ _ _ _ _ _ us hl => match us, hl with | [_, _, _], _ => rfl) (fun f A outer s H vs Q E hr h => h.elim)
theorem cuts_step {c : Addr} (D : DefAt K mg "_law_cuts" s__law_cuts c) (T : Txt K mg) {j : Nat} (n : Nat) {sp : Sp} (hj : 1 ≤ j) (cR : Cal P w K mg base CX0 j "_law_cuts" ["_law_begin", "_law_end", "_law_ways"] sp)
    (hsp : ∀ (b e p : Nat) (H : Hp) (Q : VK) (E : XK), b < e → e ≤ 12 → p + 1 ≤ n → (∀ (H' : Hp) (a : Addr) (as : List Addr), Same H H' → H a = none → H' a = some (.lst (as.map V.ref)) → Lol H H' as (cutsL p b e) → a ∉ as → Q (.ref a) H') → sp [.int (b : Nat), .int (e : Nat), .int ((p + 1 : Nat) : Int)] H Q E) :
    Cal P w K mg base CX0 (j + 1) "_law_cuts" ["_law_begin", "_law_end", "_law_ways"] (spCuts n) := by
  have sc := scCuts
  refine def_ok0 D sc (fun vs H Q E h => ?_) (fun _ _ _ _ _ _ us hl => match us, hl with | [_, _, _], _ => rfl) (fun f A outer s H vs Q E hr h => ?_)
  · obtain ⟨b, e, p, rfl, _⟩ := h
    rfl
  · obtain ⟨b, e, p, rfl, hb, he, hp, k⟩ := h
    refine ⟨_, (pss_cons (ps_set (i := 3) sc.nd rfl (Or.inl rfl) (pe_lst (pa_cons (pe_lst (pa_cons (pv 1) pa_nil)) pa_nil))) (pss_cons (ps_if (pt_cmpR op_gt (pv 2) pe_int (nomark _)) (pss_one (ps_for PassesOwn.never rfl (pi_range2 (by rfl) T.range (pa_cons (pe_op op_add (pv 0) pe_int) (pa_cons (pv 1) pa_nil))) (pg_name (i := 4) sc.nd rfl (Or.inr rfl)) (pss_one (ps_expr (pe_bm PySem.F.plainAttrs_list PySem.F.slot_list_extend PySem.F.type_list_extend mt_extend (pv 3) (pa_cons (pe_lc (own := [("_law_rest", 5)]) (tt := tYes)  rfl sc.nd (pi_list (pe_c cR hr (by omega) (by rfl) pass0 (pa_cons (pv 4) (pa_cons (pv 1) (pa_cons (pe_op op_sub (pv 2) pe_int) pa_nil))))) (blkOk_by (N := NCU) (sc := defScope s__law_cuts) (own := [("_law_rest", 5)]) (by decide +kernel)) (fun _ _ _ _ _ => (pg_name (i := 5) sc.nd rfl (Or.inl rfl))) (fun _ _ _ _ _ => pts_nil) (fun _ _ _ _ _ => (pe_op op_cat (pe_lst (pa_cons (pv 4) pa_nil)) (pv 5)))) pa_nil)))))) pss_nil) (pss_one (ps_ret (pv 3))))), ?_⟩
    refine ⟨_, rfl, by show 1 ≤ sizeLine; decide, fun Z nZ => ⟨by show 1 ≤ sizeLine; decide, fun F nF => ?_⟩⟩
    have s1 := sameNew (o := .lst [V.int (e : Nat)]) (Same.refl H) nZ
    have hZ1 : upd H Z (.lst [V.int (e : Nat)]) Z = some (.lst ([e].map fun n => V.int (n : Nat))) := upd_same
    generalize upd H Z (.lst [V.int (e : Nat)]) = H1 at s1 hZ1 nF ⊢
    have s2 := sameNew (o := .lst [.ref Z]) (Same.refl H1) nF
    have hF2 : upd H1 F (.lst [.ref Z]) F = some (.lst ([Z].map V.ref)) := upd_same
    have nF0 := s1.free nF
    have nFZ : F ∉ [Z] := fun z => by
      rw [List.mem_singleton.mp z, hZ1] at nF; cases nF
    generalize upd H1 F (.lst [.ref Z]) = H2 at s2 hF2 ⊢
    have s02 := s1.trans s2
    have L2 : Lol H H2 [Z] [[e]] := .one (s2 _ _ hZ1) nZ
    refine ⟨_, rfl, _, _, rfl, rfl, _, rfl, ?_⟩
    by_cases h0 : p = 0
    · subst h0
      refine iteF' (decide_eq_false (by decide)) ?_
      exact ⟨_, rfl, k H2 F [Z] s02 nF0 hF2 L2 nFZ⟩
    · obtain ⟨q, rfl⟩ : ∃ q, p = q + 1 := ⟨p - 1, by omega⟩
      refine iteT' (decide_eq_true (by omega)) ?_
      refine ⟨_, rfl, _, _, rfl, rfl, _, rfl, _, _, rfl, ⟨by omega, by omega, by omega, by omega⟩, ?_⟩
      rw [show ((e : Int) - ((b : Int) + 1)).toNat = e - (b + 1) by omega]
      have p12 : 2 ^ (e - b) ≤ 2 ^ 12 := Nat.pow_le_pow_right (by decide) (by omega)
      refine for_range (fun i σ H' => ∃ (v4 : Option V) (as : List Addr), σ = [some (.int (b : Nat)), some (.int (e : Nat)), some (.int ((q + 1 + 1 : Nat) : Int)), some (.ref F), v4, none] ∧ Same H H' ∧ H' F = some (.lst (as.map V.ref)) ∧ Lol H H' as ([e] :: cutsT q b e i) ∧ F ∉ as)
        ⟨none, [Z], rfl, s02, hF2, L2, nFZ⟩ ?_ ?_
      · rintro i σ H3 hi ⟨v4, as, rfl, s3, hF3, L3, nFa⟩
        have e1 : (b : Int) + 1 + (i : Nat) = ((b + 1 + i : Nat) : Int) := by omega
        have e2 : ((q + 1 + 1 : Nat) : Int) - 1 = ((q + 1 : Nat) : Int) := by omega
        refine ⟨_, rfl, .inl ⟨rfl, _, SqL.of hF3⟩, _, rfl, _, rfl, _, rfl, _, _, rfl, rfl, ?_⟩
        show sp [.int ((b : Int) + 1 + (i : Nat)), .int (e : Nat), .int (((q + 1 + 1 : Nat) : Int) - 1)] _ _ _
        rw [e1, e2]
        refine hsp (b + 1 + i) e q H3 _ _ (by omega) he (by omega) fun H4 G gs s4 nG hG LG nGg => ?_
        have hF4 := s4 _ _ hF3
        refine ⟨G, rfl, ⟨_, SqL.of hG⟩, fun DD hD => ?_⟩
        have lgs := LG.len
        have lc := cuts_len q (b := b + 1 + i) (e := e) (by omega)
        have pc : 2 ^ (e - (b + 1 + i)) ≤ 2 ^ 12 := Nat.pow_le_pow_right (by decide) (by omega)
        refine lc_list (K := K) (a := G) (xs := gs.map V.ref) (fun j H' => Same H4 H' ∧ ∃ bs : List Addr, H' DD = some (.lst (bs.map V.ref)) ∧ Lol H4 H' bs (((cutsL q (b + 1 + i) e).take j).map fun r => (b + 1 + i) :: r) ∧ DD ∉ bs)
          ⟨sameNew (Same.refl H4) hD, [], upd_same, .nil, (fun h => nomatch h)⟩ (fun j H' _ h => SqL.of (h.1 _ _ hG)) ?_ ?_
        · rintro j y H5 hy ⟨s5, bs, hD5, L5, nDb⟩
          obtain ⟨g, eg, rfl⟩ : ∃ g, gs[j]? = some g ∧ y = .ref g := by
            rw [List.getElem?_map] at hy
            cases z : gs[j]? with
            | none => rw [z] at hy; cases hy
            | some b => rw [z] at hy; exact ⟨b, rfl, (Option.some.inj hy).symm⟩
          have hj := (List.getElem?_eq_some_iff.mp eg).1
          obtain ⟨x, ex⟩ : ∃ x, (cutsL q (b + 1 + i) e)[j]? = some x := ⟨_, List.getElem?_eq_getElem (by omega)⟩
          have hg5 := s5 _ _ (LG.at_ j g x eg ex).1
          have lx : x.length ≤ 12 := by
            refine Nat.le_trans (NB.cut_short q (by omega) x (List.mem_of_getElem? ex)) (by omega)
          refine ⟨rfl, _, rfl, by show 1 ≤ sizeLine; decide, fun Z6 nZ6 => ?_⟩
          have s6 := sameNew (o := .lst [V.int ((b + 1 + i : Nat) : Int)]) (Same.refl H5) nZ6
          have hZ6 : upd H5 Z6 (.lst [V.int ((b + 1 + i : Nat) : Int)]) Z6 = some (.lst [V.int ((b + 1 + i : Nat) : Int)]) := upd_same
          generalize upd H5 Z6 (.lst [V.int ((b + 1 + i : Nat) : Int)]) = H6 at s6 hZ6 ⊢
          refine ⟨_, rfl, Z6, g, _, _, rfl, rfl, hZ6, s6 _ _ hg5, Nat.le_of_lt (small1000 (by rw [List.length_map, List.length_singleton]; omega)), fun Y nY => ?_⟩
          have s7 := sameNew (o := .lst ([V.int ((b + 1 + i : Nat) : Int)] ++ x.map fun n => V.int (n : Nat))) (Same.refl H6) nY
          have hY7 : upd H6 Y (.lst ([V.int ((b + 1 + i : Nat) : Int)] ++ x.map fun n => V.int (n : Nat))) Y = some (.lst (((b + 1 + i) :: x).map fun n => V.int (n : Nat))) := by rw [upd_same]; rfl
          generalize upd H6 Y (.lst ([V.int ((b + 1 + i : Nat) : Int)] ++ x.map fun n => V.int (n : Nat))) = H7 at s7 hY7 ⊢
          have s67 := s6.trans s7
          have hD7 := s67 _ _ hD5
          have nDY : DD ≠ Y := fun z => by rw [← z, s6 _ _ hD5] at nY; cases nY
          have lb := L5.len
          rw [List.length_map, List.length_take] at lb
          have nD2 : DD ∉ bs ++ [Y] := fun z => by
            rcases List.mem_append.mp z with z | z
            · exact nDb z
            · exact nDY (List.mem_singleton.mp z)
          refine ⟨_, hD7, by rw [List.length_map, sizeLine_eq]; omega, fun b' o z => (upd_ne (ne_of_none z hD)).trans (s67 _ _ (s5 b' o z)), bs ++ [Y], by rw [upd_same, List.map_append]; rfl, ?_, nD2⟩
          rw [take_snoc9 ex, List.map_append]
          exact ((L5.same s67).app (.one hY7 ((s5.trans s6).free nY))).upd_ nD2
        · rintro H5 ⟨s5, bs, hD5, L5, nDb⟩
          rw [List.length_map, lgs, List.take_length] at L5
          have hF5 := s5 _ _ hF4
          have lF := L3.len
          rw [List.length_cons] at lF
          have lb := L5.len
          rw [List.length_map] at lb
          have ct := cutsT_len (p := q) (b := b) (e := e) (i := i) (by omega)
          have ct2 : (cutsT q b e i).length ≤ 4096 := Nat.le_trans (Nat.le_trans (Nat.le_add_right _ _) ct) p12
          have lc2 : (cutsL q (b + 1 + i) e).length ≤ 4096 := Nat.le_trans lc pc
          have nFD : F ≠ DD := fun z => by rw [← z, hF4] at hD; cases hD
          have nFb : F ∉ bs := fun z => by
            have := (L5.mem z).2
            rw [hF4] at this; cases this
          have L35 := L3.same (s4.trans s5)
          have nF2 : F ∉ as ++ bs := fun z => by
            rcases List.mem_append.mp z with z | z
            · exact nFa z
            · exact nFb z
          refine ⟨F, DD, _, _, rfl, rfl, hF5, hD5, by rw [List.length_map, List.length_map, sizeLine_eq]; omega, ?_⟩
          refine ⟨_, as ++ bs, rfl, fun b' o z => (upd_ne (ne_of_none z nF0)).trans ((s4.trans s5) _ _ (s3 b' o z)), by rw [upd_same, List.map_append], ?_, nF2⟩
          have e3 : [e] :: cutsT q b e (i + 1) = ([e] :: cutsT q b e i) ++ (cutsL q (b + 1 + i) e).map fun r => (b + 1 + i) :: r := by rw [cutsT_succ]; rfl
          rw [e3]
          exact (L35.app (L5.base (s3.trans s4))).upd_ nF2
      · rintro σ H3 ⟨v4, as, rfl, s3, hF3, L3, nFa⟩
        exact ⟨_, rfl, k H3 F as s3 nF0 hF3 L3 nFa⟩
theorem cuts_ok {c : Addr} (D : DefAt K mg "_law_cuts" s__law_cuts c) (T : Txt K mg) : ∀ n : Nat, Cal P w K mg base CX0 (n + 2) "_law_cuts" ["_law_begin", "_law_end", "_law_ways"] (spCuts n)
  | 0 => cuts_step D T 0 (Nat.le_refl _) (cuts_none D) (fun _ _ _ _ _ _ _ _ h _ => by omega)
  | n + 1 => cuts_step D T (n + 1) (by omega) (cuts_ok D T n) (fun b e p H Q E h1 h2 h3 q => ⟨b, e, p, rfl, h1, h2, by omega, q⟩)
end
end RS
set_option Elab.async false
set_option maxRecDepth 100000
set_option maxHeartbeats 8000000
set_option pp.maxSteps 400
namespace RS
open PySem PySem.Spec PyProof.Rows L2 GX LM HQ
open NB (cutsL cuts2 costC sl)
/-! ### the law's own judging -/
theorem for_keysT {d : Addr} {o : Obj} {kvs : List (List Key × V)} {g : TG} {tb : TS} {D : Ends} {σ : L2.St} {H : Hp} (Pv : Nat → L2.St → Hp → Prop) (h0 : Pv 0 σ H) (hl : ∀ i σ H, i ≤ kvs.length → Pv i σ H → H d = some (.frz o (.dT kvs)))
    (hs : ∀ i k v q σ H, kvs[i]? = some (k, v) → H q = some (.tup (k.map kV)) → Pv i σ H → g (.ref q) σ H fun σ2 H2 => tb { D with nx := Pv (i + 1), ct := Pv (i + 1), bk := D.nx } σ2 H2) (hd : ∀ σ H, Pv kvs.length σ H → D.nx σ H) :
    ∃ W : Nat → Nat → L2.St → Hp → Prop, (∃ m, W 0 m σ H) ∧ ∀ i m σ H, W i m σ H →
      ((Itkt d o kvs).stop i H ∧ D.nx σ H) ∨ ((Itkt d o kvs).go i H ∧ ∃ N : L2.St → Hp → Prop, (∀ σ' H', N σ' H' → ∃ m', m' < m ∧ W (i + 1) m' σ' H') ∧ ∀ x H', (Itkt d o kvs).yld i H x H' → g x σ H' fun σ2 H2 => tb { D with nx := N, ct := N, bk := D.nx } σ2 H2) := by
  refine ⟨fun i m σ H => m = kvs.length - i ∧ i ≤ kvs.length ∧ Pv i σ H, ⟨kvs.length, by simp, Nat.zero_le _, h0⟩, ?_⟩
  rintro i m σ H ⟨rfl, hi, p⟩
  have q := hl i σ H hi p
  by_cases hlt : i < kvs.length
  · refine .inr ⟨⟨q, hlt⟩, Pv (i + 1), fun σ' H' p' => ⟨kvs.length - (i + 1), by omega, rfl, hlt, p'⟩, fun x H' y => ?_⟩
    obtain ⟨e, k, v, r, hk, rfl, hr⟩ := y
    subst e
    exact hs i k v r σ _ hk hr p
  · have e : i = kvs.length := by omega
    subst e
    exact .inl ⟨⟨q, Nat.le_refl _⟩, hd σ H p⟩
def keyZ (x : Tri) : List Key := [.inl x.1, .inl x.2.1]
theorem keyZ_inj {x y : Tri} : keyZ x = keyZ y ↔ pairE x = pairE y := by
  constructor
  · intro h
    injection h with h1 h2
    injection h2 with h2 _
    exact Prod.ext (Sum.inl.inj h1) (Sum.inl.inj h2)
  · intro h
    have h1 : x.1 = y.1 := congrArg (fun p : Int × Int => p.1) h
    have h2 : x.2.1 = y.2.1 := congrArg (fun p : Int × Int => p.2) h
    unfold keyZ
    rw [h1, h2]
theorem valV_some {kvs : List (List Key × V)} {k : List Key} : (valV kvs k).isSome = true ↔ k ∈ kvs.map (·.1) := by
  induction kvs with
  | nil => simp [valV_nil]
  | cons p r ih =>
    by_cases e : p.1 = k
    · rw [valV_pos e]; simp [e]
    · rw [valV_neg e, ih, List.map_cons, List.mem_cons]
      constructor
      · exact .inr
      · rintro (h | h)
        · exact absurd h.symm e
        · exact h
/-- as many as there are, no more -/
theorem nodup_le {α : Type} [DecidableEq α] : ∀ {l1 l2 : List α}, l1.Nodup → (∀ x ∈ l1, x ∈ l2) → l1.length ≤ l2.length
  | [], _, _, _ => Nat.zero_le _
  | y :: l1, l2, nd, sub => by
    obtain ⟨n1, n2⟩ := List.nodup_cons.mp nd
    have hy := sub y List.mem_cons_self
    have := nodup_le (l2 := l2.erase y) n2 fun z hz => (List.mem_erase_of_ne fun q => n1 (by rw [← q]; exact hz)).mpr (sub z (List.mem_cons_of_mem _ hz))
    rw [List.length_erase_of_mem hy] at this
    have := List.length_pos_of_mem hy
    rw [List.length_cons]
    omega
theorem told_le {n : Nat} {es : List Tri} (hn : 1 ≤ n) (g : ∀ x ∈ es, GoodE n x) (nd : (es.map pairE).Nodup) : es.length ≤ n * (n - 1) / 2 := by
  have := nodup_le (l1 := es.map pairE) (l2 := (innerL n).map fun q => ((q.1 : Int), (q.2 : Int))) nd fun x hx => by
    obtain ⟨t, ht, rfl⟩ := List.mem_map.mp hx
    obtain ⟨g1, g2, g3⟩ := g t ht
    refine List.mem_map.mpr ⟨(t.1.toNat, t.2.1.toNat), (innerL_mem hn).mpr ⟨by omega, by omega⟩, Prod.ext ?_ ?_⟩
    · show ((t.1.toNat : Nat) : Int) = t.1
      omega
    · show ((t.2.1.toNat : Nat) : Int) = t.2.1
      omega
  rw [List.length_map, List.length_map, innerL_cnt hn] at this
  exact this
theorem cutV_from10 {xs : List V} {k : Nat} : cutV xs (some (k : Nat)) none = xs.drop k := by
  unfold cutV
  rw [HT.sIx_nat, HT.sIx_none]
  by_cases h : k ≤ xs.length
  · rw [Nat.min_eq_left h]
    exact List.take_of_length_le (by rw [List.length_drop]; omega)
  · rw [Nat.min_eq_right (by omega), List.drop_of_length_le (Nat.le_refl _), List.drop_of_length_le (by omega)]
    exact List.take_nil
/-- where a cut has come to -/
def hereN : Nat → List Nat → Nat
  | b, [] => b
  | _, c :: r => hereN c r
theorem hereN_snoc : ∀ {b : Nat} {l : List Nat} {c : Nat}, hereN b (l ++ [c]) = c
  | _, [], _ => rfl
  | _, d :: r, c => hereN_snoc (b := d) (l := r) (c := c)
theorem costC_snoc {f : Nat → Nat → Int} : ∀ {b : Nat} {l : List Nat} {c : Nat}, costC f b (l ++ [c]) = costC f b l + f (hereN b l) c
  | b, [], c => by
    show f b c + 0 = 0 + f b c
    omega
  | b, d :: r, c => by
    have := costC_snoc (f := f) (b := d) (l := r) (c := c)
    show f b d + costC f d (r ++ [c]) = f b d + costC f d r + f (hereN d r) c
    rw [this]
    omega
/-- a stretch of one run has no number -/
theorem fT_get {n : Nat} {es : List Tri} (g : ∀ x ∈ es, GoodE n x) (b e : Nat) : (lookE es b e).getD 0 = fT es b e := by
  unfold fT
  by_cases h : e = b + 1
  · rw [if_pos h, lookE_none]
    · rfl
    · intro m
      obtain ⟨x, hx, e2⟩ := List.mem_map.mp m
      have e3 : x.1 = (b : Int) := congrArg Prod.fst e2
      have e4 : x.2.1 = (e : Int) := congrArg Prod.snd e2
      have := (g x hx).2.1
      omega
  · rw [if_neg h]
theorem dif1 {i j : Int} (h : i = j) : (!decide (V.int i = V.int j)) = false := by rw [h]; simp
theorem dif2 {i j : Int} (h : i ≠ j) : (!decide (V.int i = V.int j)) = true := by rw [dec_int]; simp [h]
theorem sum_cast : ∀ {l : List Nat}, ((l.map fun n : Nat => (n : Int)).sum) = ((l.sum : Nat) : Int)
  | [] => rfl
  | a :: r => by
    rw [List.map_cons, List.sum_cons, List.sum_cons, sum_cast, Int.natCast_add]
theorem getD_int {o : Option Int} : (o.map V.int).getD (.int 0) = .int (o.getD 0) := by cases o <;> rfl
section
variable {P : Program} {w : World} {K : PySem.W.Frag} {mg : Str → Option Value} {base : Heap}
abbrev NDU : List Str := ["_law_lengths_here", "_law_ways", "_law_told_here", "_law_many", "_law_numbers", "_law_begin", "_law_end", "_law_number", "_law_cut", "_law_total", "_law_here", "_law_place"]
theorem scDue : FnScope NDU ["_law_lengths_here", "_law_ways", "_law_told_here"] (defScope s__law_due) := ⟨rfl, rfl, rfl, by decide +kernel, rfl, by decide +kernel, by decide +kernel⟩
def spDue (K : PySem.W.Frag) : Sp := fun vs H Q _ => ∃ (vl vt : V) (ls : List Nat) (w : Nat) (es : List Tri), vs = [vl, .int (w : Nat), vt] ∧ Dp K H vl (lensD ls) ∧ OkLens ls ∧ ls.length ≤ 12 ∧ 2 ≤ w ∧ w ≤ 6 ∧ Dp K H vt (.list (es.map triD)) ∧ es.length ≤ 2000 ∧
  ((GoodP ls w es ∧ ∀ H', Same H H' → Q (.int (fT es 0 ls.length)) H') ∨ (¬ GoodP ls w es ∧ ∀ H' t, Same H H' → H' t = some (.tup [.str "BadPaper", .int 0]) → Q (.ref t) H'))
theorem due_ok {c : Addr} (D : DefAt K mg "_law_due" s__law_due c) (T : Txt K mg) (hsum : mg "sum" = none) (cC : Cal P w K mg base CX0 7 "_law_cuts" ["_law_begin", "_law_end", "_law_ways"] (spCuts 5)) : Cal P w K mg base CX0 8 "_law_due" ["_law_lengths_here", "_law_ways", "_law_told_here"] (spDue K) := by
  have sc := scDue
  refine def_ok0 D sc (fun vs H Q E h => ?_) (fun _ _ _ _ _ _ us hl => match us, hl with | [_, _, _], _ => rfl) (fun f A outer s H vs Q E hr h => ?_)
  · obtain ⟨vl, vt, ls, w, es, rfl, _⟩ := h
    rfl
  · obtain ⟨vl, vt, ls, w, es, rfl, hl, okl, l12, hw2, hw6, ht, l2, k⟩ := h
    have hu := hr.units
    refine ⟨_, (pss_cons (ps_set (i := 3) sc.nd rfl (Or.inl rfl) (pe_callB call_lenD (by rfl) T.len PySem.boot_len (pa_cons (pv 0) pa_nil))) (pss_cons (ps_set (i := 4) sc.nd rfl (Or.inl rfl) pe_dnewT) (pss_cons (ps_for PassesOwn.never rfl (pi_list (pv 2)) (pg_tup (by rfl) (pgs_cons (pg_name (i := 5) sc.nd rfl (Or.inl rfl)) (pgs_cons (pg_name (i := 6) sc.nd rfl (Or.inl rfl)) (pgs_cons (pg_name (i := 7) sc.nd rfl (Or.inl rfl)) pgs_nil)))) (pss_cons (ps_if ((pw_or (pt_cmp (pc_din (by exact le64T hu) (pe_tup (pa_cons (pv 5) (pa_cons (pv 6) pa_nil))) (pv 4))) (pw_or (pt_not (pt_cmpR op_le pe_int (pv 5) (nomark _))) (pw_or1 (pt_not (pt_chain op_le op_le (pe_op op_add (pv 5) pe_int) (pv 6) (pv 3)))))).pt) (pss_one (ps_ret (pe_tup (pa_cons pe_str (pa_cons pe_int pa_nil))))) pss_nil) (pss_one (ps_dput (by exact le64T hu) (pv 4) (pe_tup (pa_cons (pv 5) (pa_cons (pv 6) pa_nil))) (pv 7) (by rfl))))) (pss_cons (ps_if (pt_cmpR op_ne (pe_callB call_len_dT (by rfl) T.len PySem.boot_len (pa_cons (pv 4) pa_nil)) (pe_op op_fdiv (pe_op op_mul (pv 3) (pe_op op_sub (pv 3) pe_int)) pe_int) (nomark _)) (pss_one (ps_ret (pe_tup (pa_cons pe_str (pa_cons pe_int pa_nil))))) pss_nil) (pss_cons (ps_lock (ps_for PassesOwn.never rfl (pi_keys (pv 4)) (pg_tup (by rfl) (pgs_cons (pg_name (i := 5) sc.nd rfl (Or.inl rfl)) (pgs_cons (pg_name (i := 6) sc.nd rfl (Or.inl rfl)) pgs_nil))) (pss_one (ps_for PassesOwn.never rfl (pi_list (pe_slice sl_list (pe_c cC hr (by decide) (by rfl) pass0 (pa_cons (pv 5) (pa_cons (pv 6) (pa_cons (pv 1) pa_nil)))) (po_some pe_int) po_none)) (pg_name (i := 8) sc.nd rfl (Or.inl rfl)) (pss_cons (ps_set (i := 9) sc.nd rfl (Or.inl rfl) (pe_callB (cr_sum rfl) (by rfl) hsum (by decide +kernel) (pa_cons (pe_slice sl_list (pv 0) (po_some (pv 5)) (po_some (pv 6))) pa_nil))) (pss_cons (ps_set (i := 10) sc.nd rfl (Or.inl rfl) (pv 5)) (pss_cons (ps_for PassesOwn.never rfl (pi_list (pv 8)) (pg_name (i := 11) sc.nd rfl (Or.inl rfl)) (pss_cons (ps_set (i := 9) sc.nd rfl (Or.inl rfl) (pe_op op_add (pv 9) (pe_dget2 (by exact le64T hu) (pv 4) (pe_tup (pa_cons (pv 10) (pa_cons (pv 11) pa_nil))) pe_int ⟨rfl, rfl, rfl, rfl⟩))) (pss_one (ps_set (i := 10) sc.nd rfl (Or.inl rfl) (pv 11))))) (pss_one (ps_if (pt_cmpR op_gt (pe_dget (by exact le64T hu) (pv 4) (pe_tup (pa_cons (pv 5) (pa_cons (pv 6) pa_nil))) (by intro _ _; rfl)) (pv 9) (nomark _)) (pss_one (ps_ret (pe_tup (pa_cons pe_str (pa_cons pe_int pa_nil))))) pss_nil))))))))) (pss_one (ps_ret (pe_dget2 (by exact le64T hu) (pv 4) (pe_tup (pa_cons pe_int (pa_cons (pv 3) pa_nil))) pe_int ⟨rfl, rfl, rfl, rfl⟩)))))))), ?_⟩
    refine ⟨_, rfl, _, _, ls.length, rfl, hl, ?_, ?_⟩
    · show some _ = some _
      rw [List.length_map]
    refine fun N nN => ?_
    cases ht with
    | @lst a xs _ hS hI =>
    have s0 := sameNew (o := .dT []) (Same.refl H) nN
    have hN0 : upd H N (.dT []) N = some (.dT []) := upd_same
    generalize upd H N (.dT []) = H0 at s0 hN0 ⊢
    have n1 := okl.one
    have lE : xs.length = es.length := by rw [dpLen hI, List.length_map]
    have bad : ¬ GoodP ls w es → ∀ H' t, Same H H' → H' t = some (.tup [.str "BadPaper", .int 0]) → Q (.ref t) H' := fun g => by
      rcases k with ⟨g', _⟩ | ⟨_, k⟩
      · exact absurd g' g
      · exact k
    refine ⟨_, rfl, a, rfl, ⟨_, s0.seq hS⟩, ?_⟩
    refine for_list (K := K) (a := a) (xs := xs) (fun i σ H' => ∃ (v5 v6 v7 : Option V) (kvs : List (List Key × V)), σ = [some vl, some (.int (w : Nat)), some (.ref a), some (.int (ls.length : Nat)), some (.ref N), v5, v6, v7, none, none, none, none] ∧ Same H H' ∧ H' N = some (.dT kvs) ∧ kvs.map (·.1) = (es.take i).map keyZ ∧ (∀ x ∈ es.take i, GoodE ls.length x) ∧ ((es.take i).map pairE).Nodup ∧ ∀ b e : Nat, valV kvs (key2 b e) = (lookE (es.take i) b e).map V.int)
      ⟨none, none, none, [], rfl, s0, hN0, rfl, (fun x h => nomatch h), List.nodup_nil, fun b e => rfl⟩ (fun i σ H' _ h => by obtain ⟨_, _, _, _, _, h, _⟩ := h; exact h.seq hS) ?_ ?_
    · rintro i y σ H1 hy ⟨v5, v6, v7, kvs, rfl, sm, hN, lk, gd, nd, lo⟩
      obtain ⟨d, ed, hd⟩ := dpGet hI hy
      rw [List.getElem?_map] at ed
      obtain ⟨x, ex, rfl⟩ : ∃ x, es[i]? = some x ∧ d = triD x := by
        cases q : es[i]? with
        | none => rw [q] at ed; cases ed
        | some x => rw [q] at ed; exact ⟨x, rfl, (Option.some.inj ed).symm⟩
      have exm := List.mem_of_getElem? ex
      have hd1 := dp_same sm _ hd
      cases hd1 with
      | @tup t zs _ hT hI1 =>
      cases hI1 with
      | cons h1 hI1 =>
      cases hI1 with
      | cons h2 hI1 =>
      cases hI1 with
      | cons h3 hI1 =>
      cases hI1
      cases h1
      cases h2
      cases h3
      have hi := (List.getElem?_eq_some_iff.mp ex).1
      have badx : (¬ GoodE ls.length x ∨ pairE x ∈ (es.take i).map pairE) → ∀ H' t, Same H H' → H' t = some (.tup [.str "BadPaper", .int 0]) → Q (.ref t) H' := fun hb => bad fun g => by
        rcases hb with hb | hb
        · exact hb (g.1.1 x exm)
        · have e2 : es.map pairE = (es.take i).map pairE ++ (es.drop i).map pairE := by rw [← List.map_append, List.take_append_drop]
          have g2 := g.1.2.1
          rw [e2] at g2
          exact (List.nodup_append.mp g2).2.2 _ hb _ (List.mem_map.mpr ⟨x, List.mem_of_getElem? (i := 0) (by rw [List.getElem?_drop]; exact ex), rfl⟩) rfl
      refine ⟨t, _, rfl, hT, rfl, ?_⟩
      refine ⟨_, _, rfl, _, _, rfl, _, _, rfl, rfl, ?_⟩
      dsimp only [List.set]
      refine ⟨_, rfl, _, rfl, by show 2 ≤ sizeLine; decide, fun t2 nt2 => ?_⟩
      have s2 := sameNew (o := .tup [.int x.1, .int x.2.1]) (Same.refl H1) nt2
      have hT2 : upd H1 t2 (.tup [.int x.1, .int x.2.1]) t2 = some (.tup ((keyZ x).map kV)) := upd_same
      generalize upd H1 t2 (.tup [.int x.1, .int x.2.1]) = H2 at s2 hT2 ⊢
      have sm2 := sm.trans s2
      refine ⟨_, rfl, N, _, rfl, DGet.t (k := keyZ x) (s2 _ _ hN) hT2, _, rfl, ?_⟩
      have inn : (valV kvs (keyZ x)).isSome = true ↔ pairE x ∈ (es.take i).map pairE := by
        rw [valV_some, lk]
        constructor
        · intro h
          obtain ⟨y, hy, e⟩ := List.mem_map.mp h
          exact List.mem_map.mpr ⟨y, hy, keyZ_inj.mp e⟩
        · intro h
          obtain ⟨y, hy, e⟩ := List.mem_map.mp h
          exact List.mem_map.mpr ⟨y, hy, keyZ_inj.mpr e⟩
      by_cases hm : pairE x ∈ (es.take i).map pairE
      · rw [inn.mpr hm]
        refine iteT ?_
        exact ⟨by show 2 ≤ sizeLine; decide, fun t3 n3 => badx (.inr hm) _ t3 (sameNew sm2 n3) upd_same⟩
      · rw [Bool.eq_false_iff.mpr (fun z => hm (inn.mp z))]
        refine iteF ?_
        refine ⟨_, rfl, _, _, rfl, rfl, _, rfl, ?_⟩
        by_cases c0 : (0 : Int) ≤ x.1
        · rw [decide_eq_true c0]
          refine iteF ?_
          refine ⟨_, rfl, _, _, rfl, rfl, _, rfl, _, _, rfl, rfl, _, rfl, ?_⟩
          by_cases c1 : x.1 + 2 ≤ x.2.1
          · rw [decide_eq_true c1]
            refine iteT ⟨_, rfl, _, _, rfl, rfl, _, rfl, ?_⟩
            by_cases c2 : x.2.1 ≤ (ls.length : Int)
            · rw [decide_eq_true c2]
              refine iteF ?_
              obtain ⟨b, hb⟩ : ∃ b : Nat, x.1 = (b : Int) := ⟨x.1.toNat, by omega⟩
              obtain ⟨e, he⟩ : ∃ e : Nat, x.2.1 = (e : Int) := ⟨x.2.1.toNat, by omega⟩
              have gx : GoodE ls.length x := ⟨c0, by omega, by omega⟩
              have ep : pairE x = ((b : Int), (e : Int)) := Prod.ext hb he
              have ek : keyZ x = key2 b e := by unfold keyZ; rw [hb, he]; try rfl
              refine ⟨_, rfl, _, rfl, _, rfl, _, rfl, by show 2 ≤ sizeLine; decide, fun t3 nt3 => ?_⟩
              have s3 := sameNew (o := .tup [.int x.1, .int x.2.1]) (Same.refl H2) nt3
              have hT3 : upd H2 t3 (.tup [.int x.1, .int x.2.1]) t3 = some (.tup ((keyZ x).map kV)) := upd_same
              generalize upd H2 t3 (.tup [.int x.1, .int x.2.1]) = H3 at s3 hT3 ⊢
              have s23 := s2.trans s3
              have hN3 := s23 _ _ hN
              have sm3 := sm.trans s23
              have lk2 := congrArg List.length lk
              rw [List.length_map, List.length_map, List.length_take] at lk2
              have vn : valV kvs (keyZ x) = none := by
                cases z : valV kvs (keyZ x) with
                | none => rfl
                | some _ => exact absurd (inn.mp (by rw [z]; rfl)) hm
              refine ⟨N, _, rfl, DPut.t (k := keyZ x) hN3 hT3 (by rw [sizeLine_eq]; omega), ?_⟩
              have tk := take_snoc9 ex
              refine ⟨_, _, _, _, rfl, fun c o q => ?_, upd_same, ?_, ?_, ?_, fun b' e' => ?_⟩
              · rw [upd_ne (ne_of_none q nN)]
                exact sm3 _ _ q
              · rw [putK_new _ (by rw [vn]), List.map_append, lk, tk, List.map_append]
                try rfl
              · rw [tk]
                intro q hq
                rcases List.mem_append.mp hq with hq | hq
                · exact gd q hq
                · rw [List.mem_singleton.mp hq]; exact gx
              · rw [tk, List.map_append]
                refine List.nodup_append.mpr ⟨nd, by simp, fun u hu v hv => ?_⟩
                rw [List.mem_singleton.mp hv]
                exact fun z => hm (by rw [← z]; exact hu)
              · rw [valV_put, tk, lookE_snoc hm, lo b' e', ek]
                by_cases c : b' = b ∧ e' = e
                · rw [if_pos (key2_eq.mpr c), if_pos ⟨by rw [hb, c.1], by rw [he, c.2]⟩]
                  rfl
                · rw [if_neg (fun z => c (key2_eq.mp z)), if_neg (fun z => c ⟨by omega, by omega⟩)]
            · rw [decide_eq_false c2]
              refine iteT ?_
              exact ⟨by show 2 ≤ sizeLine; decide, fun t3 n3 => badx (.inl fun g => by obtain ⟨_, _, g⟩ := g; omega) _ t3 (sameNew sm2 n3) upd_same⟩
          · rw [decide_eq_false c1]
            refine iteF ⟨_, rfl, iteT ?_⟩
            exact ⟨by show 2 ≤ sizeLine; decide, fun t3 n3 => badx (.inl fun g => by obtain ⟨_, g, _⟩ := g; omega) _ t3 (sameNew sm2 n3) upd_same⟩
        · rw [decide_eq_false c0]
          refine iteT ?_
          exact ⟨by show 2 ≤ sizeLine; decide, fun t3 n3 => badx (.inl fun g => c0 g.1) _ t3 (sameNew sm2 n3) upd_same⟩
    · rintro σ H1 ⟨v5, v6, v7, kvs, rfl, sm, hN, lk, gd, nd, lo⟩
      rw [lE, List.take_length] at gd nd lo lk
      refine ⟨_, rfl, N, _, rfl, hN, _, rfl, _, rfl, _, _, rfl, rfl, _, _, rfl, rfl, .inr ⟨by omega, by omega⟩, _, _, rfl, rfl, ⟨by decide, by decide⟩, ?_⟩
      refine ⟨rfl, _, rfl, ?_⟩
      have eq : ((ls.length : Int) * ((ls.length : Int) - 1)) / 2 = ((ls.length * (ls.length - 1) / 2 : Nat) : Int) := by
        obtain ⟨m, hm⟩ : ∃ m, ls.length = m + 1 := ⟨ls.length - 1, by omega⟩
        rw [hm, show ((m + 1 : Nat) : Int) - 1 = (m : Int) by omega, ← Int.natCast_mul, show m + 1 - 1 = m by omega]
        rfl
      have lk2 := congrArg List.length lk
      rw [List.length_map, List.length_map] at lk2
      by_cases c : es.length = ls.length * (ls.length - 1) / 2
      · refine iteF' (dif1 (by rw [lk2, c]; exact eq.symm)) ?_
        have gT : GoodT ls.length es := ⟨gd, nd, by omega⟩
        refine ⟨N, _, hN, trivial, fun od => ?_⟩
        have hNf : upd H1 N (.frz od (.dT kvs)) N = some (.frz od (.dT kvs)) := upd_same
        have sf : Same H (upd H1 N (.frz od (.dT kvs))) := fun c o q => (upd_ne (ne_of_none q nN)).trans (sm _ _ q)
        generalize upd H1 N (.frz od (.dT kvs)) = H2 at hNf sf ⊢
        have back : ∀ {H'}, Same H H' → Same H (upd H' N (.dT kvs)) := fun s c o q => (upd_ne (ne_of_none q nN)).trans (s _ _ q)
        have get : ∀ {HX : Hp} {t2 : Addr} {b e : Nat}, HX N = some (.frz od (.dT kvs)) → HX t2 = some (.tup [.int (b : Nat), .int (e : Nat)]) → DGet HX N (.ref t2) ((lookE es b e).map V.int) := fun {HX t2 b e} h1 h2 => .inr ⟨kvs, key2 b e, t2, .inr ⟨_, h1⟩, rfl, h2, (lo b e).symm⟩
        have isD : ∀ {HX : Hp}, HX N = some (.frz od (.dT kvs)) → IsD HX N := fun h => .inr ⟨kvs, .inr ⟨_, h⟩⟩
        refine ⟨_, rfl, N, od, rfl, .inr ⟨kvs, hNf, ?_⟩⟩
        cases hl with
        | @lst aL xL _ hSL hIL =>
        have exL := dpAll_nats7 hIL
        subst exL
        refine for_keysT (fun j σ H' => ∃ v5 v6 v7 v8 v9 v10 v11 : Option V, σ = [some (.ref aL), some (.int (w : Nat)), some (.ref a), some (.int (ls.length : Nat)), some (.ref N), v5, v6, v7, v8, v9, v10, v11] ∧ Same H H' ∧ H' N = some (.frz od (.dT kvs)) ∧ ∀ b e : Nat, ((b : Int), (e : Int)) ∈ (es.take j).map pairE → fT es b e ≤ limT ls (fT es) w b e)
          ⟨_, _, _, _, _, _, _, rfl, sf, hNf, (fun b e h => nomatch h)⟩ (fun i σ H' _ h => by obtain ⟨_, _, _, _, _, _, _, _, _, h, _⟩ := h; exact h) ?_ ?_
        · rintro j key v q σ H3 ej hq ⟨v5, v6, v7, v8, v9, v10, v11, rfl, s3, hN3, le3⟩
          have lkj : (es.map keyZ)[j]? = some key := by rw [← lk, List.getElem?_map, ej]; rfl
          obtain ⟨x, ex, rfl⟩ : ∃ x, es[j]? = some x ∧ key = keyZ x := by
            rw [List.getElem?_map] at lkj
            cases z : es[j]? with
            | none => rw [z] at lkj; cases lkj
            | some x => rw [z] at lkj; exact ⟨x, rfl, (Option.some.inj lkj).symm⟩
          have exm := List.mem_of_getElem? ex
          obtain ⟨g1, g2, g3⟩ := gd x exm
          obtain ⟨b, hb⟩ : ∃ b : Nat, x.1 = (b : Int) := ⟨x.1.toNat, by omega⟩
          obtain ⟨e, he⟩ : ∃ e : Nat, x.2.1 = (e : Int) := ⟨x.2.1.toNat, by omega⟩
          have hq3 : H3 q = some (.tup [.int (b : Nat), .int (e : Nat)]) := by
            rw [hq]
            show some (HO.tup [V.int x.1, V.int x.2.1]) = _
            rw [hb, he]
          have ez := lookE_mem nd exm hb he
          have efz : fT es b e = x.2.2 := by rw [← fT_get gd, ez]; rfl
          have hbe : b + 2 ≤ e := by omega
          have hen : e ≤ ls.length := by omega
          obtain ⟨p, rfl⟩ : ∃ p, w = p + 2 := ⟨w - 2, by omega⟩
          refine ⟨q, _, rfl, SqT.of hq3, rfl, _, _, rfl, _, _, rfl, rfl, ?_⟩
          dsimp only [List.set]
          refine ⟨_, rfl, _, rfl, _, rfl, b, e, p + 1, rfl, by omega, by omega, by omega, fun H4 G gs s4 nG hG LG nGg => ?_⟩
          refine ⟨_, rfl, G, _, rfl, SqL.of hG, fun G2 nG2 => ?_⟩
          rw [show (1 : Int) = ((1 : Nat) : Int) from rfl, cutV_from10, ← List.map_drop]
          have s5 := sameNew (o := .lst ((gs.drop 1).map V.ref)) (Same.refl H4) nG2
          have hG5 : upd H4 G2 (.lst ((gs.drop 1).map V.ref)) G2 = some (.lst ((gs.drop 1).map V.ref)) := upd_same
          generalize upd H4 G2 (.lst ((gs.drop 1).map V.ref)) = H5 at s5 hG5 ⊢
          refine ⟨G2, rfl, ⟨_, SqL.of hG5⟩, ?_⟩
          have s35 := s4.trans s5
          have s05 := s3.trans s35
          have nd2 : (ls.map fun n : Nat => V.int (n : Nat)) = (ls.map fun n : Nat => (n : Int)).map V.int := by rw [List.map_map]; rfl
          refine for_list (K := K) (a := G2) (xs := (gs.drop 1).map V.ref) (fun i σ H' => ∃ v8 v9 v10 v11 : Option V, σ = [some (.ref aL), some (.int ((p + 2 : Nat) : Int)), some (.ref a), some (.int (ls.length : Nat)), some (.ref N), some (.int (b : Nat)), some (.int (e : Nat)), v7, v8, v9, v10, v11] ∧ Same H5 H' ∧ ∀ y ∈ (cuts2 p b e).take i, fT es b e ≤ ((sl ls b e).sum : Nat) + costC (fT es) b y)
            ⟨_, _, _, _, by first | rfl | rw [hb, he], Same.refl H5, (fun y h => nomatch h)⟩ (fun i σ H' _ h => by obtain ⟨_, _, _, _, _, h, _⟩ := h; exact SqL.of (h _ _ hG5)) ?_ ?_
          · rintro i y σ H6 hy ⟨v8, v9, v10, v11, rfl, s6, le6⟩
            obtain ⟨g, eg, rfl⟩ : ∃ g, (gs.drop 1)[i]? = some g ∧ y = .ref g := by
              rw [List.getElem?_map] at hy
              cases z : (gs.drop 1)[i]? with
              | none => rw [z] at hy; cases hy
              | some b => rw [z] at hy; exact ⟨b, rfl, (Option.some.inj hy).symm⟩
            rw [List.getElem?_drop] at eg
            have lgs := LG.len
            have hj := (List.getElem?_eq_some_iff.mp eg).1
            obtain ⟨c2, ec⟩ : ∃ c2, (cutsL (p + 1) b e)[1 + i]? = some c2 := ⟨_, List.getElem?_eq_getElem (by omega)⟩
            have ec2 : (cuts2 p b e)[i]? = some c2 := by
              rw [NB.cutsL_succ, Nat.add_comm, List.getElem?_cons_succ] at ec
              exact ec
            have hg6 := s6 _ _ (s5 _ _ (LG.at_ _ g c2 eg ec).1)
            have s06 := s05.trans s6
            refine ⟨_, rfl, _, rfl, _, rfl, _, rfl, _, rfl, aL, _, rfl, s06.seq hSL, fun S nS => ?_⟩
            have ec3 : cutV (ls.map fun n => V.int (n : Nat)) (some (b : Nat)) (some (e : Nat)) = ((sl ls b e).map fun n : Nat => (n : Int)).map V.int := by
              rw [show (e : Int) = ((b + (e - b) : Nat) : Int) by omega, cutV_mid, List.map_map]
              unfold sl
              rw [← List.map_drop, ← List.map_take, List.drop_take]
              rfl
            rw [ec3]
            have s7 := sameNew (o := .lst (((sl ls b e).map fun n : Nat => (n : Int)).map V.int)) (Same.refl H6) nS
            have hS7 : upd H6 S (.lst (((sl ls b e).map fun n : Nat => (n : Int)).map V.int)) S = some (.lst (((sl ls b e).map fun n : Nat => (n : Int)).map V.int)) := upd_same
            generalize upd H6 S (.lst (((sl ls b e).map fun n : Nat => (n : Int)).map V.int)) = H7 at s7 hS7 ⊢
            refine ⟨S, _, rfl, SqL.of hS7, ?_⟩
            rw [show (((sl ls b e).map fun n : Nat => (n : Int)).sum) = (((sl ls b e).sum : Nat) : Int) from sum_cast]
            refine ⟨_, rfl, _, rfl, g, rfl, ⟨_, SqL.of (s7 _ _ hg6)⟩, ?_⟩
            have s37 := (s35.trans s6).trans s7
            have s07 := s3.trans s37
            refine for_list (K := K) (a := g) (xs := c2.map fun n => V.int (n : Nat)) (fun m σ H' => ∃ v11 : Option V, σ = [some (.ref aL), some (.int ((p + 2 : Nat) : Int)), some (.ref a), some (.int (ls.length : Nat)), some (.ref N), some (.int (b : Nat)), some (.int (e : Nat)), v7, some (.ref g), some (.int (((sl ls b e).sum : Nat) + costC (fT es) b (c2.take m))), some (.int (hereN b (c2.take m) : Nat)), v11] ∧ Same H7 H')
              ⟨_, by rw [List.take_zero]; exact congrArg (fun z => [some (V.ref aL), some (.int ((p + 2 : Nat) : Int)), some (.ref a), some (.int (ls.length : Nat)), some (.ref N), some (.int (b : Nat)), some (.int (e : Nat)), v7, some (.ref g), some (.int z), some (.int (b : Nat)), _]) (Int.add_zero _).symm, Same.refl H7⟩ (fun i σ H' _ h => by obtain ⟨_, _, h⟩ := h; exact SqL.of (h _ _ (s7 _ _ hg6))) ?_ ?_
            · rintro m y σ H8 hy ⟨v11, rfl, s8⟩
              obtain ⟨c, ec4, rfl⟩ : ∃ c, c2[m]? = some c ∧ y = .int (c : Nat) := by
                rw [List.getElem?_map] at hy
                cases z : c2[m]? with
                | none => rw [z] at hy; cases hy
                | some b => rw [z] at hy; exact ⟨b, rfl, (Option.some.inj hy).symm⟩
              have hN8 := s8 _ _ (s37 _ _ hN3)
              refine ⟨_, rfl, _, rfl, N, rfl, isD hN8, _, rfl, _, rfl, by show 2 ≤ sizeLine; decide, fun t2 nt2 => ?_⟩
              have s9 := sameNew (o := .tup [.int (hereN b (c2.take m) : Nat), .int (c : Nat)]) (Same.refl H8) nt2
              have hT9 : upd H8 t2 (.tup [.int (hereN b (c2.take m) : Nat), .int (c : Nat)]) t2 = some (.tup [.int (hereN b (c2.take m) : Nat), .int (c : Nat)]) := upd_same
              generalize upd H8 t2 (.tup [.int (hereN b (c2.take m) : Nat), .int (c : Nat)]) = H9 at s9 hT9 ⊢
              refine ⟨_, get (s9 _ _ hN8) hT9, ?_⟩
              rw [getD_int, fT_get gd]
              refine ⟨_, _, rfl, rfl, _, rfl, some (.int (c : Nat)), ?_, s8.trans s9⟩
              rw [take_snoc9 ec4, costC_snoc, hereN_snoc, ← Int.add_assoc]
              rfl
            · rintro σ H8 ⟨v11, rfl, s8⟩
              rw [List.length_map, List.take_length]
              have s38 := s37.trans s8
              have hN8 := s38 _ _ hN3
              refine ⟨_, rfl, _, rfl, _, rfl, by show 2 ≤ sizeLine; decide, fun t2 nt2 => ?_⟩
              have s9 := sameNew (o := .tup [.int (b : Nat), .int (e : Nat)]) (Same.refl H8) nt2
              have hT9 : upd H8 t2 (.tup [.int (b : Nat), .int (e : Nat)]) t2 = some (.tup [.int (b : Nat), .int (e : Nat)]) := upd_same
              generalize upd H8 t2 (.tup [.int (b : Nat), .int (e : Nat)]) = H9 at s9 hT9 ⊢
              have gt := get (s9 _ _ hN8) hT9
              rw [ez] at gt
              refine ⟨N, _, rfl, gt, _, rfl, _, _, rfl, rfl, _, rfl, ?_⟩
              by_cases cz : ((sl ls b e).sum : Nat) + costC (fT es) b c2 < x.2.2
              · refine iteT' (decide_eq_true cz) ?_
                refine ⟨by show 2 ≤ sizeLine; decide, fun t3 n3 => ⟨?_, ?_⟩⟩
                · exact (sameNew (s38.trans s9) n3) _ _ hN3
                · refine bad (fun g => ?_) _ t3 (back ((s3.trans (s38.trans s9)).trans (sameNew (Same.refl _) n3))) ?_
                  · have := (NB.lim_cuts hbe).mp (g.2 b e hbe hen) c2 (List.mem_of_getElem? ec2)
                    rw [efz] at this
                    omega
                  · have nt3 : t3 ≠ N := fun z => by
                      rw [z, (s38.trans s9) _ _ hN3] at n3
                      cases n3
                    rw [upd_ne nt3]
                    exact upd_same
              · refine iteF' (decide_eq_false cz) ?_
                refine ⟨_, _, _, _, rfl, ((s6.trans s7).trans s8).trans s9, fun y hy => ?_⟩
                rw [take_snoc9 ec2] at hy
                rcases List.mem_append.mp hy with hy | hy
                · exact le6 y hy
                · rw [List.mem_singleton.mp hy, efz]
                  omega
          · rintro σ H6 ⟨v8, v9, v10, v11, rfl, s6, le6⟩
            have s36 := s35.trans s6
            refine ⟨_, _, _, _, _, _, _, rfl, s3.trans s36, s36 _ _ hN3, fun b' e' m => ?_⟩
            rw [take_snoc9 ex, List.map_append] at m
            rcases List.mem_append.mp m with m | m
            · exact le3 b' e' m
            · have m2 : ((b' : Int), (e' : Int)) = (x.1, x.2.1) := List.mem_singleton.mp m
              injection m2 with m3 m4
              obtain rfl : b' = b := by omega
              obtain rfl : e' = e := by omega
              refine (NB.lim_cuts hbe).mpr fun y hy => le6 y ?_
              have lgs := LG.len
              rw [NB.cutsL_succ, List.length_cons] at lgs
              rw [List.length_map, List.length_drop, lgs, Nat.add_sub_cancel, List.take_length]
              exact hy
        · rintro σ H3 ⟨v5, v6, v7, v8, v9, v10, v11, rfl, s3, hN3, le3⟩
          have gP : GoodP ls w es := ⟨gT, fun b e h1 h2 => le3 b e (by
            have lk3 := congrArg List.length lk
            rw [List.length_map, List.length_map] at lk3
            rw [lk3, List.take_length]
            obtain ⟨z, ez⟩ := gT.all n1 h1 h2
            refine Decidable.byContradiction fun n => ?_
            rw [lookE_none n] at ez
            cases ez)⟩
          refine ⟨hN3, ?_⟩
          have hNu : upd H3 N (.dT kvs) N = some (.dT kvs) := upd_same
          have su := back s3
          generalize upd H3 N (.dT kvs) = H4 at hNu su ⊢
          refine ⟨_, rfl, N, rfl, .inr ⟨kvs, .inl hNu⟩, _, rfl, by show 2 ≤ sizeLine; decide, fun t2 nt2 => ?_⟩
          have s2 := sameNew (o := .tup [.int 0, .int (ls.length : Nat)]) (Same.refl H4) nt2
          have hT2 : upd H4 t2 (.tup [.int 0, .int (ls.length : Nat)]) t2 = some (.tup [.int ((0 : Nat) : Int), .int (ls.length : Nat)]) := upd_same
          generalize upd H4 t2 (.tup [.int 0, .int (ls.length : Nat)]) = H5 at s2 hT2 ⊢
          refine ⟨_, DGet.t (k := key2 0 ls.length) (s2 _ _ hNu) hT2, ?_⟩
          rw [lo 0 ls.length, getD_int, fT_get gd]
          rcases k with ⟨_, k⟩ | ⟨g, _⟩
          · exact k H5 (su.trans s2)
          · exact absurd gP g
      · refine iteT' (dif2 (by rw [lk2]; exact fun z => c (by rw [eq] at z; omega))) ?_
        exact ⟨by show 2 ≤ sizeLine; decide, fun t3 n3 => bad (fun g => by have := told_le n1 g.1.1 g.1.2.1; have := g.1.2.2; omega) _ t3 (sameNew sm n3) upd_same⟩
end
end RS
set_option Elab.async false
set_option maxRecDepth 100000
set_option maxHeartbeats 8000000
set_option pp.maxSteps 400
namespace RS
open PySem PySem.Spec PyProof.Rows L2 GX LM HQ
/-! ### a paper told otherwise -/
theorem sl_listT {X : Cx} {K : PySem.W.Frag} (e : X.K = K) : SlR X (rSlL K) := by
  subst e
  exact sl_list
theorem canLayAllT {ds : List PyData} (h : ∀ d ∈ ds, d.canLay0 = true) : PyData.canLayAll0 ds = true := by
  induction ds with
  | nil => simp [PyData.canLayAll0]
  | cons d ds ih =>
    simp only [PyData.canLayAll0, Bool.and_eq_true]
    exact ⟨h d List.mem_cons_self, ih fun e he => h e (List.mem_cons_of_mem _ he)⟩
theorem depthLeT {n : Nat} : ∀ {ds : List PyData}, (∀ d ∈ ds, d.depth ≤ n) → PyData.depthAll ds ≤ n
  | [], _ => by simp [PyData.depthAll]
  | d :: ds, h => by
    simp only [PyData.depthAll]
    have h1 := h d List.mem_cons_self
    have h2 := depthLeT (ds := ds) fun e he => h e (List.mem_cons_of_mem _ he)
    omega
theorem tri_shaped (es : List Tri) : SeqAt.shaped (.list (es.map triD)) = true := by
  unfold SeqAt.shaped
  rw [Bool.and_eq_true]
  refine ⟨?_, decide_eq_true ?_⟩
  · simp only [PyData.canLay0]
    exact canLayAllT fun d hd => by
      obtain ⟨r, hr, rfl⟩ := List.mem_map.mp hd
      simp [triD, PyData.canLay0, PyData.canLayAll0]
  · simp only [PyData.depth]
    have := depthLeT (n := 1) (ds := es.map triD) fun d hd => by
      obtain ⟨r, hr, rfl⟩ := List.mem_map.mp hd
      simp [triD, PyData.depth, PyData.depthAll]
    omega
theorem tri_noL (es : List Tri) : noLs (es.map triD) = true := noLs_iff.mpr fun d hd => by
  obtain ⟨u, hu, rfl⟩ := List.mem_map.mp hd
  simp [triD, noL, noLs]
theorem dp_tri {K : PySem.W.Frag} {H : Hp} {t : Addr} {b e z : Int} (h : H t = some (.tup [.int b, .int e, .int z])) : Dp K H (.ref t) (triD (b, e, z)) := .tup (SqT.of h) (.cons (.int _) (.cons (.int _) (.cons (.int _) .nil)))
theorem via2 {tc : TT} {ta tb u : TS} {D : Ends} {σ : L2.St} {H : Hp} (NT NF : Hp → Prop) (h1 : ∀ Q' : Bool → Hp → Prop, (∀ H2, NT H2 → Q' true H2) → (∀ H2, NF H2 → Q' false H2) → tc σ H Q') (hT : ∀ H2, NT H2 → ta { D with nx := u D } σ H2) (hF : ∀ H2, NF H2 → tb { D with nx := u D } σ H2) : tSeq (tIfS tc ta tb) u D σ H :=
  h1 _ (fun H2 h => iteT (hT H2 h)) fun H2 h => iteF (hF H2 h)
section
variable {P : Program} {w : World} {K : PySem.W.Frag} {mg : Str → Option Value} {base : Heap}
abbrev NBT : List Str := ["_law_box", "_law_many", "_law_told_here", "_law_at", "_law_begin", "_law_end", "_law_number", "_law_more", "_law_way", "_law_some", "_law_one", "_law_other", "_law_price"]
theorem scBent : FnScope NBT ["_law_box", "_law_many", "_law_told_here"] (defScope s__law_bent) := ⟨rfl, rfl, rfl, by decide +kernel, rfl, by decide +kernel, by decide +kernel⟩
def spBent (K : PySem.W.Frag) : Sp := fun vs H Q _ => ∃ (B L A : Addr) (n : Nat) (xs : List V) (es : List Tri), vs = [.ref B, .int (n : Nat), .ref A] ∧ BoxAt H B L ∧ (A ≠ B ∧ A ≠ L) ∧ H A = some (.lst xs) ∧ DpAll K H xs (es.map triD) ∧ es.length ≤ 100 ∧
  ∀ (H' : Hp) (R : Addr) (ys : List V) (es' : List Tri), SameX B L H H' → BoxAt H' B L → H R = none → H' R = some (.lst ys) → DpAll K H' ys (es'.map triD) → es'.length ≤ es.length + 1 → Q (.ref R) H'
theorem bent_ok {c : Addr} (D : DefAt K mg "_law_bent" s__law_bent c) (T : Txt K mg) (cT : Cal P w K mg base CX0 1 "_law_take" ["_law_box", "_law_many"] spTake) : Cal P w K mg base CX0 2 "_law_bent" ["_law_box", "_law_many", "_law_told_here"] (spBent K) := by
  have sc := scBent
  refine def_ok0 D sc (fun vs H Q E h => ?_) (fun _ _ _ _ _ _ us hl => match us, hl with | [_, _, _], _ => rfl) (fun f A outer s H vs Q E hr h => ?_)
  · obtain ⟨B, L, R, n, xs, es, rfl, _⟩ := h
    rfl
  · obtain ⟨B, L, R, n, xs, es, rfl, hb, nR, hR, dx, l100, k⟩ := h
    have hu := hr.units
    refine ⟨_, (pss_cons (ps_if ((pw_or (pt_cmpR (op_eqD hu) (pv 2) (pe_lst pa_nil) (nomark _)) (pw_or1 (pt_cmpR op_eq (pe_c cT hr (by decide) (by rfl) pass0 (pa_cons (pv 0) (pa_cons pe_int pa_nil))) pe_int (nomark _)))).pt) (pss_one (ps_ret (pe_op op_cat (pv 2) (pe_lst (pa_cons (pe_ix ix_list (pe_lst (pa_cons (pe_tup (pa_cons pe_int (pa_cons pe_int (pa_cons pe_int pa_nil)))) (pa_cons (pe_tup (pa_cons pe_int (pa_cons (pe_op op_add (pv 1) pe_int) (pa_cons pe_int pa_nil)))) (pa_cons (pe_tup (pa_cons (pe_un un_neg pe_int) (pa_cons (pv 1) (pa_cons pe_int pa_nil)))) (pa_cons (pe_tup (pa_cons pe_int (pa_cons (pv 1) (pa_cons pe_int pa_nil)))) pa_nil))))) (pe_c cT hr (by decide) (by rfl) pass0 (pa_cons (pv 0) (pa_cons pe_int pa_nil))) (fun _ _ => rfl)) pa_nil))))) pss_nil) (pss_cons (ps_set (i := 3) sc.nd rfl (Or.inl rfl) (pe_c cT hr (by decide) (by rfl) pass0 (pa_cons (pv 0) (pa_cons (pe_callB call_len_seq (by rfl) T.len PySem.boot_len (pa_cons (pv 2) pa_nil)) pa_nil)))) (pss_cons (ps_asg (pe_ix ix_list (pv 2) (pv 3) (fun _ _ => rfl)) (pg_tup (by rfl) (pgs_cons (pg_name (i := 4) sc.nd rfl (Or.inl rfl)) (pgs_cons (pg_name (i := 5) sc.nd rfl (Or.inl rfl)) (pgs_cons (pg_name (i := 6) sc.nd rfl (Or.inl rfl)) pgs_nil))))) (pss_cons (ps_set (i := 7) sc.nd rfl (Or.inl rfl) (pe_ix ix_list (pe_lst (pa_cons pe_int (pa_cons pe_int (pa_cons (pe_op op_add pe_int (pe_c cT hr (by decide) (by rfl) pass0 (pa_cons (pv 0) (pa_cons pe_int pa_nil)))) (pa_cons (pe_op op_pow pe_int pe_int) pa_nil))))) (pe_c cT hr (by decide) (by rfl) pass0 (pa_cons (pv 0) (pa_cons pe_int pa_nil))) (fun _ _ => rfl))) (pss_cons (ps_set (i := 8) sc.nd rfl (Or.inl rfl) (pe_c cT hr (by decide) (by rfl) pass0 (pa_cons (pv 0) (pa_cons pe_int pa_nil)))) (pss_cons (ps_if (pt_cmpR op_eq (pv 8) pe_int (nomark _)) (pss_one (ps_ret (pe_lc (own := [("_law_one", 10), ("_law_other", 11), ("_law_price", 12)]) (g := gTup K 3 (gCons (gName 10) (gCons (gName 11) (gCons (gName 12) gNil)))) (tt := tYes) rfl sc.nd (pi_list (pv 2)) (blkOk_by (N := NBT) (sc := defScope s__law_bent) (own := [("_law_one", 10), ("_law_other", 11), ("_law_price", 12)]) (by decide +kernel)) (fun _ _ _ _ _ => (pg_tup (by rfl) (pgs_cons (pg_name (i := 10) sc.nd rfl (Or.inl rfl)) (pgs_cons (pg_name (i := 11) sc.nd rfl (Or.inl rfl)) (pgs_cons (pg_name (i := 12) sc.nd rfl (Or.inl rfl)) pgs_nil))))) (fun _ _ _ _ _ => pts_nil) (fun _ _ _ _ _ => (pe_tup (pa_cons (pv 10) (pa_cons (pv 11) (pa_cons (pe_op op_fdiv (pv 12) pe_int) pa_nil)))))))) pss_nil) (pss_cons (ps_set (i := 9) sc.nd rfl (Or.inl rfl) (pe_lst (pa_cons (pe_lst (pa_cons (pe_tup (pa_cons (pv 4) (pa_cons (pv 5) (pa_cons (pe_op op_sub (pv 6) (pv 7)) pa_nil)))) pa_nil)) (pa_cons (pe_lst (pa_cons (pe_tup (pa_cons (pv 4) (pa_cons (pv 5) (pa_cons (pe_op op_add (pv 6) (pv 7)) pa_nil)))) pa_nil)) (pa_cons (pe_lst (pa_cons (pe_tup (pa_cons (pv 4) (pa_cons (pv 5) (pa_cons pe_int pa_nil)))) pa_nil)) (pa_cons (pe_lst pa_nil) (pa_cons (pe_lst (pa_cons (pe_ix ix_list (pv 2) (pv 3) (fun _ _ => rfl)) (pa_cons (pe_ix ix_list (pv 2) (pv 3) (fun _ _ => rfl)) pa_nil))) pa_nil))))))) (pss_one (ps_ret (pe_op op_cat (pe_op op_cat (pe_slice (sl_listT (K := K) rfl) (pv 2) po_none (po_some (pv 3))) (pe_ix ix_list (pv 9) (pv 8) (fun _ _ => rfl))) (pe_slice (sl_listT (K := K) rfl) (pv 2) (po_some (pe_op op_add (pv 3) pe_int)) po_none))))))))))), ?_⟩
    have lx : xs.length = es.length := by rw [dpLen dx, List.length_map]
    have pw : ((10 : Int) ^ (18 : Int).toNat) = 1000000000000000000 := by decide +kernel
    have tl : ∀ q : Tri, noL (triD q) = true := fun q => by simp [triD, noL, noLs]
    dsimp only
    refine via2 (fun H' => SameX B L H H' ∧ BoxAt H' B L) (fun H' => (SameX B L H H' ∧ BoxAt H' B L) ∧ es ≠ []) (fun Q' fT fF => ?_) ?_ ?_
    · refine ⟨_, rfl, Nat.zero_le _, fun Z nZ => ?_⟩
      have s1 := sameNew (o := .lst []) (Same.refl H) nZ
      have hZ1 : upd H Z (.lst []) Z = some (.lst []) := upd_same
      generalize upd H Z (.lst []) = H1 at s1 hZ1 ⊢
      refine ⟨.list (es.map triD), .list [], .lst (SqL.of (s1 _ _ hR)) (dpAll_same s1 _ dx), .lst (SqL.of hZ1) .nil, tri_shaped es, by decide, _, rfl, ?_⟩
      rw [eqv_nil]
      by_cases e0 : es = []
      · subst e0
        exact fT H1 ⟨SameX.of s1, hb.same s1⟩
      · have le : (es.map triD).isEmpty = false := by
          cases es with
          | nil => exact absurd rfl e0
          | cons _ _ => rfl
        rw [le]
        refine ⟨_, rfl, B, L, 6, rfl, hb.same s1, by decide, by decide, fun H2 x s2 b2 x0 x1 => ?_⟩
        have s02 := (SameX.of s1).trans s2
        refine ⟨rfl, _, rfl, ?_⟩
        by_cases c : x = 0
        · rw [decide_eq_true (congrArg V.int c)]
          exact fT H2 ⟨s02, b2⟩
        · rw [decide_eq_false fun z => c (V.int.inj z)]
          exact fF H2 ⟨⟨s02, b2⟩, e0⟩
    · rintro H1 ⟨s1, b1⟩
      have hR1 := s1 _ _ nR.1 nR.2 hR
      refine ⟨_, rfl, by show 3 ≤ sizeLine; decide, fun t1 nt1 => ?_⟩
      have s2 := sameNew (o := .tup [.int 0, .int 1, .int 0]) (Same.refl H1) nt1
      have ht1 : upd H1 t1 (.tup [.int 0, .int 1, .int 0]) t1 = some (.tup [.int 0, .int 1, .int 0]) := upd_same
      generalize upd H1 t1 (.tup [.int 0, .int 1, .int 0]) = H2 at s2 ht1 ⊢
      refine ⟨_, rfl, _, _, rfl, rfl, by show 3 ≤ sizeLine; decide, fun t2 nt2 => ?_⟩
      have s3 := sameNew (o := .tup [.int 0, .int ((n : Nat) + 1), .int 0]) (Same.refl H2) nt2
      have ht2 : upd H2 t2 (.tup [.int 0, .int ((n : Nat) + 1), .int 0]) t2 = some (.tup [.int 0, .int ((n : Nat) + 1), .int 0]) := upd_same
      generalize upd H2 t2 (.tup [.int 0, .int ((n : Nat) + 1), .int 0]) = H3 at s3 ht2 ⊢
      refine ⟨_, rfl, _, rfl, by show 3 ≤ sizeLine; decide, fun t3 nt3 => ?_⟩
      have s4 := sameNew (o := .tup [.int (-1), .int (n : Nat), .int 0]) (Same.refl H3) nt3
      have ht3 : upd H3 t3 (.tup [.int (-1), .int (n : Nat), .int 0]) t3 = some (.tup [.int (-1), .int (n : Nat), .int 0]) := upd_same
      generalize upd H3 t3 (.tup [.int (-1), .int (n : Nat), .int 0]) = H4 at s4 ht3 ⊢
      refine ⟨_, rfl, by show 3 ≤ sizeLine; decide, fun t4 nt4 => ?_⟩
      have s5 := sameNew (o := .tup [.int 0, .int (n : Nat), .int 0]) (Same.refl H4) nt4
      have ht4 : upd H4 t4 (.tup [.int 0, .int (n : Nat), .int 0]) t4 = some (.tup [.int 0, .int (n : Nat), .int 0]) := upd_same
      generalize upd H4 t4 (.tup [.int 0, .int (n : Nat), .int 0]) = H5 at s5 ht4 ⊢
      refine ⟨by show 4 ≤ sizeLine; decide, fun Z nZ => ?_⟩
      have s6 := sameNew (o := .lst [.ref t1, .ref t2, .ref t3, .ref t4]) (Same.refl H5) nZ
      have hZ6 : upd H5 Z (.lst [.ref t1, .ref t2, .ref t3, .ref t4]) Z = some (.lst [.ref t1, .ref t2, .ref t3, .ref t4]) := upd_same
      generalize upd H5 Z (.lst [.ref t1, .ref t2, .ref t3, .ref t4]) = H6 at s6 hZ6 ⊢
      have s16 := (((s2.trans s3).trans s4).trans s5).trans s6
      have b6 := b1.same s16
      have nZ6 := (b1.same (((s2.trans s3).trans s4).trans s5)).nb nZ
      refine ⟨_, rfl, B, L, 4, rfl, b6, by decide, by decide, fun H7 x s7 b7 x0 x1 => ?_⟩
      obtain ⟨u, q, eu, du⟩ : ∃ (u : V) (q : Tri), atI [V.ref t1, .ref t2, .ref t3, .ref t4] x = some u ∧ Dp K H6 u (triD q) := by
        rcases (by omega : x = 0 ∨ x = 1 ∨ x = 2 ∨ x = 3) with e | e | e | e <;> subst e
        · exact ⟨_, _, rfl, dp_tri ((((s3.trans s4).trans s5).trans s6) _ _ ht1)⟩
        · exact ⟨_, _, rfl, dp_tri (((s4.trans s5).trans s6) _ _ ht2)⟩
        · exact ⟨_, _, rfl, dp_tri ((s5.trans s6) _ _ ht3)⟩
        · exact ⟨_, _, rfl, dp_tri (s6 _ _ ht4)⟩
      have du7 := dp_x b6 s7 _ (tl q) du
      refine ⟨Z, _, _, _, rfl, rfl, SqL.of (s7 _ _ nZ6.1 nZ6.2 hZ6), eu, ?_⟩
      have s07 := (s1.trans (SameX.of s16)).trans s7
      refine ⟨by show 1 ≤ sizeLine; decide, fun Y nY => ?_⟩
      have s8 := sameNew (o := .lst [u]) (Same.refl H7) nY
      have hY8 : upd H7 Y (.lst [u]) Y = some (.lst [u]) := upd_same
      generalize upd H7 Y (.lst [u]) = H8 at s8 hY8 ⊢
      have hR8 := s8 _ _ (s07 _ _ nR.1 nR.2 hR)
      refine ⟨R, Y, _, _, rfl, rfl, hR8, hY8, by rw [List.length_singleton, lx, sizeLine_eq]; omega, fun W nW => ?_⟩
      have nW0 : H W = none := (s07.trans (SameX.of s8)).free hb nW (b7.same s8)
      have s9 := sameNew (o := .lst (xs ++ [u])) (Same.refl H8) nW
      have hW9 : upd H8 W (.lst (xs ++ [u])) W = some (.lst (xs ++ [u])) := upd_same
      generalize upd H8 W (.lst (xs ++ [u])) = H9 at s9 hW9 ⊢
      have s09 := s07.trans (SameX.of (s8.trans s9))
      have dx9 := dpAll_x hb s09 _ (tri_noL es) dx
      refine k H9 W _ (es ++ [q]) s09 (b7.same (s8.trans s9)) nW0 hW9 ?_ (by rw [List.length_append, List.length_singleton]; omega)
      rw [List.map_append]
      exact dpApp dx9 (.cons (dp_same (s8.trans s9) _ du7) .nil)
    · rintro H1 ⟨⟨s1, b1⟩, e0⟩
      have lpos : 1 ≤ es.length := List.length_pos_iff.mpr e0
      have hR1 := s1 _ _ nR.1 nR.2 hR
      refine ⟨_, rfl, _, rfl, R, _, rfl, .inl (SqL.of hR1), B, L, _, rfl, b1, by omega, by omega, fun H2 x s2 b2 x0 x1 => ?_⟩
      obtain ⟨i, rfl⟩ : ∃ i : Nat, x = (i : Int) := ⟨x.toNat, by omega⟩
      have hi : i < es.length := by omega
      obtain ⟨⟨qb, qe, qz⟩, eq⟩ : ∃ q, es[i]? = some q := ⟨_, List.getElem?_eq_getElem hi⟩
      have s02 := s1.trans s2
      have hR2 := s2 _ _ nR.1 nR.2 hR1
      have dx2 := dpAll_x hb s02 _ (tri_noL es) dx
      obtain ⟨v, ev, hv⟩ := dpGet' dx2 (show (es.map triD)[i]? = some (triD (qb, qe, qz)) by rw [List.getElem?_map, eq]; rfl)
      refine ⟨_, rfl, _, rfl, R, _, _, v, rfl, rfl, SqL.of hR2, atI_nat ev, ?_⟩
      have hv0 := hv
      cases hv with
      | @tup t zs _ hT hI1 =>
      cases hI1 with
      | cons h1 hI1 =>
      cases hI1 with
      | cons h2 hI1 =>
      cases hI1 with
      | cons h3 hI1 =>
      cases hI1
      cases h1
      cases h2
      cases h3
      refine ⟨t, _, rfl, hT, rfl, _, _, rfl, _, _, rfl, _, _, rfl, rfl, ?_⟩
      dsimp only [List.set]
      refine ⟨_, rfl, B, L, 9, rfl, b2, by decide, by decide, fun H3 y s3 b3 y0 y1 => ?_⟩
      refine ⟨_, _, rfl, rfl, _, _, rfl, rfl, ⟨by decide, by decide, by decide⟩, by show 4 ≤ sizeLine; decide, fun M nM => ?_⟩
      have nM3 := b3.nb nM
      have s4 := sameNew (o := .lst [.int 1, .int 2, .int (1 + y), .int (10 ^ (18 : Int).toNat)]) (Same.refl H3) nM
      have hM4 : upd H3 M (.lst [.int 1, .int 2, .int (1 + y), .int (10 ^ (18 : Int).toNat)]) M = some (.lst [.int 1, .int 2, .int (1 + y), .int (10 ^ (18 : Int).toNat)]) := upd_same
      generalize upd H3 M (.lst [.int 1, .int 2, .int (1 + y), .int (10 ^ (18 : Int).toNat)]) = H4 at s4 hM4 ⊢
      have b4 := b3.same s4
      have s04 := (s02.trans s3).trans (SameX.of s4)
      refine ⟨_, rfl, B, L, 4, rfl, b4, by decide, by decide, fun H5 z s5 b5 z0 z1 => ?_⟩
      obtain ⟨m, em⟩ : ∃ m : Int, atI [V.int 1, .int 2, .int (1 + y), .int (10 ^ (18 : Int).toNat)] z = some (.int m) := by
        rcases (by omega : z = 0 ∨ z = 1 ∨ z = 2 ∨ z = 3) with e | e | e | e <;> subst e <;> exact ⟨_, rfl⟩
      refine ⟨M, _, _, _, rfl, rfl, SqL.of (s5 _ _ nM3.1 nM3.2 hM4), em, ?_⟩
      have s05 := s04.trans s5
      refine ⟨_, rfl, B, L, 6, rfl, b5, by decide, by decide, fun H6 wy s6 b6 w0 w1 => ?_⟩
      have s06 := s05.trans s6
      have hR6 := s06 _ _ nR.1 nR.2 hR
      have dx6 := dpAll_x hb s06 _ (tri_noL es) dx
      have hv6 := dp_x b2 ((s3.trans (SameX.of s4)).trans (s5.trans s6)) _ (tl _) hv0
      refine ⟨_, rfl, rfl, _, rfl, ?_⟩
      by_cases c : wy = 5
      · subst c
        refine iteT' (decide_eq_true rfl) ?_
        refine ⟨_, rfl, R, rfl, ⟨_, SqL.of hR6⟩, fun DD hD => ?_⟩
        have nD0 : H DD = none := s06.free hb hD b6
        refine lc_list (K := K) (a := R) (xs := xs) (fun j H' => Same H6 H' ∧ ∃ zs, H' DD = some (.lst zs) ∧ DpAll K H' zs (((es.take j).map fun q : Tri => (q.1, q.2.1, q.2.2 / 2)).map triD))
          ⟨sameNew (Same.refl H6) hD, [], upd_same, .nil⟩ (fun j H' _ h => SqL.of (h.1 _ _ hR6)) ?_ ?_
        · rintro j y7 H7 hy ⟨s7, zs, hD7, d7⟩
          obtain ⟨d, ed, hd⟩ := dpGet dx6 hy
          rw [List.getElem?_map] at ed
          obtain ⟨q, ex, rfl⟩ : ∃ q, es[j]? = some q ∧ d = triD q := by
            cases r : es[j]? with
            | none => rw [r] at ed; cases ed
            | some x => rw [r] at ed; exact ⟨x, rfl, (Option.some.inj ed).symm⟩
          have hd1 := dp_same s7 _ hd
          cases hd1 with
          | @tup t7 zs7 _ hT7 hI7 =>
          cases hI7 with
          | cons h1 hI7 =>
          cases hI7 with
          | cons h2 hI7 =>
          cases hI7 with
          | cons h3 hI7 =>
          cases hI7
          cases h1
          cases h2
          cases h3
          refine ⟨t7, _, rfl, hT7, rfl, _, _, rfl, _, _, rfl, _, _, rfl, rfl, rfl, ?_⟩
          refine ⟨_, rfl, _, rfl, _, rfl, _, _, rfl, rfl, ⟨by decide, by decide⟩, by show 3 ≤ sizeLine; decide, fun t8 nt8 => ?_⟩
          have s8 := sameNew (o := .tup [.int q.1, .int q.2.1, .int (q.2.2 / 2)]) (Same.refl H7) nt8
          have ht8 : upd H7 t8 (.tup [.int q.1, .int q.2.1, .int (q.2.2 / 2)]) t8 = some (.tup [.int q.1, .int q.2.1, .int (q.2.2 / 2)]) := upd_same
          generalize upd H7 t8 (.tup [.int q.1, .int q.2.1, .int (q.2.2 / 2)]) = H8 at s8 ht8 ⊢
          have hD8 := s8 _ _ hD7
          have lz := dpLen d7
          rw [List.length_map, List.length_map, List.length_take] at lz
          refine ⟨_, hD8, small1000 (by omega), fun b' o z => (upd_ne (ne_of_none z hD)).trans (s8 _ _ (s7 _ _ z)), zs ++ [.ref t8], upd_same, ?_⟩
          have nl := tri_noL (((es.take (j + 1)).map fun q : Tri => (q.1, q.2.1, q.2.2 / 2)))
          rw [take_snoc9 ex, List.map_append, List.map_append] at nl ⊢
          exact dpAll_upd hD8 _ nl (dpApp (dpAll_same s8 _ d7) (.cons (dp_tri ht8) .nil))
        · rintro H7 ⟨s7, zs, hD7, d7⟩
          rw [lx, List.take_length] at d7
          exact k H7 DD zs _ (s06.trans (SameX.of s7)) (b6.same s7) nD0 hD7 d7 (by rw [List.length_map]; omega)
      · refine iteF' (decide_eq_false fun z => c (V.int.inj z)) ?_
        refine ⟨_, rfl, _, rfl, _, rfl, _, rfl, _, _, rfl, rfl, by show 3 ≤ sizeLine; decide, fun t0 nt0 => ?_⟩
        have g1 := sameNew (o := .tup [.int qb, .int qe, .int (qz - m)]) (Same.refl H6) nt0
        have hu0 : upd H6 t0 (.tup [.int qb, .int qe, .int (qz - m)]) t0 = some (.tup [.int qb, .int qe, .int (qz - m)]) := upd_same
        generalize upd H6 t0 (.tup [.int qb, .int qe, .int (qz - m)]) = G1 at g1 hu0 ⊢
        refine ⟨by show 1 ≤ sizeLine; decide, fun Z0 nZ0 => ?_⟩
        have g2 := sameNew (o := .lst [.ref t0]) (Same.refl G1) nZ0
        have hz0 : upd G1 Z0 (.lst [.ref t0]) Z0 = some (.lst [.ref t0]) := upd_same
        generalize upd G1 Z0 (.lst [.ref t0]) = G2 at g2 hz0 ⊢
        refine ⟨_, rfl, _, rfl, _, rfl, _, rfl, _, _, rfl, rfl, by show 3 ≤ sizeLine; decide, fun t1 nt1 => ?_⟩
        have g3 := sameNew (o := .tup [.int qb, .int qe, .int (qz + m)]) (Same.refl G2) nt1
        have hu1 : upd G2 t1 (.tup [.int qb, .int qe, .int (qz + m)]) t1 = some (.tup [.int qb, .int qe, .int (qz + m)]) := upd_same
        generalize upd G2 t1 (.tup [.int qb, .int qe, .int (qz + m)]) = G3 at g3 hu1 ⊢
        refine ⟨by show 1 ≤ sizeLine; decide, fun Z1 nZ1 => ?_⟩
        have g4 := sameNew (o := .lst [.ref t1]) (Same.refl G3) nZ1
        have hz1 : upd G3 Z1 (.lst [.ref t1]) Z1 = some (.lst [.ref t1]) := upd_same
        generalize upd G3 Z1 (.lst [.ref t1]) = G4 at g4 hz1 ⊢
        refine ⟨_, rfl, _, rfl, by show 3 ≤ sizeLine; decide, fun t2 nt2 => ?_⟩
        have g5 := sameNew (o := .tup [.int qb, .int qe, .int 0]) (Same.refl G4) nt2
        have hu2 : upd G4 t2 (.tup [.int qb, .int qe, .int 0]) t2 = some (.tup [.int qb, .int qe, .int 0]) := upd_same
        generalize upd G4 t2 (.tup [.int qb, .int qe, .int 0]) = G5 at g5 hu2 ⊢
        refine ⟨by show 1 ≤ sizeLine; decide, fun Z2 nZ2 => ?_⟩
        have g6 := sameNew (o := .lst [.ref t2]) (Same.refl G5) nZ2
        have hz2 : upd G5 Z2 (.lst [.ref t2]) Z2 = some (.lst [.ref t2]) := upd_same
        generalize upd G5 Z2 (.lst [.ref t2]) = G6 at g6 hz2 ⊢
        refine ⟨Nat.zero_le _, fun Z3 nZ3 => ?_⟩
        have g7 := sameNew (o := .lst []) (Same.refl G6) nZ3
        have hz3 : upd G6 Z3 (.lst []) Z3 = some (.lst []) := upd_same
        generalize upd G6 Z3 (.lst []) = G7 at g7 hz3 ⊢
        have g16 := ((g1.trans g2).trans (g3.trans g4)).trans ((g5.trans g6).trans g7)
        refine ⟨_, rfl, _, rfl, R, _, _, _, rfl, rfl, SqL.of (g16 _ _ hR6), atI_nat ev, ?_⟩
        refine ⟨_, rfl, _, rfl, R, _, _, _, rfl, rfl, SqL.of (g16 _ _ hR6), atI_nat ev, ?_⟩
        refine ⟨by show 2 ≤ sizeLine; decide, fun Z4 nZ4 => ?_⟩
        have g8 := sameNew (o := .lst [.ref t, .ref t]) (Same.refl G7) nZ4
        have hz4 : upd G7 Z4 (.lst [.ref t, .ref t]) Z4 = some (.lst [.ref t, .ref t]) := upd_same
        generalize upd G7 Z4 (.lst [.ref t, .ref t]) = G8 at g8 hz4 ⊢
        refine ⟨by show 5 ≤ sizeLine; decide, fun Zs nZs => ?_⟩
        have g9 := sameNew (o := .lst [.ref Z0, .ref Z1, .ref Z2, .ref Z3, .ref Z4]) (Same.refl G8) nZs
        have hzs : upd G8 Zs (.lst [.ref Z0, .ref Z1, .ref Z2, .ref Z3, .ref Z4]) Zs = some (.lst [.ref Z0, .ref Z1, .ref Z2, .ref Z3, .ref Z4]) := upd_same
        generalize upd G8 Zs (.lst [.ref Z0, .ref Z1, .ref Z2, .ref Z3, .ref Z4]) = G9 at g9 hzs ⊢
        have hv9 := dp_same ((g16.trans g8).trans g9) _ hv6
        obtain ⟨Zk, mid, midE, ek, hk, dk, lk⟩ : ∃ (Zk : Addr) (mid : List V) (midE : List Tri), atI [V.ref Z0, .ref Z1, .ref Z2, .ref Z3, .ref Z4] wy = some (.ref Zk) ∧ G9 Zk = some (.lst mid) ∧ DpAll K G9 mid (midE.map triD) ∧ midE.length ≤ 2 := by
          rcases (by omega : wy = 0 ∨ wy = 1 ∨ wy = 2 ∨ wy = 3 ∨ wy = 4) with e | e | e | e | e <;> subst e
          · exact ⟨Z0, [.ref t0], [(qb, qe, qz - m)], rfl, ((((g3.trans g4).trans ((g5.trans g6).trans g7)).trans g8).trans g9) _ _ hz0, .cons (dp_tri (((((g2.trans (g3.trans g4)).trans ((g5.trans g6).trans g7)).trans g8).trans g9) _ _ hu0)) .nil, by simp⟩
          · exact ⟨Z1, [.ref t1], [(qb, qe, qz + m)], rfl, ((((g5.trans g6).trans g7).trans g8).trans g9) _ _ hz1, .cons (dp_tri (((((g4.trans g5).trans g6).trans g7).trans (g8.trans g9)) _ _ hu1)) .nil, by simp⟩
          · exact ⟨Z2, [.ref t2], [(qb, qe, 0)], rfl, ((g7.trans g8).trans g9) _ _ hz2, .cons (dp_tri (((g6.trans g7).trans (g8.trans g9)) _ _ hu2)) .nil, by simp⟩
          · exact ⟨Z3, [], [], rfl, (g8.trans g9) _ _ hz3, .nil, by simp⟩
          · exact ⟨Z4, [.ref t, .ref t], [(qb, qe, qz), (qb, qe, qz)], rfl, g9 _ _ hz4, .cons hv9 (.cons hv9 .nil), by simp⟩
        have g09 := (g16.trans g8).trans g9
        refine ⟨_, rfl, _, rfl, _, rfl, R, xs, rfl, SqL.of (g09 _ _ hR6), fun p4 np4 => ?_⟩
        rw [cutV_to9]
        have f1 := sameNew (o := .lst (xs.take i)) (Same.refl G9) np4
        have hp4 : upd G9 p4 (.lst (xs.take i)) p4 = some (.lst (xs.take i)) := upd_same
        generalize upd G9 p4 (.lst (xs.take i)) = F1 at f1 hp4 ⊢
        refine ⟨_, rfl, _, rfl, Zs, _, _, _, rfl, rfl, SqL.of (f1 _ _ hzs), ek, ?_⟩
        refine ⟨p4, Zk, _, _, rfl, rfl, hp4, f1 _ _ hk, ?_, fun Y nY => ?_⟩
        · have := dpLen dk
          rw [List.length_map] at this
          rw [List.length_take, sizeLine_eq]
          omega
        have f2 := sameNew (o := .lst (xs.take i ++ mid)) (Same.refl F1) nY
        have hY : upd F1 Y (.lst (xs.take i ++ mid)) Y = some (.lst (xs.take i ++ mid)) := upd_same
        generalize upd F1 Y (.lst (xs.take i ++ mid)) = F2 at f2 hY ⊢
        refine ⟨_, rfl, _, rfl, _, _, rfl, rfl, _, rfl, R, xs, rfl, SqL.of ((f1.trans f2) _ _ (g09 _ _ hR6)), fun p8 np8 => ?_⟩
        have hcut : cutV xs (some ((i : Int) + 1)) none = xs.drop (i + 1) := cutV_from9 (n := 1) (by omega)
        rw [hcut]
        have f3 := sameNew (o := .lst (xs.drop (i + 1))) (Same.refl F2) np8
        have hp8 : upd F2 p8 (.lst (xs.drop (i + 1))) p8 = some (.lst (xs.drop (i + 1))) := upd_same
        generalize upd F2 p8 (.lst (xs.drop (i + 1))) = F3 at f3 hp8 ⊢
        have lm := dpLen dk
        rw [List.length_map] at lm
        refine ⟨Y, p8, _, _, rfl, rfl, f3 _ _ hY, hp8, ?_, fun W nW => ?_⟩
        · rw [List.length_append, List.length_take, List.length_drop, sizeLine_eq]
          omega
        have f03 := (g09.trans (f1.trans f2)).trans f3
        have nW0 : H W = none := (s06.trans (SameX.of f03)).free hb nW (b6.same f03)
        have f4 := sameNew (o := .lst (xs.take i ++ mid ++ xs.drop (i + 1))) (Same.refl F3) nW
        have hW : upd F3 W (.lst (xs.take i ++ mid ++ xs.drop (i + 1))) W = some (.lst (xs.take i ++ mid ++ xs.drop (i + 1))) := upd_same
        generalize upd F3 W (.lst (xs.take i ++ mid ++ xs.drop (i + 1))) = F4 at f4 hW ⊢
        have s6F := f03.trans f4
        obtain ⟨k1, _⟩ := dpAll_tk dx6 i
        obtain ⟨_, k2⟩ := dpAll_tk dx6 (i + 1)
        refine k F4 W _ (es.take i ++ midE ++ es.drop (i + 1)) (s06.trans (SameX.of s6F)) (b6.same s6F) nW0 hW ?_ ?_
        · rw [List.map_append, List.map_append, List.map_take, List.map_drop]
          exact dpApp (dpApp (dpAll_same s6F _ k1) (dpAll_same ((f1.trans f2).trans (f3.trans f4)) _ dk)) (dpAll_same s6F _ k2)
        · rw [List.length_append, List.length_append, List.length_take, List.length_drop]
          omega
end
end RS
set_option Elab.async false
set_option maxRecDepth 100000
set_option maxHeartbeats 4000000
namespace LM
open PySem PySem.Spec PyProof.Rows L2
/-! ### defs that are called within an except suite, and raise nothing -/
/-- the handled exception, its class, its dict -/
abbrev SpW := Addr → Value → Option Addr → Sp
structure FnW (P : Program) (w : World) (K : PySem.W.Frag) (mg : Str → Option Value) (base : Heap) (k : Nat) (f : Addr) (fd : FuncData) (ps : List Str) (sp : SpW) : Prop where
  len : ∀ a cls d vs H Q E, sp a cls d vs H Q E → vs.length = ps.length
  run : ∀ (A : Around) (outer : List Env) (s : Shared) (H : Hp) (args : Args) (us : List Value) (vs : List V) (Q : VK) (E : XK) (p : Addr × Obj) (cls : Value) (d : Option Addr), L2H.RoomH k A → L2H.PinOk outer H s p → Zc cls d p.2 → (∃ us, p.2.data = .fields us) → Env0 P w K mg base A outer s H → BindsTo s fd args (ps.zip us) → Vals vs us → sp p.1 cls d vs H Q E →
    codeAny (model P w) A (.call (.ref f) args) (CR C8.CX0 outer P w H s Q E) s
structure CalW (P : Program) (w : World) (K : PySem.W.Frag) (mg : Str → Option Value) (base : Heap) (k : Nat) (x : Str) (ps : List Str) (sp : SpW) : Prop where
  ex : ∃ (f : Addr) (fd : FuncData), FnW P w K mg base k f fd ps sp ∧ mg x = some (.ref f) ∧ PySem.W.keepIn K (.ref f) = true ∧ Binds K fd ps []
section
variable {P : Program} {w : World} {K : PySem.W.Frag} {mg : Str → Option Value} {base : Heap}
theorem def_okW {x : Str} {st : Stmt} {c : Addr} {N ps : List Str} {k : Nat} {sp : SpW} (D : RS.DefAt K mg x st c) (S : FnScope N ps (defScope st)) (len : ∀ a cls d vs H Q E, sp a cls d vs H Q E → vs.length = ps.length)
    (hb : ∀ (kV doc pm : Value) (an : Option Addr) (cdv ct : Value) (us : List Value), us.length = ps.length → bindArgs (PySem.W.fnOf x x (defArgs st) (defBody st) (defScope st) .none kV doc pm an cdv ct) ⟨us, []⟩ = pure (ps.zip us))
    (hbody : ∀ (f : Addr) (A : Around) (outer : List Env) (s : Shared) (H : Hp) (vs : List V) (Q : VK) (E : XK) (p : Addr × Obj) (cls : Value) (d : Option Addr), L2H.RoomH k (A.deeper (envOfC x (defScope st) s.heap.objs.size f (.ref c))) → Zc cls d p.2 → (∃ us, p.2.data = .fields us) → sp p.1 cls d vs H Q E →
      ∃ t, PSs (L2H.cxH C8.CX0 P w K mg base N x (defScope st) f (.ref c) A outer s H E p) (defBody st) t ∧ t { nx := fun _ H' => Q .non H', rt := Q } (L2.start N vs) H) :
    CalW P w K mg base (k + 1) x ps sp := by
  obtain ⟨f, oc, od, kV, doc, pm, an, ct, osl, hm, lk, hcd, kp⟩ := D.ex
  refine ⟨f, _, ⟨len, fun A outer s H args us vs Q E p cls d hr hpin hz hf e0 bd r hsp => ?_⟩, hm, kp, .all (hb kV doc pm an (.ref c) ct)⟩
  have hl := len _ _ _ _ _ _ _ hsp
  have KX : K.In s.heap := e0.mod.kin.keeps fun b o e => (e0.bs b o e).1
  have lim : s.heap.NoLimit := e0.mod.nolimit.keeps fun b o e => (e0.bs b o e).1
  have kd : ∀ y ∈ ps.zip us, (defScope st).names.lookup y.1 = some .local ∨ ((defScope st).names.lookup y.1 = some .cell ∧ ((cellsFrom (s.heap.objs.size + 1) (defScope st).names []).lookup y.1).isSome = true) := fun ⟨n, v⟩ hy => by
    rcases S.par n (List.of_mem_zip hy).1 with q | q
    · exact .inl q
    · exact .inr ⟨q, PySem.W.cellsFrom_some _ _ _ (.inl q)⟩
  refine codeAny_call_function hr.depth (KX _ _ lk) rfl S.co S.gen rfl (PySem.W.codeRec_of KX hcd) (bd _ _ _ _ ?_)
  refine wpAny_newFunctionEnv_cells S.kind kd fun env he s1 ic => ?_
  subst he
  refine ⟨lim.keeps ic.toInCall.keep, codeAny_func ?_⟩
  obtain ⟨t, ht, hq⟩ := hbody f A outer s H vs Q E p cls d (hr.deeper _) hz hf hsp
  refine wpAny_mono (ht.run [] s1 (L2.start N vs) H _ (L2H.inv_startH S hpin e0 hl r ic) hq) (fun fl s' hs => ?_) fun e s' hs => hs
  cases fl with
  | ret u =>
    obtain ⟨v, σ', H', J, rv, q⟩ := hs
    exact ⟨v, H', J.os, J.bare, J.base, J.hok, rv, q⟩
  | next =>
    obtain ⟨σ', H', J, q⟩ := hs
    exact ⟨.non, H', J.os, J.bare, J.base, J.hok, rfl, q⟩
  | brk =>
    obtain ⟨_, _, _, q⟩ := hs
    exact False.elim q
  | cont =>
    obtain ⟨_, _, _, q⟩ := hs
    exact False.elim q
end
section
variable {X : Cx} {k j : Nat} {ps : List Str} {sp : SpW} {x : Str} {q pos : Pos} {e : Expr} {es : List Expr} {t : TA}
/-- such a def is called in the suite that handles p -/
def tCallW (sp : SpW) (a : Addr) (cls : Value) (d : Option Addr) (t : TA) : TE := fun σ H Q => t σ H fun vs H1 => sp a cls d vs H1 Q C8.E0
theorem pe_cW {a : Addr} {oe : Obj} {cls : Value} {d : Option Addr} (c : CalW X.prog X.w X.K X.mg X.base k x ps sp) (hr : L2H.RoomH j X.A) (hk : k ≤ j) (hp : (a, oe) ∈ X.pn) (hz : Zc cls d oe) (hf : ∃ us, oe.data = .fields us) (hg : Gl X x) (ha : PA X (e :: es) t) (hdb : (x == ("__debug__" : Str)) = false := by decide)
    (he : starEach (e :: es) X.env = (false, eval e X.env) :: starEach es X.env := by rfl) (hpl : (backTo pos (starEach es X.env)).any (·.1) = false := by rfl) :
    PE X (.Call (.Name x q) (e :: es) [] pos) (tCallW sp a cls d t) := by
  obtain ⟨f, fd, F, hm, kp, hb⟩ := c.ex
  refine ⟨fun pins s σ H Q I h => ?_⟩
  refine wpAny_Call_Name_kw (ld_glob I hg hm ?_ hdb)
  refine PySem.W.callWith_K (h₀ := X.base) I.ok.mod.kin kp (thn (ha.run pos pins s σ H _ I h) fun us s1 ⟨vs, H1, I1, r, q⟩ => ⟨I1.kIn, ?_⟩) he hpl
  have hl : us.length = ps.length := by rw [← r.length]; exact F.len _ _ _ _ _ _ _ q
  have b := hb s1 us I1.kIn (by rw [List.append_nil]; exact hl)
  rw [List.append_nil] at b
  obtain ⟨h1, h2, h3, h4, h5⟩ := I1.pin (a, oe) (List.mem_append_left _ hp)
  have hpin : L2H.PinOk X.stack H1 s1 (a, oe) := ⟨h1, h2, fun hm => (List.mem_cons.mp (I1.stkSub a hm)).elim h3 h4, h5⟩
  refine wpAny_call (codeAny_mono (F.run X.A X.stack s1 H1 ⟨us, []⟩ us vs Q _ (a, oe) cls d (hr.mono hk) hpin hz hf I1.env0 b r q) fun r s' hq => ?_)
  cases r with
  | error e => exact False.elim hq
  | ok fl =>
    cases fl with
    | ret u => exact I1.after hq
    | next => exact False.elim hq
    | brk => exact False.elim hq
    | cont => exact False.elim hq
/-! ### isinstance of the handled exception, with or without a dict -/
def DictAt (d : Option Addr) (H : Hp) : Prop := ∀ dd, d = some dd → ∃ fs, H dd = some (.xd fs)
def rIsW (K : PySem.W.Frag) (D a : Addr) (d : Option Addr) : List V → Hp → VK → Prop := fun xs H Q => ∃ (c : V) (cv : Value) (b : Bool), xs = [.ref a, c] ∧ (∀ u, RelV c u → u = cv) ∧ DictAt d H ∧ PySem.W.kitOne K (.ref D) cv = some b ∧ Q (.bl b) H
theorem call_isW {p : Addr × Obj} {D : Addr} {d : Option Addr} (C : ExcC X.K D) (hp : p ∈ X.pn) (hz : Zc (.ref D) d p.2) (hf : ∃ vs, p.2.data = .fields vs) : CallR X (.builtin "isinstance") (rIsW X.K D p.1 d) := by
  intro pins s σ H xs us Q I r h
  obtain ⟨c, cv, b, rfl, hcv, hd, e, q⟩ := h
  obtain ⟨a, oe⟩ := p
  cases r with
  | cons rx rr =>
    cases rr with
    | cons rt rr =>
      cases rr
      cases rx
      have ec := hcv _ rt
      subst ec
      obtain ⟨hget, _⟩ := I.pin (a, oe) (List.mem_append_left _ hp)
      obtain ⟨vs, hv⟩ := hf
      obtain ⟨cd, hcd, _⟩ := PySem.W.any_some C.hd
      have J : ∃ od : Option Obj, PySem.W.InstAt s.heap a oe D od := by
        obtain ⟨oc, ody, oda, osl⟩ := oe
        obtain ⟨h1, h2⟩ := hz
        dsimp only at h1 h2 hv
        subst h1 h2 hv
        cases ody with
        | none => exact ⟨none, hget, rfl, rfl, trivial⟩
        | some dd =>
          obtain ⟨fs, hfs⟩ := hd dd rfl
          obtain ⟨mA, ⟨o, es, ep, ho, _⟩, _⟩ := (show ObjOk X.prog X.w H s.heap dd (.xd fs) from I.hok dd _ hfs)
          exact ⟨some o, hget, rfl, rfl, ho⟩
      obtain ⟨od, J⟩ := J
      exact PySem.W.kia_one (PySem.W.kitx_exc (od := od) (ox := oe) (by rw [hcd]; rfl) C.hg C.hk C.hs C.ha C.hn C.ht C.hm) I.kIn J e (fun z => nomatch z) fun tk => ⟨.bl b, H, I.kept (t' := tk) fun _ _ z => z, rfl, q⟩
/-- err.f, the class known by the reading -/
def tXfA (K : PySem.W.Frag) (a : Addr) (cls : Value) (d : Option Addr) (f : Str) (te : TE) : TE := fun σ H Q => ∃ C : Addr, XfC K C ∧ PySem.W.findIn K (.ref C) f = some none ∧ tXf a cls d C f te σ H Q
theorem pe_xfA {a : Addr} {oe : Obj} {cls : Value} {d : Option Addr} {pn : List (Addr × Obj)} {e : Expr} {te : TE} {pos : Pos} {n : Str} (hz : Zc cls d oe) (hf : ∃ vs, oe.data = .fields vs) (he : PE (X.suite a ((a, oe) :: pn)) e te) (hb : attributeBase e n X.env (eval e X.env) = eval e X.env := by rfl) :
    PE (X.suite a ((a, oe) :: pn)) (.Attribute e n pos) (tXfA X.K a cls d n te) :=
  ⟨fun pins s σ H Q I ⟨_, T, hno, h⟩ => (pe_xf T hno hz hf he hb).run pins s σ H Q I h⟩
/-! ### list.count, flat items -/
def rCountF (K : PySem.W.Frag) : V → List V → Hp → VK → Prop := fun x xs H Q => ∃ (a : Addr) (ys : List V) (y : V), x = V.ref a ∧ xs = [y] ∧ SqL K H a ys ∧ flatV y = true ∧ ys.all flatV = true ∧ Q (.int ((ys.countP fun z => eqV z y : Nat) : Int)) H
theorem count_flat {y : V} : ∀ {ys : List V} {us : List Value}, Vals ys us → ys.all flatV = true → us.countP (eqU y) = ys.countP fun z => eqV z y
  | _, _, .nil, _ => rfl
  | z :: ys, u :: us, .cons r t, f => by
    rw [List.all_cons, Bool.and_eq_true] at f
    rw [List.countP_cons, List.countP_cons, eqU_of r f.1, count_flat t f.2]
theorem mt_countF : MtR X "list.count" (rCountF X.K) := by
  intro pins s σ H x xs v us Q I rx rxs h
  obtain ⟨a, ys, y, rfl, rfl, hs, fy, fys, q⟩ := h
  cases rx
  cases rxs with
  | cons ry rt =>
    rename_i uy ut
    cases rt
    obtain ⟨its, rv, ⟨⟨cls, dd, data, sl⟩, n, ho, hc, hdn, hd⟩, hlen⟩ := I.list hs
    simp only at hc hd
    subst hc hd
    refine call_meets PySem.F.slot_list_count ⟨_, ho, rfl⟩ PySem.F.entry_list_count (PySem.F.args_list_count_2 _ _) (SeqAt.list_countAt a its.toArray n dd sl uy (eqU y)) ⟨ho, fun u' hu' => mem_eqAt ry fy rv fys u' (by simpa using hu'), ?_⟩
    have ec : its.toArray.toList.countP (eqU y) = ys.countP fun z => eqV z y := count_flat rv fys
    refine ⟨.int ((ys.countP fun z => eqV z y : Nat) : Int), H, I.tok _, ⟨s.toks, ?_⟩, q⟩
    show Value.int ((its.toArray.toList.countP (eqU y) : Nat) : Int) s.toks = _
    rw [ec]
end
end LM
set_option Elab.async false
set_option maxRecDepth 100000
set_option maxHeartbeats 4000000
set_option pp.maxSteps 400
namespace RS
open PySem PySem.Spec PyProof.Rows L2 GX LM
/-! ### the law's reading of errors -/
def nm15 : List Str := ["BadKinds", "BadOrder", "BadRows", "BadRuns", "BadRoom", "BadLengths", "BadPlan", "BadPaper", "BadCount", "BadBlock", "Stopped", "Shut", "NotYet", "Empty", "BadText"]
def ysJ (j : Nat) : List V := (List.range 15).map fun i => V.bl (decide (i = j))
theorem ysJ_ok : ∀ j < 15, (ysJ j).all flatV = true ∧ ((ysJ j).countP fun z => eqV z (.bl true)) = 1 ∧ (ysJ j)[j]? = some (.bl true) ∧ ∀ m < j, (ysJ j)[m]? = some (.bl false) := by decide +kernel
theorem nm15_ok : ∀ j < 15, (nm15.map V.str)[j]? = some (.str (nm15.getD j "")) := by decide +kernel
/-- the classes of the errors -/
structure Cls15 (mg : Str → Option Value) (C : Nat → Addr) : Prop where
  g0 : mg "BadKinds" = some (.ref (C 0))
  g1 : mg "BadOrder" = some (.ref (C 1))
  g2 : mg "BadRows" = some (.ref (C 2))
  g3 : mg "BadRuns" = some (.ref (C 3))
  g4 : mg "BadRoom" = some (.ref (C 4))
  g5 : mg "BadLengths" = some (.ref (C 5))
  g6 : mg "BadPlan" = some (.ref (C 6))
  g7 : mg "BadPaper" = some (.ref (C 7))
  g8 : mg "BadCount" = some (.ref (C 8))
  g9 : mg "BadBlock" = some (.ref (C 9))
  g10 : mg "Stopped" = some (.ref (C 10))
  g11 : mg "Shut" = some (.ref (C 11))
  g12 : mg "NotYet" = some (.ref (C 12))
  g13 : mg "Empty" = some (.ref (C 13))
  g14 : mg "BadText" = some (.ref (C 14))
/-- D is the class j, and none of the others -/
structure Own15 (K : PySem.W.Frag) (C : Nat → Addr) (D : Addr) (j : Nat) : Prop where
  lt : j < 15
  exc : ExcC K D
  one : ∀ i, i < 15 → PySem.W.kitOne K (.ref D) (.ref (C i)) = some (decide (i = j))
  ve : PySem.W.kitOne K (.ref D) (.type "ValueError") = some true
theorem dictAt_same {d : Option Addr} {H H' : Hp} (h : DictAt d H) (s : Same H H') : DictAt d H' := fun dd e => by
  obtain ⟨fs, z⟩ := h dd e
  exact ⟨fs, s _ _ z⟩
section
variable {P : Program} {w : World} {K : PySem.W.Frag} {mg : Str → Option Value} {base : Heap}
theorem scClass : FnScope ["_law_e", nKinds, "_law_words"] ["_law_e"] (defScope sClass) := ⟨rfl, rfl, rfl, by decide +kernel, rfl, by decide +kernel, by decide +kernel⟩
def spClass (K : PySem.W.Frag) (C : Nat → Addr) : SpW := fun a cls d vs H Q _ => ∃ (D : Addr) (j : Nat), vs = [.ref a] ∧ cls = .ref D ∧ Own15 K C D j ∧ DictAt d H ∧ ∀ H', Same H H' → Q (.str (nm15.getD j "")) H'
theorem class_ok {c : Addr} {C : Nat → Addr} (DD : DefAt K mg "_law_class" sClass c) (T : Txt K mg) (G : Cls15 mg C) (hve : mg "ValueError" = none) : CalW P w K mg base 1 "_law_class" ["_law_e"] (spClass K C) := by
  have sc := scClass
  refine def_okW DD sc (fun a cls d vs H Q E h => ?_) (fun _ _ _ _ _ _ us hl => match us, hl with | [_], _ => rfl) (fun f A outer s H vs Q E p cls d hr hz hf h => ?_)
  · obtain ⟨D, j, rfl, _⟩ := h
    rfl
  · obtain ⟨D, j, rfl, rfl, O, hd, k⟩ := h
    refine ⟨_, (pss_cons (ps_set (i := 1) sc.nd rfl (Or.inl rfl) (pe_lst (pa_cons (pe_callB (call_isW O.exc List.mem_cons_self hz hf) (by rfl) T.isinstance (by decide +kernel) (pa_cons (pv 0) (pa_cons (pe_glob (v := V.ref (C 0)) (by rfl) G.g0 rfl) pa_nil))) (pa_cons (pe_callB (call_isW O.exc List.mem_cons_self hz hf) (by rfl) T.isinstance (by decide +kernel) (pa_cons (pv 0) (pa_cons (pe_glob (v := V.ref (C 1)) (by rfl) G.g1 rfl) pa_nil))) (pa_cons (pe_callB (call_isW O.exc List.mem_cons_self hz hf) (by rfl) T.isinstance (by decide +kernel) (pa_cons (pv 0) (pa_cons (pe_glob (v := V.ref (C 2)) (by rfl) G.g2 rfl) pa_nil))) (pa_cons (pe_callB (call_isW O.exc List.mem_cons_self hz hf) (by rfl) T.isinstance (by decide +kernel) (pa_cons (pv 0) (pa_cons (pe_glob (v := V.ref (C 3)) (by rfl) G.g3 rfl) pa_nil))) pa_nil)))))) (pss_cons (ps_set (i := 1) sc.nd rfl (Or.inl rfl) (pe_op op_cat (pv 1) (pe_lst (pa_cons (pe_callB (call_isW O.exc List.mem_cons_self hz hf) (by rfl) T.isinstance (by decide +kernel) (pa_cons (pv 0) (pa_cons (pe_glob (v := V.ref (C 4)) (by rfl) G.g4 rfl) pa_nil))) (pa_cons (pe_callB (call_isW O.exc List.mem_cons_self hz hf) (by rfl) T.isinstance (by decide +kernel) (pa_cons (pv 0) (pa_cons (pe_glob (v := V.ref (C 5)) (by rfl) G.g5 rfl) pa_nil))) (pa_cons (pe_callB (call_isW O.exc List.mem_cons_self hz hf) (by rfl) T.isinstance (by decide +kernel) (pa_cons (pv 0) (pa_cons (pe_glob (v := V.ref (C 6)) (by rfl) G.g6 rfl) pa_nil))) (pa_cons (pe_callB (call_isW O.exc List.mem_cons_self hz hf) (by rfl) T.isinstance (by decide +kernel) (pa_cons (pv 0) (pa_cons (pe_glob (v := V.ref (C 7)) (by rfl) G.g7 rfl) pa_nil))) pa_nil))))))) (pss_cons (ps_set (i := 1) sc.nd rfl (Or.inl rfl) (pe_op op_cat (pv 1) (pe_lst (pa_cons (pe_callB (call_isW O.exc List.mem_cons_self hz hf) (by rfl) T.isinstance (by decide +kernel) (pa_cons (pv 0) (pa_cons (pe_glob (v := V.ref (C 8)) (by rfl) G.g8 rfl) pa_nil))) (pa_cons (pe_callB (call_isW O.exc List.mem_cons_self hz hf) (by rfl) T.isinstance (by decide +kernel) (pa_cons (pv 0) (pa_cons (pe_glob (v := V.ref (C 9)) (by rfl) G.g9 rfl) pa_nil))) (pa_cons (pe_callB (call_isW O.exc List.mem_cons_self hz hf) (by rfl) T.isinstance (by decide +kernel) (pa_cons (pv 0) (pa_cons (pe_glob (v := V.ref (C 10)) (by rfl) G.g10 rfl) pa_nil))) (pa_cons (pe_callB (call_isW O.exc List.mem_cons_self hz hf) (by rfl) T.isinstance (by decide +kernel) (pa_cons (pv 0) (pa_cons (pe_glob (v := V.ref (C 11)) (by rfl) G.g11 rfl) pa_nil))) pa_nil))))))) (pss_cons (ps_set (i := 1) sc.nd rfl (Or.inl rfl) (pe_op op_cat (pv 1) (pe_lst (pa_cons (pe_callB (call_isW O.exc List.mem_cons_self hz hf) (by rfl) T.isinstance (by decide +kernel) (pa_cons (pv 0) (pa_cons (pe_glob (v := V.ref (C 12)) (by rfl) G.g12 rfl) pa_nil))) (pa_cons (pe_callB (call_isW O.exc List.mem_cons_self hz hf) (by rfl) T.isinstance (by decide +kernel) (pa_cons (pv 0) (pa_cons (pe_glob (v := V.ref (C 13)) (by rfl) G.g13 rfl) pa_nil))) (pa_cons (pe_callB (call_isW O.exc List.mem_cons_self hz hf) (by rfl) T.isinstance (by decide +kernel) (pa_cons (pv 0) (pa_cons (pe_glob (v := V.ref (C 14)) (by rfl) G.g14 rfl) pa_nil))) pa_nil)))))) (pss_cons (ps_set (i := 2) sc.nd rfl (Or.inl rfl) (pe_lst (pa_cons pe_str (pa_cons pe_str (pa_cons pe_str (pa_cons pe_str (pa_cons pe_str (pa_cons pe_str (pa_cons pe_str (pa_cons pe_str (pa_cons pe_str pa_nil))))))))))) (pss_cons (ps_set (i := 2) sc.nd rfl (Or.inl rfl) (pe_op op_cat (pv 2) (pe_lst (pa_cons pe_str (pa_cons pe_str (pa_cons pe_str (pa_cons pe_str (pa_cons pe_str (pa_cons pe_str pa_nil))))))))) (pss_one (ps_ret (pe_ifExp (pw_and (pt_cmpR op_eq (pe_bm PySem.F.plainAttrs_list PySem.F.slot_list_count PySem.F.type_list_count mt_countF (pv 1) (pa_cons pe_bl pa_nil)) pe_int (nomark _)) (pw_and1 (pt_val (pe_callB (call_isW O.exc List.mem_cons_self hz hf) (by rfl) T.isinstance (by decide +kernel) (pa_cons (pv 0) (pa_cons (pe_bltn (v := V.ty "ValueError") (u := Value.type "ValueError") (by rfl) hve (by decide +kernel) rfl) pa_nil)))))).pt (pe_ix ix_list (pv 2) (pe_bm PySem.F.plainAttrs_list PySem.F.slot_list_index PySem.F.type_list_index mt_index (pv 1) (pa_cons pe_bl pa_nil)) (fun _ _ => rfl)) pe_str))))))))), ?_⟩
    refine ⟨_, rfl, _, _, _, rfl, (fun _ r => r), hd, O.one 0 (by decide), _, rfl, _, _, _, rfl, (fun _ r => r), hd, O.one 1 (by decide), _, rfl, _, _, _, rfl, (fun _ r => r), hd, O.one 2 (by decide), _, rfl, _, _, _, rfl, (fun _ r => r), hd, O.one 3 (by decide), by show 4 ≤ sizeLine; decide, fun k1 h1 => ?_⟩
    have s1 := sameNew (o := .lst [.bl (decide (0 = j)), .bl (decide (1 = j)), .bl (decide (2 = j)), .bl (decide (3 = j))]) (Same.refl H) h1
    have e1 : upd H k1 (.lst [.bl (decide (0 = j)), .bl (decide (1 = j)), .bl (decide (2 = j)), .bl (decide (3 = j))]) k1 = some (.lst [.bl (decide (0 = j)), .bl (decide (1 = j)), .bl (decide (2 = j)), .bl (decide (3 = j))]) := upd_same
    have hd1 := dictAt_same hd s1
    generalize upd H k1 (.lst [.bl (decide (0 = j)), .bl (decide (1 = j)), .bl (decide (2 = j)), .bl (decide (3 = j))]) = H1 at s1 e1 hd1 ⊢
    refine ⟨_, rfl, _, rfl, _, _, _, rfl, (fun _ r => r), hd1, O.one 4 (by decide), _, rfl, _, _, _, rfl, (fun _ r => r), hd1, O.one 5 (by decide), _, rfl, _, _, _, rfl, (fun _ r => r), hd1, O.one 6 (by decide), _, rfl, _, _, _, rfl, (fun _ r => r), hd1, O.one 7 (by decide), by show 4 ≤ sizeLine; decide, fun m2 hm2 => ?_⟩
    have t2 := sameNew (o := .lst [.bl (decide (4 = j)), .bl (decide (5 = j)), .bl (decide (6 = j)), .bl (decide (7 = j))]) (Same.refl H1) hm2
    have f2 : upd H1 m2 (.lst [.bl (decide (4 = j)), .bl (decide (5 = j)), .bl (decide (6 = j)), .bl (decide (7 = j))]) m2 = some (.lst [.bl (decide (4 = j)), .bl (decide (5 = j)), .bl (decide (6 = j)), .bl (decide (7 = j))]) := upd_same
    have e2' := t2 _ _ e1
    generalize upd H1 m2 (.lst [.bl (decide (4 = j)), .bl (decide (5 = j)), .bl (decide (6 = j)), .bl (decide (7 = j))]) = G2 at t2 f2 e2' ⊢
    refine ⟨k1, m2, _, _, rfl, rfl, e2', f2, by show 8 ≤ sizeLine; decide, fun k2 h2 => ?_⟩
    have s2 := sameNew (o := .lst ([.bl (decide (0 = j)), .bl (decide (1 = j)), .bl (decide (2 = j)), .bl (decide (3 = j))] ++ [.bl (decide (4 = j)), .bl (decide (5 = j)), .bl (decide (6 = j)), .bl (decide (7 = j))])) (s1.trans t2) h2
    have e2 : upd G2 k2 (.lst ([.bl (decide (0 = j)), .bl (decide (1 = j)), .bl (decide (2 = j)), .bl (decide (3 = j))] ++ [.bl (decide (4 = j)), .bl (decide (5 = j)), .bl (decide (6 = j)), .bl (decide (7 = j))])) k2 = some (.lst ([.bl (decide (0 = j)), .bl (decide (1 = j)), .bl (decide (2 = j)), .bl (decide (3 = j))] ++ [.bl (decide (4 = j)), .bl (decide (5 = j)), .bl (decide (6 = j)), .bl (decide (7 = j))])) := upd_same
    have hd2 := dictAt_same hd s2
    generalize upd G2 k2 (.lst ([.bl (decide (0 = j)), .bl (decide (1 = j)), .bl (decide (2 = j)), .bl (decide (3 = j))] ++ [.bl (decide (4 = j)), .bl (decide (5 = j)), .bl (decide (6 = j)), .bl (decide (7 = j))])) = H2 at s2 e2 hd2 ⊢
    refine ⟨_, rfl, _, rfl, _, _, _, rfl, (fun _ r => r), hd2, O.one 8 (by decide), _, rfl, _, _, _, rfl, (fun _ r => r), hd2, O.one 9 (by decide), _, rfl, _, _, _, rfl, (fun _ r => r), hd2, O.one 10 (by decide), _, rfl, _, _, _, rfl, (fun _ r => r), hd2, O.one 11 (by decide), by show 4 ≤ sizeLine; decide, fun m3 hm3 => ?_⟩
    have t3 := sameNew (o := .lst [.bl (decide (8 = j)), .bl (decide (9 = j)), .bl (decide (10 = j)), .bl (decide (11 = j))]) (Same.refl H2) hm3
    have f3 : upd H2 m3 (.lst [.bl (decide (8 = j)), .bl (decide (9 = j)), .bl (decide (10 = j)), .bl (decide (11 = j))]) m3 = some (.lst [.bl (decide (8 = j)), .bl (decide (9 = j)), .bl (decide (10 = j)), .bl (decide (11 = j))]) := upd_same
    have e3' := t3 _ _ e2
    generalize upd H2 m3 (.lst [.bl (decide (8 = j)), .bl (decide (9 = j)), .bl (decide (10 = j)), .bl (decide (11 = j))]) = G3 at t3 f3 e3' ⊢
    refine ⟨k2, m3, _, _, rfl, rfl, e3', f3, by show 12 ≤ sizeLine; decide, fun k3 h3 => ?_⟩
    have s3 := sameNew (o := .lst (([.bl (decide (0 = j)), .bl (decide (1 = j)), .bl (decide (2 = j)), .bl (decide (3 = j))] ++ [.bl (decide (4 = j)), .bl (decide (5 = j)), .bl (decide (6 = j)), .bl (decide (7 = j))]) ++ [.bl (decide (8 = j)), .bl (decide (9 = j)), .bl (decide (10 = j)), .bl (decide (11 = j))])) (s2.trans t3) h3
    have e3 : upd G3 k3 (.lst ([.bl (decide (0 = j)), .bl (decide (1 = j)), .bl (decide (2 = j)), .bl (decide (3 = j))] ++ [.bl (decide (4 = j)), .bl (decide (5 = j)), .bl (decide (6 = j)), .bl (decide (7 = j))] ++ [.bl (decide (8 = j)), .bl (decide (9 = j)), .bl (decide (10 = j)), .bl (decide (11 = j))])) k3 = some (.lst ([.bl (decide (0 = j)), .bl (decide (1 = j)), .bl (decide (2 = j)), .bl (decide (3 = j))] ++ [.bl (decide (4 = j)), .bl (decide (5 = j)), .bl (decide (6 = j)), .bl (decide (7 = j))] ++ [.bl (decide (8 = j)), .bl (decide (9 = j)), .bl (decide (10 = j)), .bl (decide (11 = j))])) := upd_same
    have hd3 := dictAt_same hd s3
    generalize upd G3 k3 (.lst ([.bl (decide (0 = j)), .bl (decide (1 = j)), .bl (decide (2 = j)), .bl (decide (3 = j))] ++ [.bl (decide (4 = j)), .bl (decide (5 = j)), .bl (decide (6 = j)), .bl (decide (7 = j))] ++ [.bl (decide (8 = j)), .bl (decide (9 = j)), .bl (decide (10 = j)), .bl (decide (11 = j))])) = H3 at s3 e3 hd3 ⊢
    refine ⟨_, rfl, _, rfl, _, _, _, rfl, (fun _ r => r), hd3, O.one 12 (by decide), _, rfl, _, _, _, rfl, (fun _ r => r), hd3, O.one 13 (by decide), _, rfl, _, _, _, rfl, (fun _ r => r), hd3, O.one 14 (by decide), by show 3 ≤ sizeLine; decide, fun m4 hm4 => ?_⟩
    have t4 := sameNew (o := .lst [.bl (decide (12 = j)), .bl (decide (13 = j)), .bl (decide (14 = j))]) (Same.refl H3) hm4
    have f4 : upd H3 m4 (.lst [.bl (decide (12 = j)), .bl (decide (13 = j)), .bl (decide (14 = j))]) m4 = some (.lst [.bl (decide (12 = j)), .bl (decide (13 = j)), .bl (decide (14 = j))]) := upd_same
    have e4' := t4 _ _ e3
    generalize upd H3 m4 (.lst [.bl (decide (12 = j)), .bl (decide (13 = j)), .bl (decide (14 = j))]) = G4 at t4 f4 e4' ⊢
    refine ⟨k3, m4, _, _, rfl, rfl, e4', f4, by show 15 ≤ sizeLine; decide, fun k4 h4 => ?_⟩
    have s4 := sameNew (o := .lst (([.bl (decide (0 = j)), .bl (decide (1 = j)), .bl (decide (2 = j)), .bl (decide (3 = j))] ++ [.bl (decide (4 = j)), .bl (decide (5 = j)), .bl (decide (6 = j)), .bl (decide (7 = j))] ++ [.bl (decide (8 = j)), .bl (decide (9 = j)), .bl (decide (10 = j)), .bl (decide (11 = j))]) ++ [.bl (decide (12 = j)), .bl (decide (13 = j)), .bl (decide (14 = j))])) (s3.trans t4) h4
    have e4 : upd G4 k4 (.lst ([.bl (decide (0 = j)), .bl (decide (1 = j)), .bl (decide (2 = j)), .bl (decide (3 = j))] ++ [.bl (decide (4 = j)), .bl (decide (5 = j)), .bl (decide (6 = j)), .bl (decide (7 = j))] ++ [.bl (decide (8 = j)), .bl (decide (9 = j)), .bl (decide (10 = j)), .bl (decide (11 = j))] ++ [.bl (decide (12 = j)), .bl (decide (13 = j)), .bl (decide (14 = j))])) k4 = some (.lst ([.bl (decide (0 = j)), .bl (decide (1 = j)), .bl (decide (2 = j)), .bl (decide (3 = j))] ++ [.bl (decide (4 = j)), .bl (decide (5 = j)), .bl (decide (6 = j)), .bl (decide (7 = j))] ++ [.bl (decide (8 = j)), .bl (decide (9 = j)), .bl (decide (10 = j)), .bl (decide (11 = j))] ++ [.bl (decide (12 = j)), .bl (decide (13 = j)), .bl (decide (14 = j))])) := upd_same
    have hd4 := dictAt_same hd s4
    generalize upd G4 k4 (.lst ([.bl (decide (0 = j)), .bl (decide (1 = j)), .bl (decide (2 = j)), .bl (decide (3 = j))] ++ [.bl (decide (4 = j)), .bl (decide (5 = j)), .bl (decide (6 = j)), .bl (decide (7 = j))] ++ [.bl (decide (8 = j)), .bl (decide (9 = j)), .bl (decide (10 = j)), .bl (decide (11 = j))] ++ [.bl (decide (12 = j)), .bl (decide (13 = j)), .bl (decide (14 = j))])) = H4 at s4 e4 hd4 ⊢
    have e4 : H4 k4 = some (.lst (ysJ j)) := e4
    refine ⟨by show 9 ≤ sizeLine; decide, fun a1 ha1 => ?_⟩
    have u1 := sameNew (o := .lst ((nm15.take 9).map V.str)) (Same.refl H4) ha1
    have g1 : upd H4 a1 (.lst ((nm15.take 9).map V.str)) a1 = some (.lst ((nm15.take 9).map V.str)) := upd_same
    refine ⟨_, rfl, by show 6 ≤ sizeLine; decide, fun a2 ha2 => ?_⟩
    have u2 := sameNew (o := .lst ((nm15.drop 9).map V.str)) (Same.refl (upd H4 a1 (.lst ((nm15.take 9).map V.str)))) ha2
    have g2 : upd (upd H4 a1 (.lst ((nm15.take 9).map V.str))) a2 (.lst ((nm15.drop 9).map V.str)) a2 = some (.lst ((nm15.drop 9).map V.str)) := upd_same
    refine ⟨a1, a2, (nm15.take 9).map V.str, (nm15.drop 9).map V.str, rfl, rfl, u2 _ _ g1, g2, by show 15 ≤ sizeLine; decide, fun a3 ha3 => ?_⟩
    have u3 := sameNew (o := .lst ((nm15.take 9).map V.str ++ (nm15.drop 9).map V.str)) ((s4.trans u1).trans u2) ha3
    have u43 := sameNew (o := .lst ((nm15.take 9).map V.str ++ (nm15.drop 9).map V.str)) (u1.trans u2) ha3
    have g3 : upd (upd (upd H4 a1 (.lst ((nm15.take 9).map V.str))) a2 (.lst ((nm15.drop 9).map V.str))) a3 (.lst ((nm15.take 9).map V.str ++ (nm15.drop 9).map V.str)) a3 = some (.lst (nm15.map V.str)) := upd_same
    have e5 := u43 _ _ e4
    have hd5 := dictAt_same hd u3
    have k5 := k _ u3
    obtain ⟨y1, y2, y3, y4⟩ := ysJ_ok j O.lt
    refine ⟨_, rfl, .inl ⟨rfl, _, SqL.of e5⟩, k4, ysJ j, .bl true, rfl, rfl, SqL.of e5, rfl, y1, ?_⟩
    rw [y2]
    refine ⟨rfl, _, rfl, iteT' rfl ?_⟩
    refine ⟨_, rfl, _, _, _, rfl, (fun _ r => r), hd5, O.ve, _, rfl, iteT ?_⟩
    refine ⟨_, rfl, _, rfl, .inl ⟨rfl, _, SqL.of e5⟩, k4, ysJ j, .bl true, j, .bl true, rfl, rfl, SqL.of e5, rfl, y1, y3, rfl, fun m z hm hz => ?_, ?_⟩
    · rw [y4 m hm] at hz
      cases hz
      rfl
    · exact ⟨a3, _, _, _, rfl, rfl, SqL.of g3, atI_nat (nm15_ok j O.lt), k5⟩
end
end RS
set_option Elab.async false
set_option maxRecDepth 100000
set_option maxHeartbeats 8000000
namespace RS
open PySem PySem.Spec PyProof.Rows L2 GX
section
variable {P : Program} {w : World} {K : PySem.W.Frag} {mg : Str → Option Value} {base : Heap}
theorem scAlike : FnScope ["_law_found", "_law_due_here", "_law_k"] ["_law_found", "_law_due_here"] (defScope sAlike) := ⟨rfl, rfl, rfl, by decide +kernel, rfl, by decide +kernel, by decide +kernel⟩
def spAlike (K : PySem.W.Frag) (n : Nat) : Sp := fun vs H Q _ => ∃ (v1 v2 : V) (d : PyData), vs = [v1, v2] ∧ Dp K H v1 d ∧ Dp K H v2 d ∧ few d ∧ d.depth ≤ n ∧ Q (.bl true) H
set_option linter.unusedVariables false in
theorem alike_none {c : Addr} (D : DefAt K mg "_law_alike" sAlike c) : Cal P w K mg base CX0 1 "_law_alike" ["_law_found", "_law_due_here"] (fun _ _ _ _ => False) :=
  def_ok0 D scAlike (fun vs H Q E h => h.elim) (fun _ _ _ _ _ _ us hl => match us, hl with | [_, _], _ => rfl) (fun f A outer s H vs Q E hr h => h.elim)
theorem alike_step {c : Addr} (D : DefAt K mg "_law_alike" sAlike c) (T : Txt K mg) {j : Nat} (n : Nat) {sp : Sp} (hj : 1 ≤ j) (cR : Cal P w K mg base CX0 j "_law_alike" ["_law_found", "_law_due_here"] sp)
    (hsp : ∀ (v1 v2 : V) (d : PyData) (H : Hp) (Q : VK) (E : XK), Dp K H v1 d → Dp K H v2 d → few d → d.depth + 1 ≤ n → Q (.bl true) H → sp [v1, v2] H Q E) : Cal P w K mg base CX0 (j + 1) "_law_alike" ["_law_found", "_law_due_here"] (spAlike K n) := by
  have sc := scAlike
  refine def_ok0 D sc (fun vs H Q E h => ?_) (fun _ _ _ _ _ _ us hl => match us, hl with | [_, _], _ => rfl) (fun f A outer s H vs Q E hr h => ?_)
  · obtain ⟨v1, v2, d, rfl, _⟩ := h
    rfl
  · obtain ⟨v1, v2, d, rfl, h1, h2, hf, hn, k⟩ := h
    refine ⟨_, (pss_cons (ps_if (pt_cmpR op_isN (pv 1) pe_non (nomark _)) (pss_one (ps_ret (pe_cmpR op_isN (pv 0) pe_non (nomark _)))) pss_nil) (pss_cons (ps_if (pt_val (pe_callB call_isiD (by rfl) T.isinstance (by decide +kernel) (pa_cons (pv 1) (pa_cons (pe_bltn (v := V.ty "bool") (u := Value.type "bool") (by rfl) T.bool_ (by decide +kernel) rfl) pa_nil)))) (pss_one (ps_ret (pe_and (pe_callB call_isiD (by rfl) T.isinstance (by decide +kernel) (pa_cons (pv 0) (pa_cons (pe_bltn (v := V.ty "bool") (u := Value.type "bool") (by rfl) T.bool_ (by decide +kernel) rfl) pa_nil))) (pe_one (pe_cmpR op_eq (pv 0) (pv 1) (nomark _)))))) pss_nil) (pss_cons (ps_if (pt_val (pe_callB call_isiD (by rfl) T.isinstance (by decide +kernel) (pa_cons (pv 1) (pa_cons (pe_bltn (v := V.ty "int") (u := Value.type "int") (by rfl) T.int_ (by decide +kernel) rfl) pa_nil)))) (pss_one (ps_ret (pe_and (pe_callB call_isiD (by rfl) T.isinstance (by decide +kernel) (pa_cons (pv 0) (pa_cons (pe_bltn (v := V.ty "int") (u := Value.type "int") (by rfl) T.int_ (by decide +kernel) rfl) pa_nil))) (pe_and (pe_not (pe_callB call_isiD (by rfl) T.isinstance (by decide +kernel) (pa_cons (pv 0) (pa_cons (pe_bltn (v := V.ty "bool") (u := Value.type "bool") (by rfl) T.bool_ (by decide +kernel) rfl) pa_nil)))) (pe_one (pe_cmpR op_eq (pv 0) (pv 1) (nomark _))))))) pss_nil) (pss_cons (ps_if (pt_val (pe_callB call_isiD (by rfl) T.isinstance (by decide +kernel) (pa_cons (pv 1) (pa_cons (pe_bltn (v := V.ty "str") (u := Value.type "str") (by rfl) T.str_ (by decide +kernel) rfl) pa_nil)))) (pss_one (ps_ret (pe_and (pe_callB call_isiD (by rfl) T.isinstance (by decide +kernel) (pa_cons (pv 0) (pa_cons (pe_bltn (v := V.ty "str") (u := Value.type "str") (by rfl) T.str_ (by decide +kernel) rfl) pa_nil))) (pe_one (pe_cmpR op_eq (pv 0) (pv 1) (nomark _)))))) pss_nil) (pss_cons (ps_if ((pw_or (pt_cmpR op_ne (pe_callB call_isiD (by rfl) T.isinstance (by decide +kernel) (pa_cons (pv 1) (pa_cons (pe_bltn (v := V.ty "tuple") (u := Value.type "tuple") (by rfl) T.tuple_ (by decide +kernel) rfl) pa_nil))) (pe_callB call_isiD (by rfl) T.isinstance (by decide +kernel) (pa_cons (pv 0) (pa_cons (pe_bltn (v := V.ty "tuple") (u := Value.type "tuple") (by rfl) T.tuple_ (by decide +kernel) rfl) pa_nil))) (nomark _)) (pw_or1 (pt_cmpR op_ne (pe_callB call_isiD (by rfl) T.isinstance (by decide +kernel) (pa_cons (pv 1) (pa_cons (pe_bltn (v := V.ty "list") (u := Value.type "list") (by rfl) T.list_ (by decide +kernel) rfl) pa_nil))) (pe_callB call_isiD (by rfl) T.isinstance (by decide +kernel) (pa_cons (pv 0) (pa_cons (pe_bltn (v := V.ty "list") (u := Value.type "list") (by rfl) T.list_ (by decide +kernel) rfl) pa_nil))) (nomark _)))).pt) (pss_one (ps_ret pe_bl)) pss_nil) (pss_cons (ps_if (pt_cmpR op_ne (pe_callB call_lenD (by rfl) T.len PySem.boot_len (pa_cons (pv 0) pa_nil)) (pe_callB call_lenD (by rfl) T.len PySem.boot_len (pa_cons (pv 1) pa_nil)) (nomark _)) (pss_one (ps_ret pe_bl)) pss_nil) (pss_cons (ps_for PassesOwn.never rfl (pi_range1 (by rfl) T.range (pa_cons (pe_callB call_lenD (by rfl) T.len PySem.boot_len (pa_cons (pv 1) pa_nil)) pa_nil)) (pg_name (i := 2) sc.nd rfl (Or.inl rfl)) (pss_one (ps_if (pt_not (pt_val (pe_c cR hr (by omega) (by rfl) pass0 (pa_cons (pe_ix ixD (pv 0) (pv 2) (fun _ _ => rfl)) (pa_cons (pe_ix ixD (pv 1) (pv 2) (fun _ _ => rfl)) pa_nil))))) (pss_one (ps_ret pe_bl)) pss_nil))) (pss_one (ps_ret pe_bl))))))))), ?_⟩
    refine ⟨_, rfl, rfl, _, rfl, ?_⟩
    cases h2 with
    | non =>
      cases h1
      exact iteT ⟨_, rfl, rfl, k⟩
    | bl b =>
      cases h1
      refine iteF ⟨_, rfl, _, _, _, rfl, by simp, .bl b, _, rfl, ?_⟩
      refine iteT ⟨_, rfl, _, _, _, rfl, by simp, .bl b, _, rfl, ?_⟩
      refine iteT ⟨_, rfl, _, rfl, rfl, ?_⟩
      have e : decide (V.bl b = V.bl b) = true := decide_eq_true rfl
      rw [e]
      exact k
    | int i =>
      cases h1
      refine iteF ⟨_, rfl, _, _, _, rfl, by simp, .int i, _, rfl, ?_⟩
      refine iteF ⟨_, rfl, _, _, _, rfl, by simp, .int i, _, rfl, ?_⟩
      refine iteT ⟨_, rfl, _, _, _, rfl, by simp, .int i, _, rfl, ?_⟩
      refine iteT ⟨_, rfl, _, _, _, rfl, by simp, .int i, _, rfl, _, rfl, ?_⟩
      refine iteT ⟨_, rfl, _, rfl, rfl, ?_⟩
      have e : decide (V.int i = V.int i) = true := decide_eq_true rfl
      rw [e]
      exact k
    | str x =>
      cases h1
      refine iteF ⟨_, rfl, _, _, _, rfl, by simp, .str x, _, rfl, ?_⟩
      refine iteF ⟨_, rfl, _, _, _, rfl, by simp, .str x, _, rfl, ?_⟩
      refine iteF ⟨_, rfl, _, _, _, rfl, by simp, .str x, _, rfl, ?_⟩
      refine iteT ⟨_, rfl, _, _, _, rfl, by simp, .str x, _, rfl, ?_⟩
      refine iteT ⟨_, rfl, _, rfl, rfl, ?_⟩
      have e : decide (V.str x = V.str x) = true := decide_eq_true rfl
      rw [e]
      exact k
    | @lst a2 x2 ds q2 i2 =>
      have h2 : Dp K H (.ref a2) (.list ds) := .lst q2 i2
      have hds : ds.length ≤ 1000000 ∧ ∀ d ∈ ds, few d := by
        have : ds.length ≤ 1000000 ∧ fews ds := by simpa only [few] using hf
        exact ⟨this.1, fews_iff.mp this.2⟩
      have hdep : ∀ d ∈ ds, d.depth + 1 ≤ n := fun d hd => by
        have a : PyData.depthAll ds + 1 ≤ n := by simpa only [PyData.depth] using hn
        have := depth_mem hd
        omega
      obtain ⟨a1, rfl⟩ : ∃ a1, v1 = .ref a1 := by cases h1; exact ⟨_, rfl⟩
      refine iteF ⟨_, rfl, _, _, _, rfl, by simp, h2, _, rfl, ?_⟩
      refine iteF ⟨_, rfl, _, _, _, rfl, by simp, h2, _, rfl, ?_⟩
      refine iteF ⟨_, rfl, _, _, _, rfl, by simp, h2, _, rfl, ?_⟩
      refine iteF ⟨_, rfl, _, _, _, rfl, by simp, h2, _, rfl, _, _, _, rfl, by simp, h1, rfl, _, rfl, ?_⟩
      refine iteF' (by simp) ⟨_, rfl, _, _, _, rfl, by simp, h2, _, rfl, _, _, _, rfl, by simp, h1, rfl, _, rfl, ?_⟩
      refine iteF' (by simp) ⟨_, rfl, _, _, _, rfl, h1, rfl, _, rfl, _, _, _, rfl, h2, rfl, rfl, _, rfl, ?_⟩
      refine iteF' (by simp) ⟨_, rfl, _, _, _, rfl, h2, rfl, _, rfl, by omega, by omega, ?_⟩
      rw [Int.toNat_natCast]
      refine for_range (fun i σ H' => ∃ v3 : Option V, σ = [some (.ref a1), some (.ref a2), v3] ∧ H' = H) ⟨none, rfl, rfl⟩ ?_ ?_
      · rintro i σ H' hi ⟨v3, rfl, rfl⟩
        simp only [Int.zero_add]
        refine ⟨_, rfl, _, rfl, .list ds, ds, (i : Nat), ds[i], h1, rfl, rfl, atI_nat (List.getElem?_eq_getElem hi), fun w1 hw1 => ?_⟩
        refine ⟨_, rfl, _, rfl, .list ds, ds, (i : Nat), ds[i], h2, rfl, rfl, atI_nat (List.getElem?_eq_getElem hi), fun w2 hw2 => ?_⟩
        refine hsp w1 w2 ds[i] H' _ _ hw1 hw2 (hds.2 _ (List.getElem_mem hi)) (hdep _ (List.getElem_mem hi)) ⟨_, rfl, ?_⟩
        exact iteF ⟨_, rfl, rfl⟩
      · rintro σ H' ⟨v3, rfl, rfl⟩
        exact k
    | @tup a2 x2 ds q2 i2 =>
      have h2 : Dp K H (.ref a2) (.tuple ds) := .tup q2 i2
      have hds : ds.length ≤ 1000000 ∧ ∀ d ∈ ds, few d := by
        have : ds.length ≤ 1000000 ∧ fews ds := by simpa only [few] using hf
        exact ⟨this.1, fews_iff.mp this.2⟩
      have hdep : ∀ d ∈ ds, d.depth + 1 ≤ n := fun d hd => by
        have a : PyData.depthAll ds + 1 ≤ n := by simpa only [PyData.depth] using hn
        have := depth_mem hd
        omega
      obtain ⟨a1, rfl⟩ : ∃ a1, v1 = .ref a1 := by cases h1; exact ⟨_, rfl⟩
      refine iteF ⟨_, rfl, _, _, _, rfl, by simp, h2, _, rfl, ?_⟩
      refine iteF ⟨_, rfl, _, _, _, rfl, by simp, h2, _, rfl, ?_⟩
      refine iteF ⟨_, rfl, _, _, _, rfl, by simp, h2, _, rfl, ?_⟩
      refine iteF ⟨_, rfl, _, _, _, rfl, by simp, h2, _, rfl, _, _, _, rfl, by simp, h1, rfl, _, rfl, ?_⟩
      refine iteF' (by simp) ⟨_, rfl, _, _, _, rfl, by simp, h2, _, rfl, _, _, _, rfl, by simp, h1, rfl, _, rfl, ?_⟩
      refine iteF' (by simp) ⟨_, rfl, _, _, _, rfl, h1, rfl, _, rfl, _, _, _, rfl, h2, rfl, rfl, _, rfl, ?_⟩
      refine iteF' (by simp) ⟨_, rfl, _, _, _, rfl, h2, rfl, _, rfl, by omega, by omega, ?_⟩
      rw [Int.toNat_natCast]
      refine for_range (fun i σ H' => ∃ v3 : Option V, σ = [some (.ref a1), some (.ref a2), v3] ∧ H' = H) ⟨none, rfl, rfl⟩ ?_ ?_
      · rintro i σ H' hi ⟨v3, rfl, rfl⟩
        simp only [Int.zero_add]
        refine ⟨_, rfl, _, rfl, .tuple ds, ds, (i : Nat), ds[i], h1, rfl, rfl, atI_nat (List.getElem?_eq_getElem hi), fun w1 hw1 => ?_⟩
        refine ⟨_, rfl, _, rfl, .tuple ds, ds, (i : Nat), ds[i], h2, rfl, rfl, atI_nat (List.getElem?_eq_getElem hi), fun w2 hw2 => ?_⟩
        refine hsp w1 w2 ds[i] H' _ _ hw1 hw2 (hds.2 _ (List.getElem_mem hi)) (hdep _ (List.getElem_mem hi)) ⟨_, rfl, ?_⟩
        exact iteF ⟨_, rfl, rfl⟩
      · rintro σ H' ⟨v3, rfl, rfl⟩
        exact k
theorem alike_ok {c : Addr} (D : DefAt K mg "_law_alike" sAlike c) (T : Txt K mg) : ∀ n : Nat, Cal P w K mg base CX0 (n + 2) "_law_alike" ["_law_found", "_law_due_here"] (spAlike K n)
  | 0 => alike_step D T 0 (Nat.le_refl _) (alike_none D) (fun _ _ _ _ _ _ _ _ _ h _ => by omega)
  | n + 1 => alike_step D T (n + 1) (by omega) (alike_ok D T n) (fun v1 v2 d H Q E h1 h2 h3 h4 q => ⟨v1, v2, d, rfl, h1, h2, h3, by omega, q⟩)
end
end RS
set_option Elab.async false
set_option maxRecDepth 100000
set_option maxHeartbeats 4000000
set_option pp.maxSteps 400
namespace RS
open PySem PySem.Spec PyProof.Rows L2 GX LM
theorem in_seqC {X : Cx} {K : PySem.W.Frag} (e : X.K = K) : OpR X (compareOp .In) (rIn K false) := by
  subst e
  exact op_in_seq
/-- what the law tells of an error beside its name -/
def ErrV (K : PySem.W.Frag) (D : Addr) (j : Nat) (d : Option Addr) (H : Hp) (v : Int) : Prop :=
  if j = 3 ∨ j = 2 ∨ j = 14 then XfC K D ∧ PySem.W.findIn K (.ref D) (if j = 3 then ("number" : Str) else "place") = some none ∧ ∃ (dd : Addr) (fs : List (Str × V)), d = some dd ∧ H dd = some (.xd fs) ∧ fs.lookup (if j = 3 then ("number" : Str) else "place") = some (.int v) else v = 0
section
variable {P : Program} {w : World} {K : PySem.W.Frag} {mg : Str → Option Value} {base : Heap}
theorem word_runs : ∀ j < 15, decide (V.str (nm15.getD j "") = V.str "BadRuns") = decide (j = 3) := by decide +kernel
theorem word_place : ∀ j < 15, inV (.str (nm15.getD j "")) [.str "BadRows", .str "BadText"] = decide (j = 2 ∨ j = 14) := by decide +kernel
theorem scTold : FnScope ["_law_work", "_law_e", "_law_word"] ["_law_work"] (defScope sTold) := ⟨rfl, rfl, rfl, by decide +kernel, rfl, by decide +kernel, by decide +kernel⟩
/-- an error of the class j leaves, with the number v -/
def ErrOk (K : PySem.W.Frag) (SE : Addr) (C : Nat → Addr) (Q : V → Hp → Prop) : XK := fun cls d H' => ∃ (D : Addr) (j : Nat) (v : Int), cls = .ref D ∧ Own15 K C D j ∧ PySem.W.exmOne K (.ref D) (.ref SE) = some true ∧ DictAt d H' ∧ ErrV K D j d H' v ∧
  ∀ (H'' : Hp) (t : Addr), Same H' H'' → H'' t = some (.tup [.str (nm15.getD j ""), .int v]) → Q (.ref t) H''
def spTold (P : Program) (w : World) (K : PySem.W.Frag) (mg : Str → Option Value) (base : Heap) (SE : Addr) (C : Nat → Addr) (n : Nat) : Sp := fun vs H Q _ => ∃ (f : Addr) (R : Hp → Prop) (tl : Hp → VK → XK → Prop), vs = [.ref f] ∧ Act P w K mg base n f R tl ∧ R H ∧ ∀ E : XK, (∀ cls d H', ErrOk K SE C Q cls d H' → E cls d H') → tl H Q E
theorem told_ok {c SE : Addr} {C : Nat → Addr} (DD : DefAt K mg "_law_told" sTold c) (n : Nat) (hn : 1 ≤ n) (gS : mg "SortError" = some (.ref SE)) (cC : CalW P w K mg base 1 "_law_class" ["_law_e"] (spClass K C)) : Cal P w K mg base CX0 (n + 1) "_law_told" ["_law_work"] (spTold P w K mg base SE C n) := by
  have sc := scTold
  refine def_ok0 DD sc (fun vs H Q E h => ?_) (fun _ _ _ _ _ _ us hl => match us, hl with | [_], _ => rfl) (fun f A outer s H vs Q E hr h => ?_)
  · obtain ⟨f, R, tl, rfl, _⟩ := h
    rfl
  · obtain ⟨g, R, tl, rfl, act, hR, ht⟩ := h
    refine ⟨_, pss_one (ps_try_as (X := (cxOf CX0 P w K mg base ["_law_work", "_law_e", "_law_word"] "_law_told" (defScope sTold) f (.ref c) A outer s H E).nox) (i := 1) (c := .ref SE) rfl rfl sc.nd rfl rfl ⟨rfl, by decide, .inl gS⟩ LamX.takes0 (fun W pn xe tk _ => pss_one (ps_ret (pe_act (P := P) (w := w) (K := K) (mg := mg) (base := base) rfl rfl rfl rfl rfl (fun σ => passAt tk σ) hr (Nat.le_refl _) (pv 0))))
      (fun a oe cls d pn hz hf => (pss_cons (ps_set (i := 2) sc.nd rfl (Or.inl rfl) (pe_cW (X := Cx.suite (cxOf CX0 P w K mg base ["_law_work", "_law_e", "_law_word"] "_law_told" (defScope sTold) f (.ref c) A outer s H E).nox a ((a, oe) :: pn)) (k := 1) (j := n) cC ⟨hr.dp, hr.un⟩ hn List.mem_cons_self hz hf (by rfl) (pa_cons (pv 1) pa_nil))) (pss_cons (ps_if (pt_cmpR op_eq (pv 2) pe_str (nomark _)) (pss_one (ps_ret (pe_tup (pa_cons (pv 2) (pa_cons (pe_xfA hz hf (pv 1)) pa_nil))))) pss_nil) (pss_one (ps_ret (pe_tup (pa_cons (pv 2) (pa_cons (pe_ifExp (pt_cmpR (in_seqC (K := K) rfl) (pv 2) (pe_tup (pa_cons pe_str (pa_cons pe_str pa_nil))) (by rfl)) (pe_xfA hz hf (pv 1)) pe_int) pa_nil))))))))), ?_⟩
    refine ⟨_, rfl, g, R, tl, rfl, act, hR, ht _ fun cls d H' ⟨D, j, v, ec, O, hm, hd, ev, q⟩ => ?_⟩
    subst ec
    refine ⟨true, hm, fun _ a ha => ?_, fun z => nomatch z⟩
    refine ⟨_, rfl, D, j, rfl, rfl, O, hd, fun H2 s2 => ?_⟩
    refine ⟨_, rfl, rfl, _, rfl, ?_⟩
    rw [word_runs j O.lt]
    unfold ErrV at ev
    by_cases h3 : j = 3
    · subst h3
      rw [if_pos (.inl rfl), if_pos rfl] at ev
      obtain ⟨x1, x2, dd, fs, e1, e2, e3⟩ := ev
      refine iteT' rfl ?_
      exact ⟨_, rfl, D, x1, x2, _, rfl, rfl, rfl, dd, fs, _, e1, s2 _ _ e2, e3, by show 2 ≤ sizeLine; decide, fun t ht => q _ t (sameNew s2 ht) upd_same⟩
    · refine iteF' (decide_eq_false h3) ?_
      refine ⟨_, rfl, _, rfl, by show 2 ≤ sizeLine; decide, fun tt htt => ?_⟩
      have s3 := sameNew (o := .tup [.str "BadRows", .str "BadText"]) s2 htt
      refine ⟨tt, _, rfl, .inr (SqT.of upd_same), rfl, rfl, _, rfl, ?_⟩
      rw [if_neg Bool.false_ne_true, word_place j O.lt]
      by_cases h2 : j = 2 ∨ j = 14
      · rw [if_pos (.inr h2), if_neg h3] at ev
        obtain ⟨x1, x2, dd, fs, e1, e2, e3⟩ := ev
        refine iteT' (decide_eq_true h2) ?_
        exact ⟨D, x1, x2, _, rfl, rfl, rfl, dd, fs, _, e1, s3 _ _ e2, e3, by show 2 ≤ sizeLine; decide, fun t ht => q _ t (sameNew s3 ht) upd_same⟩
      · rw [if_neg fun z => z.elim h3 h2] at ev
        subst ev
        refine iteF' (decide_eq_false h2) ?_
        exact ⟨by show 2 ≤ sizeLine; decide, fun t ht => q _ t (sameNew s3 ht) upd_same⟩
theorem scAll : FnScope ["_law_works", "_law_due_here", "_law_work"] ["_law_works", "_law_due_here"] (defScope sAll) := ⟨rfl, rfl, rfl, by decide +kernel, rfl, by decide +kernel, by decide +kernel⟩
/-- f, called now or behind more, tells dd -/
def Works (P : Program) (w : World) (K : PySem.W.Frag) (mg : Str → Option Value) (base : Heap) (SE : Addr) (C : Nat → Addr) (n : Nat) (f : Addr) (H : Hp) (dd : PyData) : Prop :=
  ∀ (H1 : Hp) (Q1 : VK), Same H H1 → (∀ x H2, Same H1 H2 → Dp K H2 x dd → Q1 x H2) → spTold P w K mg base SE C n [.ref f] H1 Q1 E0
def spAll (P : Program) (w : World) (K : PySem.W.Frag) (mg : Str → Option Value) (base : Heap) (SE : Addr) (C : Nat → Addr) (n : Nat) : Sp := fun vs H Q _ => ∃ (L : Addr) (fs : List Addr) (v : V) (dd : PyData), vs = [.ref L, v] ∧ H L = some (.lst (fs.map V.ref)) ∧ fs.length ≤ 20 ∧ Dp K H v dd ∧ few dd ∧ dd.depth ≤ 40 ∧
  (∀ f ∈ fs, Works P w K mg base SE C n f H dd) ∧ ∀ H', Same H H' → Q (.bl true) H'
theorem all_ok {c SE : Addr} {C : Nat → Addr} (DD : DefAt K mg "_law_all" sAll c) (n m : Nat) (h1 : n + 1 ≤ m) (h2 : 42 ≤ m) (cT : Cal P w K mg base CX0 (n + 1) "_law_told" ["_law_work"] (spTold P w K mg base SE C n)) (cA : Cal P w K mg base CX0 42 "_law_alike" ["_law_found", "_law_due_here"] (spAlike K 40)) :
    Cal P w K mg base CX0 (m + 1) "_law_all" ["_law_works", "_law_due_here"] (spAll P w K mg base SE C n) := by
  have sc := scAll
  refine def_ok0 DD sc (fun vs H Q E h => ?_) (fun _ _ _ _ _ _ us hl => match us, hl with | [_, _], _ => rfl) (fun f A outer s H vs Q E hr h => ?_)
  · obtain ⟨L, fs, v, dd, rfl, _⟩ := h
    rfl
  · obtain ⟨L, fs, v, dd, rfl, hL, l20, hv, hf, hdp, hw, k⟩ := h
    have hu := hr.units
    refine ⟨_, (pss_one (ps_ret (pe_cmpR (op_eqD hu) (pe_lc (own := [("_law_work", 2)]) (tt := _) rfl sc.nd (pi_list (pv 0)) (blkOk_by (N := ["_law_works", "_law_due_here", "_law_work"]) (sc := defScope sAll) (own := [("_law_work", 2)]) (by decide +kernel)) (fun _ _ _ _ _ => (pg_name (i := 2) sc.nd rfl (Or.inl rfl))) (fun _ _ _ _ _ => pts_one (pt_not (pt_val (pe_c cA hr h2 (by rfl) pass0 (pa_cons (pe_c cT hr h1 (by rfl) pass0 (pa_cons (pv 2) pa_nil)) (pa_cons (pv 1) pa_nil)))))) (fun _ _ _ _ _ => pv 2)) (pe_lst pa_nil) (nomark _)))), ?_⟩
    refine ⟨_, rfl, L, rfl, ⟨_, SqL.of hL⟩, fun DD hD => ?_⟩
    refine lc_list (K := K) (a := L) (xs := fs.map V.ref) (fun j H' => Same H H' ∧ H' DD = some (.lst [])) ⟨fun b o e => by rw [upd_ne (ne_of_none e hD)]; exact e, upd_same⟩ (fun j H4 _ h => h.1.seq (SqL.of hL)) ?_ ?_
    · rintro j x H4 hx ⟨sm, hl4⟩
      obtain ⟨g, eg, rfl⟩ : ∃ g, fs[j]? = some g ∧ x = V.ref g := by
        rw [List.getElem?_map] at hx
        cases z : fs[j]? with
        | none => rw [z] at hx; cases hx
        | some b => rw [z] at hx; exact ⟨b, rfl, (Option.some.inj hx).symm⟩
      refine ⟨rfl, _, rfl, hw g (List.mem_of_getElem? eg) H4 _ sm fun x H5 s5 hx5 => ?_⟩
      refine ⟨_, rfl, x, v, dd, rfl, hx5, dp_same s5 _ (dp_same sm _ hv), hf, hdp, _, rfl, ?_⟩
      exact iteF ⟨sm.trans s5, s5 _ _ hl4⟩
    · rintro H4 ⟨sm, hl4⟩
      refine ⟨Nat.zero_le _, fun E2 hE2 => ?_⟩
      have s6 := sameNew (o := .lst []) (Same.refl H4) hE2
      refine ⟨.list [], .list [], .lst (s6.seq (SqL.of hl4)) .nil, .lst (SqL.of upd_same) .nil, by decide +kernel, ?_⟩
      refine ⟨by decide +kernel, ?_⟩
      have e : PyData.eqv (.list []) (.list []) = true := by simp [PyData.eqv, PyData.eqvAll]
      rw [e]
      exact k _ (sm.trans s6)
end
end RS
set_option Elab.async false
set_option maxRecDepth 100000
set_option maxHeartbeats 4000000
namespace RS
open PySem PySem.Spec PyProof.Rows L2 GX
/-- the tables put away -/
def noT (H : Hp) : Hp := fun b => match H b with
  | some (.tbl _) => none
  | o => o
theorem noT_at {H : Hp} {b : Addr} {o : HO} (e : H b = some o) (n : ∀ ps, o ≠ .tbl ps) : noT H b = some o := by
  unfold noT
  rw [e]
  cases o <;> first | rfl | exact absurd rfl (n _)
theorem noT_of {H : Hp} {b : Addr} {o : HO} (e : noT H b = some o) : H b = some o ∧ ∀ ps, o ≠ .tbl ps := by
  unfold noT at e
  cases q : H b with
  | none => rw [q] at e; cases e
  | some u =>
    rw [q] at e
    cases u <;> first
      | exact ⟨e, fun ps z => by cases z; cases e⟩
      | (cases e)
theorem noT_none {H : Hp} {b : Addr} (e : H b = none) : noT H b = none := by
  unfold noT
  rw [e]
theorem noT_same (H : Hp) : Same (noT H) H := fun _ _ e => (noT_of e).1
theorem noT_up {H H' : Hp} (s : Same (noT H) H') : Same (noT H) (noT H') := fun b o e => noT_at (s b o e) (noT_of e).2
theorem noT_ext {H H' : Hp} (s : LamX.ExtN H H') : Same (noT H) H' := fun b o e => s b o (noT_of e).1 (noT_of e).2
theorem noT_mono {H H' : Hp} (s : Same H H') : Same (noT H) (noT H') := noT_up ((noT_same H).trans s)
theorem sqT_noT {K : PySem.W.Frag} {H : Hp} {a : Addr} {xs : List V} (h : SqT K H a xs) : SqT K (noT H) a xs := by
  rcases h with (h | ⟨o, h⟩) | h
  · exact .inl (.inl (noT_at h (fun _ z => by cases z)))
  · exact .inl (.inr ⟨o, noT_at h (fun _ z => by cases z)⟩)
  · exact .inr h
theorem sqL_noT {K : PySem.W.Frag} {H : Hp} {a : Addr} {xs : List V} (h : SqL K H a xs) : SqL K (noT H) a xs := by
  rcases h with (h | ⟨o, h⟩) | h
  · exact .inl (.inl (noT_at h (fun _ z => by cases z)))
  · exact .inl (.inr ⟨o, noT_at h (fun _ z => by cases z)⟩)
  · exact .inr h
mutual
theorem dp_noT {K : PySem.W.Frag} {H : Hp} : ∀ (d : PyData) {v : V}, Dp K H v d → Dp K (noT H) v d
  | .none, _, .non => .non
  | .bool b, _, .bl _ => .bl b
  | .int i, _, .int _ => .int i
  | .str x, _, .str _ => .str x
  | .list ds, _, .lst h hs => .lst (sqL_noT h) (dpAll_noT ds hs)
  | .tuple ds, _, .tup h hs => .tup (sqT_noT h) (dpAll_noT ds hs)
  | .dict _, _, h => nomatch h
theorem dpAll_noT {K : PySem.W.Frag} {H : Hp} : ∀ (ds : List PyData) {vs : List V}, DpAll K H vs ds → DpAll K (noT H) vs ds
  | [], _, .nil => .nil
  | d :: ds, _, .cons h hs => .cons (dp_noT d h) (dpAll_noT ds hs)
end
end RS
set_option Elab.async false
set_option maxRecDepth 100000
set_option maxHeartbeats 4000000
namespace RS
open PySem PySem.Spec PyProof.Rows L2 GX
/-! ### tables that are empty at the entry, as tables of any size -/
def extOf (T : List Addr) (H : Hp) : Hp := fun b => if b ∈ T then some (.ext (TabE b)) else H b
def tabAt (h : Heap) (b : Addr) : Array Value := match h.get? b with
  | some o => (match o.data with
    | .fields rs => rs
    | _ => #[])
  | none => #[]
def tblOf (T : List Addr) (h : Heap) (H : Hp) : Hp := fun b => if b ∈ T then some (.tbl (tabAt h b)) else H b
/-- a promise that speaks of tables of any size, asked where they are empty -/
def spT (T : List Addr) (sp : Sp) : Sp := fun vs H Q E => (∀ b ∈ T, H b = some (.tbl #[])) ∧ sp vs (extOf T H) (fun v H' => (∀ b ∈ T, Tab H' b) ∧ ∀ H2, Q v H2) E
theorem ext_in {T : List Addr} {H : Hp} {b : Addr} (h : b ∈ T) : extOf T H b = some (.ext (TabE b)) := if_pos h
theorem ext_out {T : List Addr} {H : Hp} {b : Addr} (h : b ∉ T) : extOf T H b = H b := if_neg h
theorem tbl_in {T : List Addr} {g : Heap} {H : Hp} {b : Addr} (h : b ∈ T) : tblOf T g H b = some (.tbl (tabAt g b)) := if_pos h
theorem tbl_out {T : List Addr} {g : Heap} {H : Hp} {b : Addr} (h : b ∉ T) : tblOf T g H b = H b := if_neg h
theorem FnOk.tables {P : Program} {w : World} {K : PySem.W.Frag} {mg : Str → Option Value} {base : Heap} {k : Nat} {f : Addr} {fd : FuncData} {ps : List Str} {sp : Sp} {T : List Addr} (F : FnOk P w K mg base CX0 k f fd ps sp) : FnOk P w K mg base CX0 k f fd ps (spT T sp) := by
  refine ⟨fun vs H Q E h => F.len _ _ _ _ h.2, fun A outer s H args us vs Q E hr e0 hb hv ⟨hT, hs⟩ => ?_⟩
  have nT : ∀ b, H b = none → b ∉ T := fun b e hb => by
    rw [hT b hb] at e
    cases e
  have nT2 : ∀ b o, H b = some o → (∀ ps, o ≠ .tbl ps) → b ∉ T := fun b o e n hb => by
    rw [hT b hb] at e
    exact n #[] (Option.some.inj e).symm
  have e2 : Env0 P w K mg base A outer s (extOf T H) := by
    refine ⟨e0.frames, e0.mod, fun b o e => ⟨(e0.bs b o e).1, by rw [ext_out (nT b (e0.bs b o e).2)]; exact (e0.bs b o e).2⟩, e0.bsz, e0.funs, fun b hb => by rw [ext_out (nT b (e0.frf b hb))]; exact e0.frf b hb, fun b o e => ?_, e0.bare⟩
    by_cases hb : b ∈ T
    · rw [ext_in hb] at e
      cases e
      have q := e0.hok b _ (hT b hb)
      exact ⟨⟨#[], q, trivial⟩, ⟨_, q⟩, tabE_stable⟩
    · rw [ext_out hb] at e
      refine (e0.hok b o e).stay (fun c u _ q => q) (fun c q => ?_) (fun c xs q => ?_)
      · rw [ext_out (nT2 c _ q (fun ps z => by cases z))]
        exact q
      · rw [ext_out (nT2 c _ q (fun ps z => by cases z))]
        exact q
  refine codeAny_mono (F.run A outer s (extOf T H) args us vs _ E hr e2 hb hv hs) fun r s' hq => ?_
  cases r with
  | error e => exact hq
  | ok fl =>
    cases fl with
    | next => exact hq
    | brk => exact hq
    | cont => exact hq
    | ret u =>
      obtain ⟨v, H', os, bare, un, hok', r', hT', q⟩ := hq
      refine ⟨v, tblOf T s'.heap H', os, bare, ⟨fun b o e n => un.keep b o e (by rw [ext_out (nT b n)]; exact n), fun b o e n => un.slot b o e (by rw [ext_out (nT b n)]; exact n), fun b o e n hx => ?_, un.there, fun b xs e => ?_, fun b o u e => ?_, fun b ps e => ?_⟩, fun b o e => ?_, r', q _⟩
      · rw [tbl_out (nT b n)]
        exact un.free b o e (by rw [ext_out (nT b n)]; exact n) hx
      · have hb := nT2 b _ e (fun ps z => by cases z)
        rw [tbl_out hb]
        exact un.tups b xs (by rw [ext_out hb]; exact e)
      · have hb := nT2 b _ e (fun ps z => by cases z)
        rw [tbl_out hb]
        exact un.frzs b o u (by rw [ext_out hb]; exact e)
      · by_cases hb : b ∈ T
        · rw [hT b hb] at e
          cases e
          exact ⟨tabAt s'.heap b, by rw [tbl_in hb, Array.empty_append]⟩
        · rw [tbl_out hb]
          exact un.tbls b ps (by rw [ext_out hb]; exact e)
      · have inT : ∀ c, c ∈ T → ∃ rs : Array Value, s'.heap.get? c = some { cls := .none, data := .fields rs } := fun c hc => by
          obtain ⟨⟨rs, h1, _⟩, _⟩ := hok' c _ (hT' c hc)
          exact ⟨rs, h1⟩
        by_cases hb : b ∈ T
        · rw [tbl_in hb] at e
          cases e
          obtain ⟨rs, h1⟩ := inT b hb
          have e2 : tabAt s'.heap b = rs := by
            unfold tabAt
            rw [h1]
          show s'.heap.get? b = some { cls := .none, data := .fields (tabAt s'.heap b) }
          rw [e2]
          exact h1
        · rw [tbl_out hb] at e
          have nT3 : ∀ c o, H' c = some o → (∀ φ, o ≠ .ext φ) → c ∉ T := fun c o e n hc => by
            have z : H' c = some (.ext (TabE c)) := hT' c hc
            rw [e] at z
            exact n _ (Option.some.inj z)
          refine (hok' b o e).stay (fun c u _ q => q) (fun c q => ?_) (fun c xs q => ?_)
          · rw [tbl_out (nT3 c _ q (fun φ z => by cases z))]
            exact q
          · rw [tbl_out (nT3 c _ q (fun φ z => by cases z))]
            exact q
section
variable {P : Program} {w : World} {K : PySem.W.Frag} {mg : Str → Option Value} {base : Heap}
theorem fn_of0 {f c : Addr} {oc kV doc pm ct : Value} {od an : Option Addr} {osl : Array (Option Value)} {x : Str} {st : Stmt} {N ps : List Str} {k : Nat} {sp : Sp}
    (lk : K.lookup f = some ⟨oc, od, .func (PySem.W.fnOf x x (defArgs st) (defBody st) (defScope st) .none kV doc pm an (.ref c) ct), osl⟩) (hcd : PySem.W.codeIn K (.ref c) x = true) (S : FnScope N ps (defScope st)) (len : ∀ vs H Q E, sp vs H Q E → vs.length = ps.length)
    (hbody : ∀ (f : Addr) (A : Around) (outer : List Env) (s : Shared) (H : Hp) (vs : List V) (Q : VK) (E : XK), Room k (A.deeper (envOfC x (defScope st) s.heap.objs.size f (.ref c))) → sp vs H Q E →
      ∃ t, PSs (cxOf CX0 P w K mg base N x (defScope st) f (.ref c) A outer s H E).nox (defBody st) t ∧ t { nx := fun _ H' => Q .non H', rt := Q } (start N vs) H) :
    FnOk P w K mg base CX0 (k + 1) f (PySem.W.fnOf x x (defArgs st) (defBody st) (defScope st) .none kV doc pm an (.ref c) ct) ps sp :=
  fn_of lk hcd S len fun A outer s H vs Q E hr hsp => by
    obtain ⟨t, ht, q⟩ := hbody f A outer s H vs Q E hr hsp
    exact ⟨t, ht.nox, q⟩
end
end RS
set_option Elab.async false
set_option maxRecDepth 100000
set_option maxHeartbeats 4000000
set_option pp.maxSteps 400
namespace RS
open PySem PySem.Spec PyProof.Rows L2 GX LM HQ
/-! ### the stretches in turn -/
theorem lex_eq : ∀ {l1 l2 : List (Nat × Nat)}, l1.Pairwise lexN → l2.Pairwise lexN → (∀ x, x ∈ l1 ↔ x ∈ l2) → l1 = l2
  | [], [], _, _, _ => rfl
  | [], b :: l2, _, _, h => nomatch (h b).mpr List.mem_cons_self
  | a :: l1, [], _, _, h => nomatch (h a).mp List.mem_cons_self
  | a :: l1, b :: l2, p1, p2, h => by
    obtain ⟨a1, a2⟩ := List.pairwise_cons.mp p1
    obtain ⟨b1, b2⟩ := List.pairwise_cons.mp p2
    have irr : ∀ q, ¬ lexN q q := fun q z => by unfold lexN at z; omega
    have asy : ∀ p q, lexN p q → ¬ lexN q p := fun p q y z => by unfold lexN at y z; omega
    obtain rfl : a = b := by
      rcases List.mem_cons.mp ((h a).mp List.mem_cons_self) with e | e
      · exact e
      rcases List.mem_cons.mp ((h b).mpr List.mem_cons_self) with e2 | e2
      · exact e2.symm
      exact absurd (a1 b e2) (asy _ _ (b1 a e))
    rw [lex_eq a2 b2 fun x => ?_]
    constructor
    · intro hx
      rcases List.mem_cons.mp ((h x).mp (List.mem_cons_of_mem _ hx)) with e | e
      · subst e; exact absurd (a1 _ hx) (irr _)
      · exact e
    · intro hx
      rcases List.mem_cons.mp ((h x).mpr (List.mem_cons_of_mem _ hx)) with e | e
      · subst e; exact absurd (b1 _ hx) (irr _)
      · exact e
def placesT (n i : Nat) : List (Nat × Nat) := (List.range i).flatMap fun o => (List.range' (o + 2) (n - 1 - o)).map fun e => (o, e)
theorem placesT_succ (n i : Nat) : placesT n (i + 1) = placesT n i ++ (List.range' (i + 2) (n - 1 - i)).map fun e => (i, e) := by
  unfold placesT
  rw [List.range_succ, List.flatMap_append]
  simp
theorem placesT_mem {n i : Nat} {x : Nat × Nat} : x ∈ placesT n i ↔ x.1 < i ∧ x.1 + 2 ≤ x.2 ∧ x.2 < x.1 + 2 + (n - 1 - x.1) := by
  unfold placesT
  rw [List.mem_flatMap]
  constructor
  · rintro ⟨o, ho, hx⟩
    obtain ⟨e, he, rfl⟩ := List.mem_map.mp hx
    have := List.mem_range'_1.mp he
    have := List.mem_range.mp ho
    exact ⟨this, by omega, by omega⟩
  · rintro ⟨h1, h2, h3⟩
    exact ⟨x.1, List.mem_range.mpr h1, List.mem_map.mpr ⟨x.2, List.mem_range'_1.mpr ⟨h2, h3⟩, rfl⟩⟩
theorem placesT_pw (n : Nat) : ∀ i, (placesT n i).Pairwise lexN
  | 0 => .nil
  | i + 1 => by
    rw [placesT_succ]
    refine List.pairwise_append.mpr ⟨placesT_pw n i, ?_, fun x hx y hy => ?_⟩
    · rw [List.pairwise_map]
      exact (List.pairwise_lt_range' (s := i + 2) (n := n - 1 - i)).imp fun h => .inr ⟨rfl, h⟩
    · have := (placesT_mem.mp hx).1
      obtain ⟨e, _, rfl⟩ := List.mem_map.mp hy
      exact .inl this
theorem places_eq {n : Nat} {qs : List (Nat × Nat)} (h1 : 1 ≤ n) (pm : qs.Perm (innerL n)) (lex : qs.Pairwise lexN) : qs = placesT n n := by
  refine lex_eq lex (placesT_pw n n) fun x => ?_
  rw [pm.mem_iff, placesT_mem]
  obtain ⟨b, e⟩ := x
  rw [innerL_mem h1]
  dsimp only
  omega
def prN (p : Nat × Nat) : PyData := .tuple [.int (p.1 : Nat), .int (p.2 : Nat)]
theorem pr_shaped (ps : List (Nat × Nat)) : SeqAt.shaped (.list (ps.map prN)) = true := by
  unfold SeqAt.shaped
  rw [Bool.and_eq_true]
  refine ⟨?_, decide_eq_true ?_⟩
  · simp only [PyData.canLay0]
    exact canLayAllT fun d hd => by
      obtain ⟨r, hr, rfl⟩ := List.mem_map.mp hd
      simp [prN, PyData.canLay0, PyData.canLayAll0]
  · simp only [PyData.depth]
    have := depthLeT (n := 1) (ds := ps.map prN) fun d hd => by
      obtain ⟨r, hr, rfl⟩ := List.mem_map.mp hd
      simp [prN, PyData.depth, PyData.depthAll]
    omega
theorem pr_noL (ps : List (Nat × Nat)) : noLs (ps.map prN) = true := noLs_iff.mpr fun d hd => by
  obtain ⟨u, hu, rfl⟩ := List.mem_map.mp hd
  simp [prN, noL, noLs]
theorem placesT_len {n : Nat} (h : n ≤ 12) : ∀ i, (placesT n i).length ≤ i * 12
  | 0 => Nat.zero_le _
  | i + 1 => by
    have := placesT_len h i
    rw [placesT_succ, List.length_append, List.length_map, List.length_range']
    omega
theorem half_le : ∀ {n : Nat}, n ≤ 12 → n * (n - 1) / 2 ≤ 66 := by
  intro n h
  have : ∀ m < 13, m * (m - 1) / 2 ≤ 66 := by decide +kernel
  exact this n (by omega)
theorem er_map10 {α β : Type} (f : α → β) : ∀ (l : List α) (k : Nat), (l.map f).eraseIdx k = (l.eraseIdx k).map f
  | [], _ => rfl
  | _ :: _, 0 => rfl
  | x :: l, k + 1 => by
    show f x :: (l.map f).eraseIdx k = f x :: (l.eraseIdx k).map f
    rw [er_map10 f l k]
theorem pr_eqv : ∀ ps : List (Nat × Nat), PyData.eqvAll (ps.map prN) (ps.map prN) = true
  | [] => by simp [PyData.eqvAll]
  | p :: ps => by simp [PyData.eqvAll, PyData.eqv, prN, pr_eqv ps]
theorem tri_eqv : ∀ es : List Tri, PyData.eqvAll (es.map triD) (es.map triD) = true
  | [] => by simp [PyData.eqvAll]
  | p :: ps => by simp [PyData.eqvAll, PyData.eqv, triD, tri_eqv ps]
theorem dp_pr {K : PySem.W.Frag} {H : Hp} {t : Addr} {p : Nat × Nat} (h : H t = some (.tup [.int (p.1 : Nat), .int (p.2 : Nat)])) : Dp K H (.ref t) (prN p) := .tup (SqT.of h) (.cons (.int _) (.cons (.int _) .nil))
/-- no good paper's number is more than a plan of neighbours costs -/
theorem good_plan {ls : List Nat} {w : Nat} {es : List Tri} {d : PyData} (g : GoodP ls w es) (h1 : 1 ≤ ls.length) (sp : NB.SidePlan ls.length w d) : fT es 0 ls.length ≤ (costP ls d : Int) := by
  obtain ⟨a1, a2, a3⟩ := NB.fr_toW (L := ls) (m := w) d sp.ok
  rw [← a2]
  refine NB.good_lb (L := ls) (w := w) (f := fT es) (fun b => Int.le_of_eq fT_one) g.2 (NB.toW ls d) (by omega) (Nat.le_refl _) a3 ?_
  rw [a1, sp.all]
  have := NB.map_sl (L := ls) (b := 0) (e := ls.length) (Nat.le_refl _)
  rw [Nat.sub_zero, ← List.range_eq_range'] at this
  exact this
/-! ### what stays -/
theorem tabS_x10 {H H' : Hp} {B L P : Addr} {q : Str} (b : BoxAt H B L) (s : SameX B L H H') (t : LamX.TabS H P q) : LamX.TabS H' P q := by
  obtain ⟨_, ⟨st, hb'⟩, ⟨ms, hl'⟩⟩ := b
  obtain ⟨ps, h1, h2, h3⟩ := t
  refine ⟨ps, s _ _ (fun z => by rw [z, hb'] at h1; cases h1) (fun z => by rw [z, hl'] at h1; cases h1) h1, h2, fun pos cv hc => ?_⟩
  obtain ⟨c, e1, e2⟩ := h3 pos cv hc
  refine ⟨c, e1, s _ _ (fun z => ?_) (fun z => ?_) e2⟩
  · rw [z, hb'] at e2
    unfold LamX.CodeO at e2
    cases e2
  · rw [z, hl'] at e2
    unfold LamX.CodeO at e2
    cases e2
theorem tab_x10 {H H' : Hp} {B L p : Addr} (b : BoxAt H B L) (s : SameX B L H H') (h : Tab H p) : Tab H' p := by
  obtain ⟨_, ⟨st, hb⟩, ⟨ms, hl⟩⟩ := b
  have h' : H p = some (.ext (TabE p)) := h
  exact s _ _ (fun z => by rw [z, hb] at h'; cases h') (fun z => by rw [z, hl] at h'; cases h') h'
structure T10 (B L pL pT pZ : Addr) (q : Str) (H : Hp) : Prop where
  box : BoxAt H B L
  tl : Tab H pL
  tt : Tab H pT
  tz : LamX.TabS H pZ q
section
variable {B L pL pT pZ : Addr} {q : Str} {H H' : Hp}
theorem T10.ext (g : T10 B L pL pT pZ q H) (e : LamX.ExtN H H') (t : LamX.TabS H' pZ q) : T10 B L pL pT pZ q H' := by
  obtain ⟨⟨n, ⟨st, hb⟩, ⟨ms, hl⟩⟩, tl, tt, _⟩ := g
  exact ⟨⟨n, ⟨st, e _ _ hb fun ps z => nomatch z⟩, ⟨ms, e _ _ hl fun ps z => nomatch z⟩⟩, e _ _ tl (fun ps z => nomatch z), e _ _ tt (fun ps z => nomatch z), t⟩
theorem T10.same (g : T10 B L pL pT pZ q H) (s : Same H H') : T10 B L pL pT pZ q H' := g.ext (LamX.ExtN.of s) (g.tz.ext s)
theorem T10.x (g : T10 B L pL pT pZ q H) (s : SameX B L H H') (b : BoxAt H' B L) : T10 B L pL pT pZ q H' := ⟨b, tab_x10 g.box s g.tl, tab_x10 g.box s g.tt, tabS_x10 g.box s g.tz⟩
end
theorem T10.updl {B L pL pT pZ a : Addr} {q : Str} {H : Hp} {xs u : List V} (g : T10 B L pL pT pZ q H) (h : H a = some (.lst xs)) (n : a ≠ B ∧ a ≠ L) : T10 B L pL pT pZ q (upd H a (.lst u)) := by
  obtain ⟨b, tl, tt, ⟨ps, h1, h2, h3⟩⟩ := g
  have ne : ∀ {p : Addr}, Tab H p → Tab (upd H a (.lst u)) p := fun {p} t => (upd_ne fun z => by unfold Tab at t; rw [z, h] at t; cases t).trans t
  refine ⟨b.upd_ n.1 n.2, ne tl, ne tt, ⟨ps, (upd_ne (fun z => by rw [z, h] at h1; cases h1)).trans h1, h2, fun pos cv hc => ?_⟩⟩
  obtain ⟨c, e1, e2⟩ := h3 pos cv hc
  refine ⟨c, e1, (upd_ne (fun z => ?_)).trans e2⟩
  rw [z, h] at e2
  unfold LamX.CodeO at e2
  cases e2
theorem T10.updn {B L pL pT pZ a : Addr} {q : Str} {H : Hp} {o : HO} (g : T10 B L pL pT pZ q H) (h : H a = none) : T10 B L pL pT pZ q (upd H a o) := g.same (sameNew (Same.refl H) h)
theorem dpAll_ext10 {K : PySem.W.Frag} {H H' : Hp} (s : LamX.ExtN H H') {ds : List PyData} {vs : List V} (h : DpAll K H vs ds) : DpAll K H' vs ds := dpAll_same (noT_ext s) _ (dpAll_noT ds h)
theorem dp_ext10 {K : PySem.W.Frag} {H H' : Hp} (s : LamX.ExtN H H') {d : PyData} {v : V} (h : Dp K H v d) : Dp K H' v d := dp_same (noT_ext s) _ (dp_noT d h)
theorem lst_ext10 {H H' : Hp} {a : Addr} {xs : List V} (s : LamX.ExtN H H') (h : H a = some (.lst xs)) : H' a = some (.lst xs) := s _ _ h fun ps z => nomatch z
/-- an error class as the law looks at it -/
structure ErrT (K : PySem.W.Frag) (SE : Addr) (C15 : Nat → Addr) (C : Addr) (j : Nat) : Prop where
  own : Own15 K C15 C j
  exm : PySem.W.exmOne K (.ref C) (.ref SE) = some true
  pl : ¬ (j = 3 ∨ j = 2 ∨ j = 14)
theorem err_T {K : PySem.W.Frag} {SE C : Addr} {C15 : Nat → Addr} {j : Nat} {nm : Str} {cl : List (Str × Addr)} {H1 H2 : Hp} {Q1 : VK} (e : ErrT K SE C15 C j) (hn : nm15.getD j "" = nm) (so : ∀ b o, off cl H1 b = some o → H2 b = some o) (told : ∀ t H', Same H1 H' → H' t = some (.tup [.str nm, .int 0]) → Q1 (.ref t) H') :
    ErrOk K SE C15 Q1 (.ref C) none (back cl H1 H2) :=
  ⟨C, j, 0, rfl, e.own, e.exm, (fun d z => nomatch z), by unfold ErrV; rw [if_neg e.pl], fun H4 t s4 ht4 => by
    rw [hn] at ht4
    exact told _ _ (fun b o z => s4 b o (back_same so b o z)) ht4⟩
theorem tup_off {X : Cx} {σ : L2.St} {H G H' : Hp} {t : Addr} {xs : List V} (c : Caught X σ H G) (s : Same G H') (h : H' t = some (.tup xs)) : off X.env.cells H' t = some (.tup xs) := by
  rw [off_n fun z => ?_]
  · exact h
  · obtain ⟨o, v, e, _⟩ := c.held t z
    rw [s _ _ e] at h
    exact pin_tup (Option.some.inj h)
theorem viaA10 {te : TE} {g : TG} {u : TS} {D : Ends} {σ : L2.St} {H : Hp} (N : V → Hp → Prop) (h1 : ∀ Q' : VK, (∀ x H2, N x H2 → Q' x H2) → te σ H Q') (h2 : ∀ x H2, N x H2 → g x σ H2 fun σ' H' => u D σ' H') : tSeq (tAsg te g) u D σ H := h1 _ h2
theorem viaS10 {tc : TT} {ta tb u : TS} {D : Ends} {σ : L2.St} {H : Hp} (N : L2.St → Hp → Prop) (h1 : ∀ nx : L2.St → Hp → Prop, (∀ σ' H', N σ' H' → nx σ' H') → tIfS tc ta tb { D with nx := nx } σ H) (h2 : ∀ σ' H', N σ' H' → u D σ' H') : tSeq (tIfS tc ta tb) u D σ H := h1 (u D) h2
theorem passX10 {P : Program} {w : World} {X : Cx} : Passes (L2.CX P w) X E0 := fun _ _ _ _ _ _ _ h => by
  obtain ⟨_, _, _, _, _, _, _, _, _, _, _, _, z⟩ := h
  exact z.elim
theorem sl_tupT {X : Cx} {K : PySem.W.Frag} (e : X.K = K) : SlR X (rSlT K) := by
  subst e
  exact sl_tup
end RS
set_option Elab.async false
set_option maxRecDepth 100000
set_option maxHeartbeats 4000000
namespace RS
open PySem PySem.Spec PyProof.Rows L2 GX
theorem leafs_take {ds : List PyData} {i : Nat} {d : PyData} (h : ds[i]? = some d) : leafs (ds.take (i + 1)) = leafs (ds.take i) ++ leaf d := by
  rw [List.take_add_one, h, leafs_app]
  show _ ++ (leaf d ++ []) = _
  rw [List.append_nil]
theorem leafs_le (ds : List PyData) (i : Nat) : (leafs (ds.take i)).length ≤ (leafs ds).length := by
  have e : leafs ds = leafs (ds.take i) ++ leafs (ds.drop i) := by rw [← leafs_app, List.take_append_drop]
  rw [e, List.length_append]
  omega
theorem leaf_part : ∀ {ds : List PyData} {d : PyData}, d ∈ ds → (leaf d).length ≤ (leafs ds).length
  | e :: ds, d, h => by
    show _ ≤ (leaf e ++ leafs ds).length
    rw [List.length_append]
    rcases List.mem_cons.mp h with q | q
    · rw [q]
      omega
    · have := leaf_part q
      omega
end RS
set_option Elab.async false
set_option maxRecDepth 100000
set_option maxHeartbeats 4000000
set_option pp.maxSteps 400
namespace RS
open PySem PySem.Spec PyProof.Rows L2 GX
section
variable {P : Program} {w : World} {K : PySem.W.Frag} {mg : Str → Option Value} {base : Heap}
theorem scIn : FnScope ["_law_plan_here", "_law_found", "_law_part"] ["_law_plan_here"] (defScope s__law_in) := ⟨rfl, rfl, rfl, by decide +kernel, rfl, by decide +kernel, by decide +kernel⟩
def spIn (K : PySem.W.Frag) (n : Nat) : Sp := fun vs H Q _ => ∃ (v : V) (d : PyData) (m : Nat), vs = [v] ∧ Dp K H v d ∧ okP m d ∧ m ≤ 6 ∧ (leaf d).length ≤ 40 ∧ d.depth ≤ n ∧ ∀ H' a, Same H H' → H a = none → H' a = some (.lst ((leaf d).map fun j => V.int (j : Nat))) → Q (.ref a) H'
theorem in_none {c : Addr} (D : DefAt K mg "_law_in" s__law_in c) : Cal P w K mg base CX0 1 "_law_in" ["_law_plan_here"] (fun _ _ _ _ => False) :=
  def_ok0 D scIn (fun vs H Q E h => h.elim) (fun _ _ _ _ _ _ us hl => match us, hl with | [_], _ => rfl) (fun f A outer s H vs Q E hr h => h.elim)
theorem in_step {c : Addr} (D : DefAt K mg "_law_in" s__law_in c) (T : Txt K mg) {j : Nat} (n : Nat) {sp : Sp} (hj : 1 ≤ j) (cR : Cal P w K mg base CX0 j "_law_in" ["_law_plan_here"] sp)
    (hsp : ∀ (v : V) (d : PyData) (m : Nat) (H : Hp) (Q : VK) (E : XK), Dp K H v d → okP m d → m ≤ 6 → (leaf d).length ≤ 40 → d.depth + 1 ≤ n → (∀ H' a, Same H H' → H a = none → H' a = some (.lst ((leaf d).map fun j => V.int (j : Nat))) → Q (.ref a) H') → sp [v] H Q E) : Cal P w K mg base CX0 (j + 1) "_law_in" ["_law_plan_here"] (spIn K n) := by
  have sc := scIn
  refine def_ok0 D sc (fun vs H Q E h => ?_) (fun _ _ _ _ _ _ us hl => match us, hl with | [_], _ => rfl) (fun f A outer s H vs Q E hr h => ?_)
  · obtain ⟨v, d, m, rfl, _⟩ := h
    rfl
  · obtain ⟨v, d, m, rfl, hd, ok, m6, l40, hn, k⟩ := h
    refine ⟨_, (pss_cons (ps_if (pt_not (pt_val (pe_callB call_isiD (by rfl) T.isinstance (by decide +kernel) (pa_cons (pv 0) (pa_cons (pe_bltn (v := V.ty "tuple") (u := Value.type "tuple") (by rfl) T.tuple_ (by decide +kernel) rfl) pa_nil))))) (pss_one (ps_ret (pe_lst (pa_cons (pv 0) pa_nil)))) pss_nil) (pss_cons (ps_set (i := 1) sc.nd rfl (Or.inl rfl) (pe_lst pa_nil)) (pss_cons (ps_for PassesOwn.never rfl (pi_tup (pv 0)) (pg_name (i := 2) sc.nd rfl (Or.inl rfl)) (pss_one (ps_expr (pe_bm PySem.F.plainAttrs_list PySem.F.slot_list_extend PySem.F.type_list_extend mt_extend (pv 1) (pa_cons (pe_c cR hr (by omega) (by rfl) pass0 (pa_cons (pv 2) pa_nil)) pa_nil))))) (pss_one (ps_ret (pv 1)))))), ?_⟩
    refine ⟨_, rfl, _, _, _, rfl, by simp, hd, _, rfl, ?_⟩
    rcases okP_cases ok with ⟨i, rfl, hi⟩ | ⟨ds, rfl, e1, e2, oks⟩
    · cases hd
      refine iteT ⟨_, rfl, by show 1 ≤ sizeLine; decide, fun a ha => k _ a (fun b o e => ?_) ha ?_⟩
      · rw [upd_ne (ne_of_none e ha)]
        exact e
      · rw [upd_same]
        show some (HO.lst [V.int (i : Nat)]) = some (HO.lst [V.int (((i : Nat) : Int).toNat : Nat)])
        rw [Int.toNat_natCast]
    · refine iteF ?_
      cases hd with
      | @tup a xs _ hS hI =>
        have l40' : (leafs ds).length ≤ 40 := l40
        have each : ∀ d ∈ ds, okP m d ∧ (leaf d).length ≤ 40 := fun d hd => ⟨okPs_iff.mp oks d hd, Nat.le_trans (leaf_part hd) l40'⟩
        have hdep : ∀ d ∈ ds, d.depth + 1 ≤ n := fun d hd => by
          have a : PyData.depthAll ds + 1 ≤ n := by simpa only [PyData.depth] using hn
          have := depth_mem hd
          omega
        have lx : xs.length = ds.length := dpLen hI
        refine ⟨Nat.zero_le _, fun F hF0 => ?_⟩
        have s0 : Same H (upd H F (.lst [])) := fun b o e => by
          rw [upd_ne (ne_of_none e hF0)]
          exact e
        refine ⟨_, rfl, a, rfl, ⟨_, sqT_same s0 hS⟩, for_tup (K := K) (a := a) (xs := xs) (fun i σ H' => ∃ (v2 : Option V), σ = [some (.ref a), some (.ref F), v2] ∧ Same H H' ∧ H' F = some (.lst ((leafs (ds.take i)).map fun j => V.int (j : Nat))))
          ⟨none, rfl, s0, upd_same⟩ (fun i σ H' _ ⟨_, _, sm, _⟩ => sqT_same sm hS) ?_ ?_⟩
        · rintro i x σ H1 hx ⟨v2, rfl, sm, hF⟩
          obtain ⟨e, ee, he⟩ := dpGet hI hx
          have em := List.mem_of_getElem? ee
          refine ⟨_, rfl, .inl ⟨rfl, _, SqL.of hF⟩, _, rfl, hsp x e m H1 _ _ (dp_same sm _ he) (each e em).1 m6 (each e em).2 (hdep e em) fun H2 G s2 hG hG2 => ?_⟩
          have wl := leafs_le ds (i + 1)
          have et := leafs_take ee
          have hF2 := s2 _ _ hF
          refine ⟨F, G, _, _, rfl, rfl, hF2, hG2, ?_, _, rfl, fun b o q => ?_, ?_⟩
          · rw [et, List.length_append] at wl
            rw [List.length_map, List.length_map]
            exact Nat.le_of_lt (small1000 (by omega))
          · rw [upd_ne (ne_of_none q hF0)]
            exact s2 _ _ (sm _ _ q)
          · rw [upd_same, et, List.map_append]
        · rintro σ H1 ⟨v2, rfl, sm, hF⟩
          rw [lx, List.take_length] at hF
          exact ⟨_, rfl, k _ F sm hF0 hF⟩
theorem in_ok {c : Addr} (D : DefAt K mg "_law_in" s__law_in c) (T : Txt K mg) : ∀ n : Nat, Cal P w K mg base CX0 (n + 2) "_law_in" ["_law_plan_here"] (spIn K n)
  | 0 => in_step D T 0 (Nat.le_refl _) (in_none D) (fun _ _ _ _ _ _ _ _ _ _ h _ => by omega)
  | n + 1 => in_step D T (n + 1) (by omega) (in_ok D T n) (fun v d m H Q E h1 h2 h3 h4 h5 q => ⟨v, d, m, rfl, h1, h2, h3, h4, by omega, q⟩)
end
end RS
set_option Elab.async false
set_option maxRecDepth 100000
set_option maxHeartbeats 4000000
set_option pp.maxSteps 400
namespace RS
open PySem PySem.Spec PyProof.Rows L2 GX
theorem leafs_sub {j : Nat} : ∀ {ds : List PyData} {d : PyData}, d ∈ ds → j ∈ leaf d → j ∈ leafs ds
  | e :: ds, d, h, hj => by
    rcases List.mem_cons.mp h with q | q
    · rw [q] at hj
      exact List.mem_append_left _ hj
    · exact List.mem_append_right _ (leafs_sub q hj)
theorem isum_nat {α : Type} (l : List α) (f : α → Nat) : (l.map fun x => ((f x : Nat) : Int)).sum = (((l.map f).sum : Nat) : Int) := by
  induction l with
  | nil => rfl
  | cons x l ih => rw [List.map_cons, List.sum_cons, ih, List.map_cons, List.sum_cons]; omega
theorem costPs_sum' (L : List Nat) : ∀ ds : List PyData, costPs L ds = (ds.map (costP L)).sum
  | [] => rfl
  | d :: ds => by
    show costP L d + costPs L ds = costP L d + (ds.map (costP L)).sum
    rw [costPs_sum' L ds]
section
variable {P : Program} {w : World} {K : PySem.W.Frag} {mg : Str → Option Value} {base : Heap}
theorem scLCost : FnScope ["_law_lengths_here", "_law_plan_here", "_law_inner", "_law_part", "_law_run"] ["_law_lengths_here", "_law_plan_here"] (defScope s__law_cost) := ⟨rfl, rfl, rfl, by decide +kernel, rfl, by decide +kernel, by decide +kernel⟩
def spLCost (K : PySem.W.Frag) (n : Nat) : Sp := fun vs H Q _ => ∃ (vl v : V) (ls : List Nat) (d : PyData) (m : Nat), vs = [vl, v] ∧ Dp K H vl (lensD ls) ∧ Dp K H v d ∧ okP m d ∧ m ≤ 6 ∧ (leaf d).length ≤ 40 ∧ (∀ j ∈ leaf d, j < ls.length) ∧ d.depth ≤ n ∧ ∀ H', Same H H' → Q (.int (costP ls d : Nat)) H'
theorem lcost_none {c : Addr} (D : DefAt K mg "_law_cost" s__law_cost c) : Cal P w K mg base CX0 1 "_law_cost" ["_law_lengths_here", "_law_plan_here"] (fun _ _ _ _ => False) :=
  def_ok0 D scLCost (fun vs H Q E h => h.elim) (fun _ _ _ _ _ _ us hl => match us, hl with | [_, _], _ => rfl) (fun f A outer s H vs Q E hr h => h.elim)
theorem lcost_step {c : Addr} (D : DefAt K mg "_law_cost" s__law_cost c) (T : Txt K mg) (hsum : mg "sum" = none) (cI : Cal P w K mg base CX0 42 "_law_in" ["_law_plan_here"] (spIn K 40)) {j : Nat} (n : Nat) {sp : Sp} (hj : 42 ≤ j) (h40 : n ≤ 40) (cR : Cal P w K mg base CX0 j "_law_cost" ["_law_lengths_here", "_law_plan_here"] sp)
    (hsp : ∀ (vl v : V) (ls : List Nat) (d : PyData) (m : Nat) (H : Hp) (Q : VK) (E : XK), Dp K H vl (lensD ls) → Dp K H v d → okP m d → m ≤ 6 → (leaf d).length ≤ 40 → (∀ j ∈ leaf d, j < ls.length) → d.depth + 1 ≤ n → (∀ H', Same H H' → Q (.int (costP ls d : Nat)) H') → sp [vl, v] H Q E) : Cal P w K mg base CX0 (j + 1) "_law_cost" ["_law_lengths_here", "_law_plan_here"] (spLCost K n) := by
  have sc := scLCost
  refine def_ok0 D sc (fun vs H Q E h => ?_) (fun _ _ _ _ _ _ us hl => match us, hl with | [_, _], _ => rfl) (fun f A outer s H vs Q E hr h => ?_)
  · obtain ⟨vl, v, ls, d, m, rfl, _⟩ := h
    rfl
  · obtain ⟨vl, v, ls, d, m, rfl, hl, hd, ok, m6, l40, jl, hn, k⟩ := h
    refine ⟨_, (pss_cons (ps_if (pt_not (pt_val (pe_callB call_isiD (by rfl) T.isinstance (by decide +kernel) (pa_cons (pv 1) (pa_cons (pe_bltn (v := V.ty "tuple") (u := Value.type "tuple") (by rfl) T.tuple_ (by decide +kernel) rfl) pa_nil))))) (pss_one (ps_ret pe_int)) pss_nil) (pss_cons (ps_set (i := 2) sc.nd rfl (Or.inl rfl) (pe_callB (cr_sum rfl) (by rfl) hsum (by decide +kernel) (pa_cons (pe_lc (own := [("_law_part", 3)]) (tt := tYes)  rfl sc.nd (pi_tup (pv 1)) (blkOk_by (N := ["_law_lengths_here", "_law_plan_here", "_law_inner", "_law_part", "_law_run"]) (sc := defScope s__law_cost) (own := [("_law_part", 3)]) (by decide +kernel)) (fun _ _ _ _ _ => (pg_name (i := 3) sc.nd rfl (Or.inl rfl))) (fun _ _ _ _ _ => pts_nil) (fun _ _ _ _ _ => (pe_c cR hr (by omega) (by rfl) pass0 (pa_cons (pv 0) (pa_cons (pv 3) pa_nil))))) pa_nil))) (pss_one (ps_ret (pe_op op_add (pv 2) (pe_callB (cr_sum rfl) (by rfl) hsum (by decide +kernel) (pa_cons (pe_lc (own := [("_law_run", 4)]) (tt := tYes)  rfl sc.nd (pi_list (pe_c cI hr (by omega) (by rfl) pass0 (pa_cons (pv 1) pa_nil))) (blkOk_by (N := ["_law_lengths_here", "_law_plan_here", "_law_inner", "_law_part", "_law_run"]) (sc := defScope s__law_cost) (own := [("_law_run", 4)]) (by decide +kernel)) (fun _ _ _ _ _ => (pg_name (i := 4) sc.nd rfl (Or.inl rfl))) (fun _ _ _ _ _ => pts_nil) (fun _ _ _ _ _ => (pe_ix (ixDC (K := K) rfl) (pv 0) (pv 4) (fun _ _ => rfl)))) pa_nil))))))), ?_⟩
    refine ⟨_, rfl, _, _, _, rfl, by simp, hd, _, rfl, ?_⟩
    rcases okP_cases ok with ⟨i, rfl, hi⟩ | ⟨ds, rfl, e1, e2, oks⟩
    · cases hd
      exact iteT (k H (Same.refl H))
    · refine iteF ?_
      have hdt := hd
      cases hd with
      | @tup a xs _ hS hI =>
        have l40' : (leafs ds).length ≤ 40 := l40
        have each : ∀ d ∈ ds, okP m d ∧ (leaf d).length ≤ 40 := fun d hd => ⟨okPs_iff.mp oks d hd, Nat.le_trans (leaf_part hd) l40'⟩
        have hdep : ∀ d ∈ ds, d.depth + 1 ≤ n := fun d hd => by
          have a : PyData.depthAll ds + 1 ≤ n := by simpa only [PyData.depth] using hn
          have := depth_mem hd
          omega
        have lx : xs.length = ds.length := dpLen hI
        refine ⟨_, rfl, a, rfl, ⟨_, hS⟩, fun DD hD => ?_⟩
        refine lc_tup (K := K) (a := a) (xs := xs) (fun j H' => Same H H' ∧ H' DD = some (.lst (((ds.take j).map fun d => ((costP ls d : Nat) : Int)).map V.int))) ⟨fun b o e => by rw [upd_ne (ne_of_none e hD)]; exact e, upd_same⟩ (fun j H4 _ h => sqT_same h.1 hS) ?_ ?_
        · rintro j x H4 hx ⟨sm, hl4⟩
          obtain ⟨e, ee, he⟩ := dpGet hI hx
          have em := List.mem_of_getElem? ee
          refine ⟨rfl, _, rfl, _, rfl, hsp vl x ls e m H4 _ _ (dp_same sm _ hl) (dp_same sm _ he) (each e em).1 m6 (each e em).2 (fun q hq => jl q (leafs_sub em hq)) (hdep e em) fun H5 s5 => ?_⟩
          refine ⟨_, s5 _ _ hl4, small1000 (by rw [List.length_map, List.length_map, List.length_take]; omega), fun b o q => ?_, ?_⟩
          · rw [upd_ne (ne_of_none q hD)]
            exact s5 _ _ (sm _ _ q)
          · rw [upd_same, List.take_add_one, ee, List.map_append, List.map_append]
            rfl
        · rintro H4 ⟨sm, hl4⟩
          rw [lx, List.take_length] at hl4
          refine ⟨DD, _, rfl, SqL.of hl4, ?_⟩
          rw [isum_nat ds (costP ls), ← costPs_sum']
          refine ⟨_, rfl, _, rfl, .ref a, .tuple ds, m, rfl, dp_same sm _ hdt, ok, m6, l40, by omega, fun H5 G s5 hG0 hG => ?_⟩
          refine ⟨G, rfl, ⟨_, SqL.of hG⟩, fun D2 hD2 => ?_⟩
          refine lc_list (K := K) (a := G) (xs := (leaf (.tuple ds)).map fun j => V.int (j : Nat)) (fun j H' => Same H5 H' ∧ H' D2 = some (.lst ((((leaf (.tuple ds)).take j).map fun q => ((ls.getD q 0 : Nat) : Int)).map V.int))) ⟨fun b o e => by rw [upd_ne (ne_of_none e hD2)]; exact e, upd_same⟩ (fun j H6 _ h => h.1.seq (SqL.of hG)) ?_ ?_
          · rintro j x H6 hx ⟨sm6, hl6⟩
            obtain ⟨q, eq, rfl⟩ : ∃ q, (leaf (.tuple ds))[j]? = some q ∧ x = V.int (q : Nat) := by
              rw [List.getElem?_map] at hx
              cases z : (leaf (.tuple ds))[j]? with
              | none => rw [z] at hx; cases hx
              | some b => rw [z] at hx; exact ⟨b, rfl, (Option.some.inj hx).symm⟩
            have hq := jl q (List.mem_of_getElem? eq)
            have hjl := (List.getElem?_eq_some_iff.mp eq).1
            refine ⟨rfl, _, rfl, _, rfl, lensD ls, _, (q : Nat), .int (ls[q] : Nat), dp_same sm6 _ (dp_same s5 _ (dp_same sm _ hl)), rfl, rfl, atI_nat (by rw [List.getElem?_map, List.getElem?_eq_getElem hq]; rfl), fun w hw => ?_⟩
            cases hw
            refine ⟨_, hl6, small1000 (by rw [List.length_map, List.length_map, List.length_take]; omega), fun b o z => ?_, ?_⟩
            · rw [upd_ne (ne_of_none z hD2)]
              exact sm6 _ _ z
            · have : ls.getD q 0 = ls[q] := by simp [List.getD, hq]
              rw [upd_same, List.take_add_one, eq, List.map_append, List.map_append, Option.toList_some, List.map_singleton, List.map_singleton, this]
          · rintro H6 ⟨sm6, hl6⟩
            rw [List.length_map, List.take_length] at hl6
            refine ⟨D2, _, rfl, SqL.of hl6, _, _, rfl, rfl, ?_⟩
            rw [isum_nat (leaf (.tuple ds)) fun q => ls.getD q 0]
            exact k H6 ((sm.trans s5).trans sm6)
theorem lcost_ok {c : Addr} (D : DefAt K mg "_law_cost" s__law_cost c) (T : Txt K mg) (hsum : mg "sum" = none) (cI : Cal P w K mg base CX0 42 "_law_in" ["_law_plan_here"] (spIn K 40)) : ∀ n : Nat, n ≤ 40 → Cal P w K mg base CX0 (n + 43) "_law_cost" ["_law_lengths_here", "_law_plan_here"] (spLCost K n)
  | 0, h => lcost_step (j := 42) D T hsum cI 0 (by omega) h (sp := fun _ _ _ _ => False) (def_ok0 (k := 41) D scLCost (fun vs H Q E h => h.elim) (fun _ _ _ _ _ _ us hl => match us, hl with | [_, _], _ => rfl) (fun f A outer s H vs Q E hr h => h.elim)) (fun _ _ _ _ _ _ _ _ _ _ _ _ _ _ h _ => by omega)
  | n + 1, h => lcost_step D T hsum cI (n + 1) (by omega) h (lcost_ok D T hsum cI n (by omega)) (fun vl v ls d m H Q E h1 h2 h3 h4 h5 h6 h7 q => ⟨vl, v, ls, d, m, rfl, h1, h2, h3, h4, h5, h6, by omega, q⟩)
end
end RS
set_option Elab.async false
set_option maxRecDepth 100000
set_option maxHeartbeats 8000000
set_option pp.maxSteps 400
namespace RS
open PySem PySem.Spec PyProof.Rows L2 GX LM HQ
abbrev qL10 : Str := (envOfC "law" (defScope sLaw) 0 0 (.ref 0)).qual ++ "<lambda>"
abbrev NT10 : List Str := ["_law_script", "_law_box", "_law_turn", "_law_lengths_here", "_law_ways", "_law_many", "_law_good", "_law_places", "_law_one", "_law_again", "_law_left", "_law_told_here", "_law_change", "_law_handed", "_law_due_here", "_law_found", "_law_plan_here", "_law_other", "_law_row"]
structure Parts10 (P : Program) (w : World) (K : PySem.W.Frag) (mg : Str → Option Value) (base : Heap) (pL pT CP SE : Addr) (C15 : Nat → Addr) : Prop where
  begun : Cal P w K mg base CX0 1 "_law_begun" ["_law_script"] (spBegun K)
  take : Cal P w K mg base CX0 1 "_law_take" ["_law_box", "_law_many"] spTake
  lens : Cal P w K mg base CX0 2 "_law_lengths" ["_law_box", "_law_most"] spLens
  side : Cal P w K mg base CX0 2 "_law_side" ["_law_box", "_law_runs", "_law_ways"] (spSide K)
  cost : Cal P w K mg base CX0 83 "_law_cost" ["_law_lengths_here", "_law_plan_here"] (spLCost K 40)
  bent : Cal P w K mg base CX0 2 "_law_bent" ["_law_box", "_law_many", "_law_told_here"] (spBent K)
  due : Cal P w K mg base CX0 8 "_law_due" ["_law_lengths_here", "_law_ways", "_law_told_here"] (spDue K)
  alike : Cal P w K mg base CX0 42 "_law_alike" ["_law_found", "_law_due_here"] (spAlike K 40)
  told : Cal P w K mg base CX0 7 "_law_told" ["_law_work"] (spTold P w K mg base SE C15 6)
  paper : Cal P w K mg base CX0 6 "paper" ["lengths", "ways"] (spPaper K pL)
  bound : Cal P w K mg base (L2.CX P w) 5 "bound" ["lengths", "ways", "told"] (spBound K CP pL pT)
def spLaw10 (K : PySem.W.Frag) (pL pT pZ : Addr) : Sp := fun vs H Q _ => ∃ (a : Addr) (ns : List Int), vs = [.ref a] ∧ SqL K H a (ns.map V.int) ∧ Tab H pL ∧ Tab H pT ∧ LamX.TabS H pZ qL10 ∧ ∀ H', Tab H' pL → Tab H' pT → Q (.bl true) H'
section
variable {P : Program} {w : World} {K : PySem.W.Frag} {mg : Str → Option Value} {base : Heap}
theorem scLaw10 : FnScope NT10 ["_law_script"] (defScope sLaw) := ⟨rfl, rfl, rfl, by decide +kernel, rfl, by decide +kernel, by decide +kernel⟩
theorem law10_fn {f c pL pT pZ CP SE : Addr} {C15 : Nat → Addr} {oc kV doc pm ct : Value} {od an : Option Addr} {osl : Array (Option Value)} (lk : K.lookup f = some ⟨oc, od, .func (PySem.W.fnOf "law" "law" (defArgs sLaw) (defBody sLaw) (defScope sLaw) .none kV doc pm an (.ref c) ct), osl⟩) (hcd : PySem.W.codeIn K (.ref c) "law" = true)
    (T : Txt K mg) (TB : LamX.TabB base mg c pZ) (eP : ErrT K SE C15 CP 7) (C : Parts10 P w K mg base pL pT CP SE C15) : FnOk P w K mg base CX0 85 f (PySem.W.fnOf "law" "law" (defArgs sLaw) (defBody sLaw) (defScope sLaw) .none kV doc pm an (.ref c) ct) ["_law_script"] (spLaw10 K pL pT pZ) := by
  have sc := scLaw10
  refine fn_of0 lk hcd sc (fun vs H Q E h => ?_) (fun f A outer s H vs Q E hr h => ?_)
  · obtain ⟨a, ns, rfl, _⟩ := h
    rfl
  · obtain ⟨a, ns, rfl, hS, tl, tt, tz, k⟩ := h
    have hu := hr.units
    refine ⟨_, (pss_cons (ps_set (i := 1) sc.nd rfl (Or.inr rfl) (pe_c C.begun hr (by decide) (by rfl) pass0 (pa_cons (pv 0) pa_nil))) (pss_cons (ps_for PassesOwn.never rfl (pi_range1 (by rfl) T.range (pa_cons pe_int pa_nil)) (pg_name (i := 2) sc.nd rfl (Or.inl rfl)) (pss_cons (ps_set (i := 3) sc.nd rfl (Or.inr rfl) (pe_c C.lens hr (by decide) (by rfl) pass0 (pa_cons (pv 1) (pa_cons (pe_ix ix_list (pe_lst (pa_cons pe_int (pa_cons pe_int (pa_cons pe_int pa_nil)))) (pe_c C.take hr (by decide) (by rfl) pass0 (pa_cons (pv 1) (pa_cons pe_int pa_nil))) (fun _ _ => rfl)) pa_nil)))) (pss_cons (ps_set (i := 4) sc.nd rfl (Or.inr rfl) (pe_op op_add pe_int (pe_c C.take hr (by decide) (by rfl) pass0 (pa_cons (pv 1) (pa_cons pe_int pa_nil))))) (pss_cons (ps_set (i := 5) sc.nd rfl (Or.inl rfl) (pe_callB call_len_seq (by rfl) T.len PySem.boot_len (pa_cons (pv 3) pa_nil))) (pss_cons (ps_set (i := 6) sc.nd rfl (Or.inl rfl) (pe_c C.paper hr (by decide) (by rfl) pass0 (pa_cons (pv 3) (pa_cons (pv 4) pa_nil)))) (pss_cons (ps_set (i := 7) sc.nd rfl (Or.inl rfl) (pe_lst pa_nil)) (pss_cons (ps_for PassesOwn.never rfl (pi_range1 (by rfl) T.range (pa_cons (pv 5) pa_nil)) (pg_name (i := 8) sc.nd rfl (Or.inr rfl)) (pss_one (ps_expr (pe_bm PySem.F.plainAttrs_list PySem.F.slot_list_extend PySem.F.type_list_extend mt_extend (pv 7) (pa_cons (pe_lc (own := [("_law_other", 17)]) (tt := tYes)  rfl sc.nd (pi_range2 (by rfl) T.range (pa_cons (pe_op op_add (pv 8) pe_int) (pa_cons (pe_op op_add (pv 5) pe_int) pa_nil))) (blkOk_by (N := NT10) (sc := defScope sLaw) (own := [("_law_other", 17)]) (by decide +kernel)) (fun _ _ _ _ _ => (pg_name (i := 17) sc.nd rfl (Or.inl rfl))) (fun _ _ _ _ _ => pts_nil) (fun _ _ _ _ _ => (pe_tup (pa_cons (pv 8) (pa_cons (pv 17) pa_nil))))) pa_nil))))) (pss_cons (ps_if (pt_cmpR (op_neD hu) (pe_lc (own := [("_law_row", 18)]) (tt := tYes)  rfl sc.nd (pi_list (pv 6)) (blkOk_by (N := NT10) (sc := defScope sLaw) (own := [("_law_row", 18)]) (by decide +kernel)) (fun _ _ _ _ _ => (pg_name (i := 18) sc.nd rfl (Or.inl rfl))) (fun _ _ _ _ _ => pts_nil) (fun _ _ _ _ _ => pe_slice (sl_tupT (K := K) rfl) (pv 18) po_none (po_some pe_int))) (pv 7) (nomark _)) (pss_one (ps_ret pe_bl)) pss_nil) (pss_one (ps_for PassesOwn.never rfl (pi_range1 (by rfl) T.range (pa_cons pe_int pa_nil)) (pg_name (i := 9) sc.nd rfl (Or.inl rfl)) (pss_cons (ps_set (i := 10) sc.nd rfl (Or.inr rfl) (pe_c C.paper hr (by decide) (by rfl) pass0 (pa_cons (pv 3) (pa_cons (pv 4) pa_nil)))) (pss_cons (ps_setLc (own := [("_law_row", 18)]) (tt := tYes) rfl sc.nd (i := 11) rfl rfl (by rfl) (pi_list (pv 6)) (blkOk_by (N := NT10) (sc := defScope sLaw) (own := [("_law_row", 18)]) (by decide +kernel)) (fun _ _ _ _ _ => (pg_name (i := 18) sc.nd rfl (Or.inl rfl))) (fun _ _ _ _ _ => pts_nil) (fun _ _ _ _ _ => (pe_bmC (K := K) rfl PySem.F.plainAttrs_list PySem.F.slot_list_pop PySem.F.type_list_pop mt_popAt (pv 10) (pa_cons (pe_c C.take hr (by decide) (by rfl) pass0 (pa_cons (pv 1) (pa_cons (pe_callB (len_seqC (K := K) rfl) (by rfl) T.len PySem.boot_len (pa_cons (pv 10) pa_nil)) pa_nil))) pa_nil)))) (pss_cons (ps_for PassesOwn.never rfl (pi_range1 (by rfl) T.range (pa_cons (pe_c C.take hr (by decide) (by rfl) pass0 (pa_cons (pv 1) (pa_cons pe_int pa_nil))) pa_nil)) (pg_name (i := 12) sc.nd rfl (Or.inl rfl)) (pss_one (ps_set (i := 11) sc.nd rfl (Or.inl rfl) (pe_c C.bent hr (by decide) (by rfl) pass0 (pa_cons (pv 1) (pa_cons (pv 5) (pa_cons (pv 11) pa_nil))))))) (pss_cons (ps_set (i := 13) sc.nd rfl (Or.inr rfl) (pe_callTy call_list_of (by rfl) T.list_ (by decide +kernel) (pa_cons (pv 11) pa_nil))) (pss_cons (ps_set (i := 14) sc.nd rfl (Or.inl rfl) (pe_c C.due hr (by decide) (by rfl) pass0 (pa_cons (pv 3) (pa_cons (pv 4) (pa_cons (pv 11) pa_nil))))) (pss_cons (ps_set (i := 15) sc.nd rfl (Or.inl rfl) (pe_cP C.told hr (by decide) (fun _ => rfl) (by rfl) (pa_cons (pe_lam TB rfl (LamX.lamS_by (sc := defScope sLaw) (by decide +kernel)) (by rfl)) pa_nil))) (pss_cons (ps_if ((pw_or (pt_not (pt_val (pe_c C.alike hr (by decide) (by rfl) pass0 (pa_cons (pv 15) (pa_cons (pv 14) pa_nil))))) (pw_or1 (pt_cmpR (op_neD hu) (pv 13) (pv 11) (nomark _)))).pt) (pss_one (ps_ret pe_bl)) pss_nil) (pss_cons (ps_set (i := 16) sc.nd rfl (Or.inl rfl) (pe_c C.side hr (by decide) (by rfl) pass0 (pa_cons (pv 1) (pa_cons (pe_listRg rfl (by rfl) T.list_ (prg_1 (by rfl) T.range (pv 5))) (pa_cons (pv 4) pa_nil))))) (pss_one (ps_if ((pw_and (pt_val (pe_callB call_isiD (by rfl) T.isinstance (by decide +kernel) (pa_cons (pv 15) (pa_cons (pe_bltn (v := V.ty "int") (u := Value.type "int") (by rfl) T.int_ (by decide +kernel) rfl) pa_nil)))) (pw_and1 (pt_cmpR op_gt (pv 15) (pe_c C.cost hr (by decide) (by rfl) pass0 (pa_cons (pv 3) (pa_cons (pv 16) pa_nil))) (nomark _)))).pt) (pss_one (ps_ret pe_bl)) pss_nil)))))))))))))))))))) (pss_one (ps_ret pe_bl)))), ?_⟩
    refine ⟨_, rfl, a, ns, rfl, hS, fun H0 B L s0 _ _ bx0 => ?_⟩
    have t0 : T10 B L pL pT pZ qL10 H0 := ⟨bx0, s0 _ _ tl, s0 _ _ tt, tz.ext s0⟩
    refine ⟨_, rfl, by decide, by decide, ?_⟩
    rw [show (3 : Int).toNat = 3 from rfl]
    refine for_range (fun i σ H' => ∃ v2 v3 v4 v5 v6 v7 v8 v9 v10 v11 v12 v13 v14 v15 v16 : Option V, σ = [some (.ref a), some (.ref B), v2, v3, v4, v5, v6, v7, v8, v9, v10, v11, v12, v13, v14, v15, v16, none, none] ∧ T10 B L pL pT pZ qL10 H')
      ⟨none, none, none, none, none, none, none, none, none, none, none, none, none, none, none, rfl, t0⟩ ?_ ?_
    · rintro i σ H1 hi ⟨v2, v3, v4, v5, v6, v7, v8, v9, v10, v11, v12, v13, v14, v15, v16, rfl, g1⟩
      dsimp only [gName, List.set]
      refine viaA10 (fun v H' => ∃ (la : Addr) (ls : List Nat), v = .ref la ∧ OkLens ls ∧ ls.length ≤ 12 ∧ la ≠ B ∧ la ≠ L ∧ H' la = some (.lst (ls.map fun n => V.int (n : Nat))) ∧ T10 B L pL pT pZ qL10 H') (fun Q' fin => ?_) ?_
      · refine ⟨_, rfl, by show 3 ≤ sizeLine; decide, fun Z nZ => ?_⟩
        have nZb := g1.box.nb nZ
        have s2 := sameNew (o := .lst [.int 6, .int 9, .int 12]) (Same.refl H1) nZ
        have hZ2 : upd H1 Z (.lst [.int 6, .int 9, .int 12]) Z = some (.lst [.int 6, .int 9, .int 12]) := upd_same
        generalize upd H1 Z (.lst [.int 6, .int 9, .int 12]) = H2 at s2 hZ2 ⊢
        have g2 := g1.same s2
        refine ⟨_, rfl, B, L, 3, rfl, g2.box, by decide, by decide, fun H3 c s3 b3 c0 c4 => ?_⟩
        obtain ⟨m, hm, m1, m12⟩ : ∃ m : Nat, atI [V.int 6, .int 9, .int 12] c = some (.int (m : Nat)) ∧ 1 ≤ m ∧ m ≤ 12 := by
          rcases (by omega : c = 0 ∨ c = 1 ∨ c = 2) with e | e | e <;> subst e
          · exact ⟨6, rfl, by decide, by decide⟩
          · exact ⟨9, rfl, by decide, by decide⟩
          · exact ⟨12, rfl, by decide, by decide⟩
        have g3 := g2.x s3 b3
        refine ⟨Z, _, _, _, rfl, rfl, SqL.of (s3 _ _ nZb.1 nZb.2 hZ2), hm, B, L, m, rfl, g3.box, m1, by omega, fun H4 la ls s4 b4 okl lm fl hl => ?_⟩
        have nl := b3.nb fl
        exact fin _ _ ⟨la, ls, rfl, okl, by omega, nl.1, nl.2, hl, g3.x s4 b4⟩
      rintro v H2 ⟨la, ls, rfl, okl, l12, nlB, nlL, hl2, g2⟩
      have n1 := okl.one
      have o2 := okl.most
      have lm : (ls.map fun n => V.int (n : Nat)).length = ls.length := List.length_map _
      dsimp only [gName, List.set]
      refine viaA10 (fun v H' => ∃ n : Nat, v = .int (n : Nat) ∧ 2 ≤ n ∧ n ≤ 6 ∧ H' la = some (.lst (ls.map fun n => V.int (n : Nat))) ∧ T10 B L pL pT pZ qL10 H') (fun Q' fin => ?_) ?_
      · refine ⟨_, rfl, B, L, 5, rfl, g2.box, by decide, by decide, fun H3 x s3 b3 x0 x1 => ⟨_, _, rfl, rfl, ?_⟩⟩
        obtain ⟨n, hn, n2, n6⟩ : ∃ n : Nat, (2 + x : Int) = (n : Nat) ∧ 2 ≤ n ∧ n ≤ 6 := ⟨(2 + x).toNat, by omega, by omega, by omega⟩
        dsimp only
        rw [hn]
        exact fin _ _ ⟨n, rfl, n2, n6, s3 _ _ nlB nlL hl2, g2.x s3 b3⟩
      rintro v H3 ⟨n, rfl, n2, n6, hl3, g3⟩
      dsimp only [gName, List.set]
      have dpl : ∀ {HX : Hp}, HX la = some (.lst (ls.map fun n => V.int (n : Nat))) → Dp K HX (.ref la) (lensD ls) := fun h => .lst (SqL.of h) (dpNats9 ls)
      refine ⟨_, rfl, la, _, rfl, .inl (SqL.of hl3), ?_⟩
      refine ⟨_, rfl, _, rfl, .ref la, ls, n, rfl, dpl hl3, okl, n2, n6, g3.tl, fun H4 ga gx qs s4 nga hga dxs pm lex => ?_⟩
      have hl4 := s4 _ _ hl3
      have g4 := g3.same s4
      refine ⟨Nat.zero_le _, fun F nF => ?_⟩
      have s5 := sameNew (o := .lst []) (Same.refl H4) nF
      have hF5 : upd H4 F (.lst []) F = some (.lst []) := upd_same
      generalize upd H4 F (.lst []) = H5 at s5 hF5 ⊢
      have lqs := pm.length_eq
      rw [innerL_cnt n1] at lqs
      have l66 : qs.length ≤ 66 := by
        rw [lqs]
        exact half_le l12
      have lgx : gx.length = qs.length := by rw [dpLen dxs, List.length_map, List.length_map]
      dsimp only [gName, List.set]
      rw [lm]
      refine ⟨_, rfl, _, rfl, by omega, by omega, ?_⟩
      rw [Int.toNat_natCast]
      refine for_range (fun j σ H' => ∃ (v8 : Option V) (ys : List V), σ = [some (.ref a), some (.ref B), some (.int (0 + (i : Nat))), some (.ref la), some (.int (n : Nat)), some (.int (ls.length : Nat)), some (.ref ga), some (.ref F), v8, v9, v10, v11, v12, v13, v14, v15, v16, none, none] ∧ Same H4 H' ∧ H' F = some (.lst ys) ∧ DpAll K H' ys ((placesT ls.length j).map prN))
        ⟨v8, [], rfl, s5, hF5, .nil⟩ ?_ ?_
      · rintro j σ H6 hj ⟨v8, ys, rfl, s6, hF6, dy⟩
        dsimp only [gName, List.set]
        refine ⟨_, rfl, .inl ⟨rfl, _, SqL.of hF6⟩, _, rfl, _, _, rfl, rfl, _, rfl, _, _, rfl, rfl, _, _, rfl, ⟨by omega, by omega, by omega, by omega⟩, fun DD hD => ?_⟩
        have e1 : ((((ls.length : Nat) : Int) + 1) - (((0 : Int) + (j : Nat)) + 2)).toNat = ls.length - 1 - j := by omega
        rw [e1]
        have eJ : ((0 : Int) + (j : Nat)) = ((j : Nat) : Int) := by omega
        rw [eJ]
        refine lc_range (fun m H' => Same H6 H' ∧ ∃ zs, H' DD = some (.lst zs) ∧ DpAll K H' zs (((List.range' (j + 2) m).map fun e => (j, e)).map prN))
          ⟨sameNew (Same.refl H6) hD, [], upd_same, .nil⟩ ?_ ?_
        · rintro m H7 hm ⟨s7, zs, hD7, d7⟩
          refine ⟨rfl, _, rfl, _, rfl, by show 2 ≤ sizeLine; decide, fun t nt => ?_⟩
          have e2 : ((j : Nat) : Int) + 2 + (m : Nat) = ((j + 2 + m : Nat) : Int) := by omega
          rw [e2]
          have s8 := sameNew (o := .tup [.int (j : Nat), .int (j + 2 + m : Nat)]) (Same.refl H7) nt
          have ht8 : upd H7 t (.tup [.int (j : Nat), .int (j + 2 + m : Nat)]) t = some (.tup [.int (j : Nat), .int (j + 2 + m : Nat)]) := upd_same
          generalize upd H7 t (.tup [.int (j : Nat), .int (j + 2 + m : Nat)]) = H8 at s8 ht8 ⊢
          have hD8 := s8 _ _ hD7
          have lz := dpLen d7
          rw [List.length_map, List.length_map, List.length_range'] at lz
          refine ⟨_, hD8, small1000 (by omega), fun b' o z => (upd_ne (ne_of_none z hD)).trans (s8 _ _ (s7 _ _ z)), zs ++ [.ref t], upd_same, ?_⟩
          have nl := pr_noL (((List.range' (j + 2) (m + 1)).map fun e => (j, e)))
          rw [List.range'_1_concat, List.map_append, List.map_append] at nl ⊢
          exact dpAll_upd hD8 _ nl (dpApp (dpAll_same s8 _ d7) (.cons (dp_pr (p := (j, j + 2 + m)) ht8) .nil))
        · rintro H7 ⟨s7, zs, hD7, d7⟩
          have hF7 := s7 _ _ hF6
          have ly := dpLen dy
          have lz := dpLen d7
          rw [List.length_map, List.length_map, List.length_range'] at lz
          rw [List.length_map] at ly
          have pl := placesT_len l12 j
          refine ⟨F, DD, _, _, rfl, rfl, hF7, hD7, by rw [sizeLine_eq]; omega, ?_⟩
          refine ⟨_, ys ++ zs, rfl, fun b' o z => (upd_ne (ne_of_none z nF)).trans (s7 _ _ (s6 _ _ z)), upd_same, ?_⟩
          have nl := pr_noL (placesT ls.length (j + 1))
          rw [placesT_succ, List.map_append] at nl ⊢
          exact dpAll_upd hF7 _ nl (dpApp (dpAll_same s7 _ dy) d7)
      · rintro σ H6 ⟨v8, ys, rfl, s6, hF6, dy⟩
        have g6 := g4.same s6
        have hga6 := s6 _ _ hga
        have hl6 := s6 _ _ hl4
        have dxs6 := dpAll_same s6 _ dxs
        refine ⟨_, rfl, ga, rfl, ⟨_, SqL.of hga6⟩, fun DD hD => ?_⟩
        refine lc_list (K := K) (a := ga) (xs := gx) (fun j H' => Same H6 H' ∧ ∃ zs, H' DD = some (.lst zs) ∧ DpAll K H' zs ((qs.take j).map prN))
          ⟨sameNew (Same.refl H6) hD, [], upd_same, .nil⟩ (fun j H' _ h => SqL.of (h.1 _ _ hga6)) ?_ ?_
        · rintro j y H7 hy ⟨s7, zs, hD7, d7⟩
          obtain ⟨d, ed, hd⟩ := dpGet dxs6 hy
          rw [List.getElem?_map, List.getElem?_map] at ed
          obtain ⟨⟨b, e⟩, ex, rfl⟩ : ∃ q, qs[j]? = some q ∧ d = triD (papE ls n q) := by
            cases r : qs[j]? with
            | none => rw [r] at ed; cases ed
            | some x => rw [r] at ed; exact ⟨x, rfl, (Option.some.inj ed).symm⟩
          have hd1 := dp_same s7 _ hd
          cases hd1 with
          | @tup t7 zs7 _ hT7 hI7 =>
          cases hI7 with
          | cons h1 hI7 =>
          cases hI7 with
          | cons h2 hI7 =>
          cases hI7 with
          | cons h3 hI7 =>
          cases hI7
          cases h1
          cases h2
          cases h3
          refine ⟨rfl, _, rfl, _, rfl, t7, _, rfl, hT7, (fun z => nomatch (show (2 : Nat) = 3 from z.2)), fun p np => ?_⟩
          have ec : cutV [V.int (papE ls n (b, e)).1, V.int (papE ls n (b, e)).2.1, V.int (papE ls n (b, e)).2.2] none (some 2) = [V.int (b : Nat), V.int (e : Nat)] := rfl
          rw [ec]
          have s8 := sameNew (o := .tup [.int (b : Nat), .int (e : Nat)]) (Same.refl H7) np
          have hp8 : upd H7 p (.tup [.int (b : Nat), .int (e : Nat)]) p = some (.tup [.int (b : Nat), .int (e : Nat)]) := upd_same
          generalize upd H7 p (.tup [.int (b : Nat), .int (e : Nat)]) = H8 at s8 hp8 ⊢
          have hD8 := s8 _ _ hD7
          have lz := dpLen d7
          rw [List.length_map, List.length_take] at lz
          refine ⟨_, hD8, small1000 (by omega), fun b' o z => (upd_ne (ne_of_none z hD)).trans (s8 _ _ (s7 _ _ z)), zs ++ [.ref p], upd_same, ?_⟩
          have nl := pr_noL (qs.take (j + 1))
          rw [take_snoc9 ex, List.map_append] at nl ⊢
          exact dpAll_upd hD8 _ nl (dpApp (dpAll_same s8 _ d7) (.cons (dp_pr (p := (b, e)) hp8) .nil))
        · rintro H7 ⟨s7, zs, hD7, d7⟩
          rw [lgx, List.take_length] at d7
          refine ⟨_, rfl, .list (qs.map prN), .list ((placesT ls.length ls.length).map prN), .lst (SqL.of hD7) d7, .lst (SqL.of (s7 _ _ hF6)) (dpAll_same s7 _ dy), pr_shaped _, pr_shaped _, _, rfl, ?_⟩
          refine iteF' (by rw [places_eq n1 pm lex]; simp [PyData.eqv, pr_eqv]) ?_
          have g7 := g6.same s7
          have hga7 := s7 _ _ hga6
          have hl7 := s7 _ _ hl6
          have nga : ga ≠ B ∧ ga ≠ L := g3.box.nb nga
          refine ⟨_, rfl, by decide, by decide, ?_⟩
          rw [show (4 : Int).toNat = 4 from rfl]
          refine for_range (fun j σ H' => ∃ v9 v10 v11 v12 v13 v14 v15 v16 : Option V, σ = [some (.ref a), some (.ref B), some (.int (0 + (i : Nat))), some (.ref la), some (.int (n : Nat)), some (.int (ls.length : Nat)), some (.ref ga), some (.ref F), v8, v9, v10, v11, v12, v13, v14, v15, v16, none, none] ∧ T10 B L pL pT pZ qL10 H' ∧ H' la = some (.lst (ls.map fun n => V.int (n : Nat))) ∧ H' ga = some (.lst gx))
            ⟨_, _, _, _, _, _, _, _, rfl, g7, hl7, hga7⟩ ?_ ?_
          · rintro j σ H8 hj ⟨v9, v10, v11, v12, v13, v14, v15, v16, rfl, g8, hl8, hga8⟩
            dsimp only [gName, List.set]
            refine ⟨_, rfl, _, rfl, .ref la, ls, n, rfl, dpl hl8, okl, n2, n6, g8.tl, fun H9 lf lx qs2 s9 nlf hlf dlx pm2 _ => ?_⟩
            have g9 := g8.same s9
            have hl9 := s9 _ _ hl8
            have hga9 := s9 _ _ hga8
            have nlb := g8.box.nb nlf
            have nla : lf ≠ la := fun z => by rw [z, hl8] at nlf; cases nlf
            have nlg : lf ≠ ga := fun z => by rw [z, hga8] at nlf; cases nlf
            have lq2 := pm2.length_eq
            rw [innerL_cnt n1, ← lqs] at lq2
            refine ⟨_, rfl, ga, rfl, ⟨_, SqL.of hga9⟩, fun DD hD => ?_⟩
            have nDb := g9.box.nb hD
            have nDa : DD ≠ la := fun z => by rw [z, hl9] at hD; cases hD
            have nDg : DD ≠ ga := fun z => by rw [z, hga9] at hD; cases hD
            have nDl : DD ≠ lf := fun z => by rw [z, hlf] at hD; cases hD
            refine lc_list (K := K) (a := ga) (xs := gx) (fun m H' => T10 B L pL pT pZ qL10 H' ∧ H' la = some (.lst (ls.map fun n => V.int (n : Nat))) ∧ H' ga = some (.lst gx) ∧ ∃ (xl yl : List V) (dl el : List Tri), H' lf = some (.lst xl) ∧ DpAll K H' xl (dl.map triD) ∧ H' DD = some (.lst yl) ∧ DpAll K H' yl (el.map triD) ∧ el.length = m ∧ dl.length + m = qs.length)
              ⟨g9.updn hD, (upd_ne (Ne.symm nDa)).trans hl9, (upd_ne (Ne.symm nDg)).trans hga9, lx, [], qs2.map (papE ls n), [], (upd_ne (Ne.symm nDl)).trans hlf, dpAll_same (sameNew (Same.refl H9) hD) _ dlx, upd_same, .nil, rfl, by rw [List.length_map]; omega⟩ (fun m H' _ h => SqL.of h.2.2.1) ?_ ?_
            · rintro m y H10 hy ⟨g10, hl10, hga10, xl, yl, dl, el, hlf10, ddl, hD10, del, le, ld⟩
              have hm := (List.getElem?_eq_some_iff.mp hy).1
              have lxl := dpLen ddl
              rw [List.length_map] at lxl
              refine ⟨rfl, _, rfl, .inl ⟨rfl, _, SqL.of hlf10⟩, _, rfl, _, rfl, lf, _, rfl, .inl (SqL.of hlf10), B, L, _, rfl, g10.box, by omega, by omega, fun H11 kx s11 b11 k0 k1 => ?_⟩
              obtain ⟨kn, rfl⟩ : ∃ kn : Nat, kx = (kn : Int) := ⟨kx.toNat, by omega⟩
              have hkn : kn < xl.length := by omega
              have hkd : kn < dl.length := by omega
              have g11 := g10.x s11 b11
              have hlf11 := s11 _ _ nlb.1 nlb.2 hlf10
              have hD11 := s11 _ _ nDb.1 nDb.2 hD10
              have ddl11 := dpAll_x g10.box s11 _ (tri_noL dl) ddl
              have del11 := dpAll_x g10.box s11 _ (tri_noL el) del
              obtain ⟨v, ev, hv⟩ := dpGet' ddl11 (show (dl.map triD)[kn]? = some (triD dl[kn]) by rw [List.getElem?_map, List.getElem?_eq_getElem hkd]; rfl)
              refine ⟨lf, _, (kn : Int), kn, v, rfl, rfl, hlf11, by omega, by omega, seqIx hkn, ev, ?_⟩
              have lyl := dpLen del11
              rw [List.length_map] at lyl
              have hD12 : upd H11 lf (.lst (xl.eraseIdx kn)) DD = some (.lst yl) := (upd_ne nDl).trans hD11
              have lE : (dl.eraseIdx kn).length = dl.length - 1 := List.length_eraseIdx_of_lt hkd
              have hgx11 := s11 _ _ nga.1 nga.2 hga10
              have hla11 := s11 _ _ nlB nlL hl10
              refine ⟨yl, hD12, small1000 (by omega), (g11.updl hlf11 nlb).updl hD12 nDb, (upd_ne (Ne.symm nDa)).trans ((upd_ne (Ne.symm nla)).trans hla11), (upd_ne (Ne.symm nDg)).trans ((upd_ne (Ne.symm nlg)).trans hgx11), xl.eraseIdx kn, yl ++ [v], dl.eraseIdx kn, el ++ [dl[kn]], (upd_ne (Ne.symm nDl)).trans upd_same, ?_, upd_same, ?_, by rw [List.length_append, le]; rfl, by omega⟩
              · have dE := dpAll_er ddl11 kn
                rw [er_map10] at dE
                exact dpAll_upd hD12 _ (tri_noL _) (dpAll_upd hlf11 _ (tri_noL _) dE)
              · rw [List.map_append]
                have nl := tri_noL (el ++ [dl[kn]])
                rw [List.map_append] at nl
                exact dpAll_upd hD12 _ nl (dpAll_upd hlf11 _ nl (dpApp del11 (.cons hv .nil)))
            · rintro H10 ⟨g10, hl10, hga10, xl, yl, dl, el, hlf10, ddl, hD10, del, le, ld⟩
              rw [lgx] at le
              dsimp only [gName, List.set]
              refine ⟨_, rfl, B, L, 3, rfl, g10.box, by decide, by decide, fun H11 x s11 b11 x0 x1 => ⟨_, rfl, by omega, by omega, ?_⟩⟩
              obtain ⟨cn, ecn, cn3⟩ : ∃ cn : Nat, x.toNat = cn ∧ cn < 3 := ⟨_, rfl, by omega⟩
              rw [ecn]
              refine for_range (fun c σ H' => ∃ (v12 : Option V) (A2 : Addr) (xs : List V) (es : List Tri), σ = [some (.ref a), some (.ref B), some (.int (0 + (i : Nat))), some (.ref la), some (.int (n : Nat)), some (.int (ls.length : Nat)), some (.ref ga), some (.ref F), v8, some (.int (0 + (j : Nat))), some (.ref lf), some (.ref A2), v12, v13, v14, v15, v16, none, none] ∧ T10 B L pL pT pZ qL10 H' ∧ H' la = some (.lst (ls.map fun n => V.int (n : Nat))) ∧ H' ga = some (.lst gx) ∧ (A2 ≠ B ∧ A2 ≠ L) ∧ H' A2 = some (.lst xs) ∧ DpAll K H' xs (es.map triD) ∧ es.length ≤ 66 + c)
                ⟨v12, DD, yl, el, rfl, g10.x s11 b11, s11 _ _ nlB nlL hl10, s11 _ _ nga.1 nga.2 hga10, nDb, s11 _ _ nDb.1 nDb.2 hD10, dpAll_x g10.box s11 _ (tri_noL el) del, by omega⟩ ?_ ?_
              · rintro c σ H12 hc ⟨v12, A2, xs, es, rfl, g12, hl12, hga12, nA, hA, dx, lE⟩
                refine ⟨_, rfl, _, rfl, _, rfl, B, L, A2, ls.length, xs, es, rfl, g12.box, nA, hA, dx, by omega, fun H13 R ys2 es2 s13 b13 nR hR dy2 le2 => ?_⟩
                have nRb := g12.box.nb nR
                exact ⟨_, R, ys2, es2, rfl, g12.x s13 b13, s13 _ _ nlB nlL hl12, s13 _ _ nga.1 nga.2 hga12, nRb, hR, dy2, by omega⟩
              · rintro σ H12 ⟨v12, A2, xs, es, rfl, g12, hl12, hga12, nA, hA, dx, lE⟩
                refine ⟨_, rfl, A2, _, rfl, .inl (SqL.of hA), fun W nW => ?_⟩
                have s13 := sameNew (o := .lst xs) (Same.refl H12) nW
                have hW13 : upd H12 W (.lst xs) W = some (.lst xs) := upd_same
                generalize upd H12 W (.lst xs) = H13 at s13 hW13 ⊢
                have g13 := g12.same s13
                dsimp only [gName, List.set]
                obtain ⟨rd, hrd⟩ : ∃ rd : PyData, (GoodP ls n es ∧ rd = .int (fT es 0 ls.length)) ∨ (¬ GoodP ls n es ∧ rd = .tuple [.str "BadPaper", .int 0]) := by
                  by_cases g : GoodP ls n es
                  · exact ⟨_, .inl ⟨g, rfl⟩⟩
                  · exact ⟨_, .inr ⟨g, rfl⟩⟩
                have nWb := g12.box.nb nW
                have frd : few rd ∧ rd.depth ≤ 40 := by
                  rcases hrd with ⟨_, rfl⟩ | ⟨_, rfl⟩
                  · exact ⟨by simp [few], by simp [PyData.depth]⟩
                  · exact ⟨by simp [few, fews], by simp [PyData.depth, PyData.depthAll]⟩
                refine viaA10 (fun v H' => Dp K H' v rd ∧ Same H13 H') (fun Q' fin => ?_) ?_
                · refine ⟨_, rfl, _, rfl, _, rfl, .ref la, .ref A2, ls, n, es, rfl, dpl (s13 _ _ hl12), okl, l12, n2, n6, .lst (SqL.of (s13 _ _ hA)) (dpAll_same s13 _ dx), by omega, ?_⟩
                  rcases hrd with ⟨g, rfl⟩ | ⟨g, rfl⟩
                  · exact .inl ⟨g, fun H' s => fin _ _ ⟨.int _, s⟩⟩
                  · exact .inr ⟨g, fun H' t s ht => fin _ _ ⟨.tup (SqT.of ht) (.cons (.str _) (.cons (.int _) .nil)), s⟩⟩
                rintro v14 H14 ⟨d14, s14⟩
                have g14 := g13.same s14
                have s124 := s13.trans s14
                have hl14 := s124 _ _ hl12
                have hga14 := s124 _ _ hga12
                have hA14 := s124 _ _ hA
                have dx14 := dpAll_same s124 _ dx
                have hW14 := s14 _ _ hW13
                dsimp only [gName, List.set]
                refine viaA10 (fun v H' => Dp K H' v rd ∧ Dp K H' v14 rd ∧ T10 B L pL pT pZ qL10 H' ∧ H' la = some (.lst (ls.map fun n => V.int (n : Nat))) ∧ H' ga = some (.lst gx) ∧ H' A2 = some (.lst xs) ∧ H' W = some (.lst xs) ∧ DpAll K H' xs (es.map triD)) (fun Q' fin => ?_) ?_
                · refine ⟨g14.tz, fun fL HA eN tS isL hfN => ?_⟩
                  intro Gp ca
                  have gA := g14.ext eN tS
                  obtain ⟨R, rG, act⟩ := lam_act (k := 5) ca (LamX.lamS_by (sc := defScope sLaw) (by decide +kernel)) (isL.up ca) (fun _ _ _ _ _ => rfl) (fun A outer s H E c' hr' => pe_c C.bound hr' (Nat.le_refl _) (by rfl) (passes_call (takes_of rfl rfl rfl rfl) fun _ _ _ _ h => h) (pa_cons (pv 3) (pa_cons (pv 4) (pa_cons (pv 13) pa_nil))))
                  refine ⟨fL, R, _, rfl, act, rG, fun E' hE => ?_⟩
                  have up := caught_same ca (Same.refl Gp)
                  have fin2 : ∀ (v : V) (HX : Hp), Same HA HX → Dp K HX v rd → Q' v HX := fun v HX sx dv =>
                    fin _ _ ⟨dv, dp_same sx _ (dp_ext10 eN d14), gA.same sx, sx _ _ (lst_ext10 eN hl14), sx _ _ (lst_ext10 eN hga14), sx _ _ (lst_ext10 eN hA14), sx _ _ (lst_ext10 eN hW14), dpAll_same sx _ (dpAll_ext10 eN dx14)⟩
                  refine ⟨_, rfl, _, rfl, _, rfl, .ref la, .ref W, ls, n, es, rfl, dpl (up _ _ (lst_ext10 eN hl14)), okl, n2, n6, .lst (SqL.of (up _ _ (lst_ext10 eN hW14))) (dpAll_same up _ (dpAll_ext10 eN dx14)), by omega, up _ _ gA.tl, up _ _ gA.tt, ?_⟩
                  rcases hrd with ⟨g, rfl⟩ | ⟨g, rfl⟩
                  · exact .inl ⟨g, fun HY sY lo => fin2 _ _ (caught_same ca (back_same sY)) (.int _)⟩
                  · exact .inr ⟨g, fun HY sY lo => hE _ _ _ (err_T eP rfl sY fun t HZ sZ ht => fin2 _ _ (caught_same ca sZ) (.tup (SqT.of (tup_off ca sZ ht)) (.cons (.str _) (.cons (.int _) .nil))))⟩
                rintro v15 H15 ⟨d15, d14', g15, hl15, hga15, hA15, hW15, dx15⟩
                try dsimp only [gName, List.set]
                refine viaS10 (fun σ' H' => σ' = [some (.ref a), some (.ref B), some (.int (0 + (i : Nat))), some (.ref la), some (.int (n : Nat)), some (.int (ls.length : Nat)), some (.ref ga), some (.ref F), v8, some (.int (0 + (j : Nat))), some (.ref lf), some (.ref A2), v12, some (.ref W), some v14, some v15, v16, none, none] ∧ Dp K H' v15 rd ∧ T10 B L pL pT pZ qL10 H' ∧ H' la = some (.lst (ls.map fun n => V.int (n : Nat))) ∧ H' ga = some (.lst gx)) (fun nx fin => ?_) ?_
                · refine ⟨_, rfl, _, rfl, v15, v14, rd, rfl, d15, d14', frd.1, frd.2, _, rfl, ?_⟩
                  refine iteF ?_
                  refine ⟨_, rfl, _, rfl, .list (es.map triD), .list (es.map triD), .lst (SqL.of hW15) dx15, .lst (SqL.of hA15) dx15, tri_shaped _, tri_shaped _, _, rfl, ?_⟩
                  refine iteF' (by simp [PyData.eqv, tri_eqv]) ?_
                  exact fin _ _ ⟨rfl, d15, g15, hl15, hga15⟩
                rintro σ H16 ⟨rfl, d16, g16, hl16, hga16⟩
                try dsimp only [gName, List.set]
                refine viaA10 (fun v H' => ∃ d, Dp K H' v d ∧ NB.SidePlan ls.length n d ∧ Dp K H' v15 rd ∧ T10 B L pL pT pZ qL10 H' ∧ H' la = some (.lst (ls.map fun n => V.int (n : Nat))) ∧ H' ga = some (.lst gx)) (fun Q' fin => ?_) ?_
                · refine ⟨_, rfl, _, rfl, _, rfl, .of_le (by decide) (by omega) (by decide) (by omega), fun R nR => ?_⟩
                  have erg : rgV 0 ((ls.length : Nat) : Int) = (List.range ls.length).map fun n => V.int ((n : Nat) : Int) := by simp [rgV]
                  rw [erg]
                  have s17 := sameNew (o := .lst ((List.range ls.length).map fun n => V.int ((n : Nat) : Int))) (Same.refl H16) nR
                  have hR17 : upd H16 R (.lst ((List.range ls.length).map fun n => V.int ((n : Nat) : Int))) R = some (.lst ((List.range ls.length).map fun n => V.int ((n : Nat) : Int))) := upd_same
                  generalize upd H16 R (.lst ((List.range ls.length).map fun n => V.int ((n : Nat) : Int))) = H17 at s17 hR17 ⊢
                  have g17 := g16.same s17
                  refine ⟨_, rfl, B, L, R, ls.length, n, rfl, g17.box, n2, n6, n1, o2, hR17, fun H18 v18 d s18 b18 hv sp => ?_⟩
                  refine fin _ _ ⟨d, hv, sp, ?_, g17.x s18 b18, s18 _ _ nlB nlL (s17 _ _ hl16), s18 _ _ nga.1 nga.2 (s17 _ _ hga16)⟩
                  refine dp_x g17.box s18 _ ?_ (dp_same s17 _ d16)
                  rcases hrd with ⟨_, rfl⟩ | ⟨_, rfl⟩
                  · rfl
                  · simp [noL, noLs]
                rintro v16' H17 ⟨d, hv, sp, d17, g17, hl17, hga17⟩
                try dsimp only [gName, List.set]
                refine ⟨_, rfl, _, _, _, rfl, by simp, d17, _, rfl, ?_⟩
                rcases hrd with ⟨g, rfl⟩ | ⟨g, rfl⟩
                · cases d17
                  refine iteT ?_
                  have ll : (leaf d).length ≤ 40 := by rw [sp.all, List.length_range]; exact o2
                  have dd := leaf_depth d sp.ok
                  refine ⟨_, rfl, _, rfl, _, rfl, .ref la, v16', ls, d, n, rfl, dpl hl17, hv, sp.ok, n6, ll, fun j hj => List.mem_range.mp (by rw [← sp.all]; exact hj), by omega, fun H18 s18 => ?_⟩
                  have lb := good_plan g n1 sp
                  refine ⟨_, _, rfl, rfl, _, rfl, iteF' (decide_eq_false (by omega)) ?_⟩
                  exact ⟨_, _, _, _, _, _, _, _, rfl, g17.same s18, s18 _ _ hl17, s18 _ _ hga17⟩
                · refine iteF ?_
                  exact ⟨_, _, _, _, _, _, _, _, rfl, g17, hl17, hga17⟩
          · rintro σ H8 ⟨v9, v10, v11, v12, v13, v14, v15, v16, rfl, g8, hl8, hga8⟩
            exact ⟨_, _, _, _, _, _, _, _, _, _, _, _, _, _, _, rfl, g8⟩
    · rintro σ H1 ⟨v2, v3, v4, v5, v6, v7, v8, v9, v10, v11, v12, v13, v14, v15, v16, rfl, g1⟩
      exact k H1 g1.tl g1.tt
end
end RS
set_option Elab.async false
set_option maxRecDepth 100000
set_option maxHeartbeats 4000000
set_option pp.maxSteps 400
namespace RS
open PySem PySem.Spec PyProof.Rows L2 GX LM
section
variable {X : Cx} {e : Expr} {es : List Expr} {ta : TA} {p1 p2 pos : Pos}
/-- C.__init__(self, ..), C an own class that has ValueError's -/
theorem pe_veinitC {pl : Sem Bool} {x : Str} {SE : Addr} {mc : Value} (hg : Gl X x) (hm : X.mg x = some (.ref SE)) (cr : ClX.CRead X.K SE mc) (cv : PySem.W.findCls X.K (.ref SE) mc "__init__" = some (.val (.builtin "ValueError.__init__"))) (ha : PA X (e :: es) ta) (hdb : (x == ("__debug__" : Str)) = false := by decide)
    (hc : eval (.Call (.Attribute (.Name x p1) "__init__" p2) (e :: es) [] pos) X.env = (do
      let ov ← eval (.Name x p1) X.env
      standAt p2.atName
      let (f, first) ← holding [ov] (getMethod ov "__init__" pl)
      callWith pos f first (backTo pos (starEach (e :: es) X.env)) (backToKw pos (keywordEach [] X.env))) := by rfl)
    (he : starEach (e :: es) X.env = (false, eval e X.env) :: starEach es X.env := by rfl) (hpl : (backTo pos (starEach es X.env)).any (·.1) = false := by rfl) :
    PE X (.Call (.Attribute (.Name x p1) "__init__" p2) (e :: es) [] pos) (tVeI X.K ta) := by
  refine ⟨fun pins s σ H Q I h => ?_⟩
  refine PySem.W.methodCall_KW (ld_glob I hg hm ?_ hdb) hc
  refine PySem.W.method_cls I.kIn cr.ga (PySem.W.cls_value I.kIn cr.rd cv (by decide +kernel) ?_)
  show wpAny _ _ (callWith pos (Value.builtin "ValueError.__init__") [] (backTo pos (starEach (e :: es) X.env)) []) _ _ _
  refine PyProof.Rows.callWith_method1 (thn (ha.run pos pins _ σ H _ (I.tok _) h) fun us s1 ⟨vs, H1, I1, r1, a, C, ws, ev, hl, T, ea, q⟩ => ?_) he hpl
  subst ev
  cases r1 with
  | @cons _ u0 _ ur ra rw' =>
    obtain rfl : u0 = Value.ref a := ra
    have z : ur.length ≤ sizeLine := by
      rw [← Paired.length rw', sizeLine_eq]
      omega
    exact oinit_ok T I1 ea z fun s' J => ⟨.non, H1, J, rfl, q⟩
end
theorem len_app7 (x y : Str) : (x ++ y).length = x.length + y.length := by
  have e : ∀ z : Str, z.length = (TL.tl z).length := fun z => by simp [TL.tl, Str.length]
  rw [e, e x, e y, TL.tl_append, List.length_append]
/-! ### an error with a number -/
def spNumI (K : PySem.W.Frag) (C : Addr) (f : Str) : Sp := fun vs H Q _ => ∃ (a : Addr) (v : Nat), vs = [.ref a, .int (v : Nat)] ∧ v < 200 ∧ H a = some (exo a C none) ∧
  ∀ dx, H dx = none → dx ≠ a → Q .non (upd (upd H dx (exd dx [(f, .int (v : Nat))])) a (exo a C (some dx)))
theorem txt_small : ∀ n < 200, (toString ((n : Nat) : Int) : Str).length ≤ 20 ∧ ((n : Nat) : Int).natAbs.log2 < 1920 := by decide +kernel
/-- the text's class C: its __init__ tells a text, then keeps the number as f -/
structure NumE (P : Program) (w : World) (K : PySem.W.Frag) (mg : Str → Option Value) (base : Heap) (x f : Str) (C : Addr) : Prop where
  ex : ∃ (fI : Addr) (fd : FuncData), OexC K C ∧ PySem.W.findIn K (.ref C) "__init__" = some (some (.ref fI)) ∧ PySem.W.typeIn K (.ref fI) = some (.type "function") ∧ FnOk P w K mg base CX0 1 fI fd ["self", f] (spNumI K C f) ∧ Binds K fd ["self", f] [] ∧ mg x = some (.ref C)
section
variable {X : Cx} {e : Expr} {te : TE} {p pos : Pos} {x f : Str} {C : Addr}
theorem del_end {H1 : Hp} {a dx : Addr} {o u v y : HO} (hn : H1 a = none) (ne : dx ≠ a) : upd (L2.del (upd (upd (upd H1 a o) dx u) a v) a) dx y = upd H1 dx y := by
  funext b
  by_cases hb : b = dx
  · rw [hb, upd_same, upd_same]
  · rw [upd_ne hb, upd_ne hb]
    by_cases ha : b = a
    · rw [ha, L2.del_same, hn]
    · rw [L2.del_ne ha, upd_ne ha, upd_ne hb, upd_ne ha]
/-- C(e), to be raised -/
theorem pmk_num (N : NumE X.prog X.w X.K X.mg X.base x f C) (hr : Room 2 X.A) (hg : Gl X x) (he : PE X e te) (hs : starEach [e] X.env = (false, eval e X.env) :: starEach [] X.env := by rfl) (hdb : (x == ("__debug__" : Str)) = false := by decide) :
    L2.PMk X (.Call (.Name x p) [e] [] pos) (tMkO C (spNumI X.K C f) [] (tCons te tNil)) := by
  obtain ⟨fI, fd, T, iC, tI, F, hb, hm⟩ := N.ex
  exact pmk_oex T iC tI F hr hb .nil pass0 hg hm (pa_cons he pa_nil hs) hdb hs (by rfl)
/-- its reading, the number known -/
theorem num_end {K : PySem.W.Frag} {n : Nat} {H1 : Hp} {Q : XK} (hn : n < 200) (q : ∀ d, H1 d = none → Q (.ref C) (some d) (upd H1 d (.xd [(f, .int (n : Nat))]))) : [V.int (n : Nat)].length ≤ 1000 ∧ ∀ a, H1 a = none → spNumI K C f (.ref a :: ([V.int (n : Nat)] ++ [])) (upd H1 a (exo a C none))
    (fun v H2 => v = .non ∧ ∃ (d : Addr) (fs : List (Str × V)), H2 a = some (exo a C (some d)) ∧ H2 d = some (exd d fs) ∧ H1 d = none ∧ Q (.ref C) (some d) (upd (L2.del H2 a) d (.xd fs))) (fun _ _ _ => False) := by
  refine ⟨by show 1 ≤ 1000; decide, fun a ha => ⟨a, n, rfl, hn, upd_same, fun dx hd ne => ⟨rfl, dx, [(f, .int (n : Nat))], upd_same, (upd_ne ne).trans upd_same, (upd_ne ne).symm.trans hd, ?_⟩⟩⟩
  rw [del_end ha ne]
  exact q dx ((upd_ne ne).symm.trans hd)
end
section
variable {P : Program} {w : World} {K : PySem.W.Frag} {mg : Str → Option Value} {base : Heap}
theorem scPlaceI : FnScope ["self", "place"] ["self", "place"] (defScope s_BadRows_init) := ⟨rfl, rfl, rfl, by decide +kernel, rfl, by decide +kernel, by decide +kernel⟩
theorem init_place {fI C SE : Addr} {fd : FuncData} {mc : Value} (F : L2.Fun K "__init__" "BadRows.__init__" s_BadRows_init fI fd) (T : OexC K C) (iC : PySem.W.findIn K (.ref C) "__init__" = some (some (.ref fI))) (tI : PySem.W.typeIn K (.ref fI) = some (.type "function")) (hm : mg "BadRows" = some (.ref C)) (nf : PySem.W.findIn K (.ref C) "place" = some none)
    (gS : mg "SortError" = some (.ref SE)) (cr : ClX.CRead K SE mc) (cv : PySem.W.findCls K (.ref SE) mc "__init__" = some (.val (.builtin "ValueError.__init__"))) : NumE P w K mg base "BadRows" "place" C := by
  have sc := scPlaceI
  refine ⟨fI, fd, T, iC, tI, ?_, F.binds (fun _ _ _ _ _ _ us hl => match us, hl with | [_, _], _ => rfl), hm⟩
  refine F.ok sc (fun vs H Q E h => ?_) (fun cdv A outer s H vs Q E hr h => ?_)
  · obtain ⟨a, v, rfl, _⟩ := h
    rfl
  · obtain ⟨a, v, rfl, hv, ha, k⟩ := h
    refine ⟨_, (pss_cons (ps_expr (pe_veinitC (by rfl) gS cr cv (pa_cons (pv 0) (pa_cons (pe_joined (.cons pe_str (.cons (pe_fmt (pv 1)) .nil))) pa_nil)))) (pss_one (ps_ost (pv 0) (pv 1)))), ?_⟩
    obtain ⟨z1, z2⟩ := txt_small v hv
    have big : (1000 : Nat) ≤ sizeLine := by decide
    have e0 : (Str.empty ++ Str.ofString "no row that may stand at place ").length ≤ 100 := by decide +kernel
    refine ⟨_, rfl, _, rfl, by omega, _, rfl, .inr ⟨_, rfl, z2, _, rfl, ?_, a, C, _, rfl, by show 1 ≤ 1000; decide, T, ha, ?_⟩⟩
    · rw [len_app7]
      omega
    · exact ⟨_, rfl, _, rfl, a, C, rfl, T, nf, .inl ⟨ha, fun dx hd ne => k dx hd ne⟩⟩
end
end RS
set_option Elab.async false
set_option maxRecDepth 100000
set_option maxHeartbeats 4000000
namespace RS
open PySem PySem.Spec PyProof.Rows L2 GX LM
/-! ### what one reads of the classes of the errors -/
theorem kit_ne {K : PySem.W.Frag} {D C : Addr} {b : Bool} (hne : D ≠ C) (h1 : PySem.W.isClsIn K C = true) (h2 : PySem.W.typeIn K (.ref C) = some (.type "type")) (h3 : PySem.W.subIn K (.ref D) (.ref C) = some b) : PySem.W.kitOne K (.ref D) (.ref C) = some b := by
  have e0 : ((Value.ref D : Value) == .ref C) = false := by
    rw [beq_eq_false_iff_ne]
    exact fun z => hne (Value.ref.inj z)
  have e2 : ((PySem.W.clsIn K C).isSome && PySem.W.typeIn K (.ref C) == some (.type "type")) = true := by
    have h1' : (PySem.W.clsIn K C).isSome = true := h1
    rw [h1', h2] <;> rfl
  unfold PySem.W.kitOne
  rw [if_neg (by rw [e0]; decide)]
  show (if ((PySem.W.clsIn K C).isSome && PySem.W.typeIn K (.ref C) == some (.type "type")) = true then PySem.W.subIn K (.ref D) (.ref C) else none) = some b
  rw [if_pos e2]
  exact h3
theorem kit_same {K : PySem.W.Frag} {D : Addr} : PySem.W.kitOne K (.ref D) (.ref D) = some true := by
  unfold PySem.W.kitOne
  rw [if_pos (beq_self_eq_true _)]
theorem kit_ve {K : PySem.W.Frag} {D : Addr} (h : PySem.W.subIn K (.ref D) (.type "ValueError") = some true) : PySem.W.kitOne K (.ref D) (.type "ValueError") = some true := by
  unfold PySem.W.kitOne
  rw [if_neg (show ¬((Value.ref D : Value) == .type "ValueError") = true from fun z => by have := beq_iff_eq.mp z; cases this)]
  show (if PySem.W.kitMeta "ValueError" = true then PySem.W.subIn K (.ref D) (.type "ValueError") else none) = some true
  rw [if_pos (by decide +kernel)]
  exact h
theorem exm_mk {K : PySem.W.Frag} {D S : Addr} (h1 : PySem.W.subIn K (.ref S) (.type "BaseException") = some true) (h2 : PySem.W.isClsIn K S = true) (h3 : PySem.W.typeIn K (.ref S) = some (.type "type")) (h4 : PySem.W.subIn K (.ref D) (.ref S) = some true) :
    PySem.W.exmOne K (.ref D) (.ref S) = some true := by
  have e1 : (PySem.W.subIn K (.ref S) (.type "BaseException") == some true) = true := by rw [h1] <;> rfl
  have e2 : ((PySem.W.clsIn K S).isSome && PySem.W.typeIn K (.ref S) == some (.type "type")) = true := by
    have h2' : (PySem.W.clsIn K S).isSome = true := h2
    rw [h2', h3] <;> rfl
  show (if (PySem.W.subIn K (.ref S) (.type "BaseException") == some true) = true then (if ((PySem.W.clsIn K S).isSome && PySem.W.typeIn K (.ref S) == some (.type "type")) = true then PySem.W.subIn K (.ref D) (.ref S) else none) else none) = some true
  rw [if_pos e1, if_pos e2]
  exact h4
/-- what one class of an error shows -/
structure OneE (K : PySem.W.Frag) (SE D : Addr) : Prop where
  exc : ExcC K D
  ve : PySem.W.subIn K (.ref D) (.type "ValueError") = some true
  se : PySem.W.exmOne K (.ref D) (.ref SE) = some true
theorem own15_mk {K : PySem.W.Frag} {C : Nat → Addr} {SE : Addr} {j : Nat} (hj : j < 15) (E : OneE K SE (C j)) (cl : ∀ i < 15, PySem.W.isClsIn K (C i) = true ∧ PySem.W.typeIn K (.ref (C i)) = some (.type "type")) (no : ∀ i < 15, i ≠ j → C j ≠ C i ∧ PySem.W.subIn K (.ref (C j)) (.ref (C i)) = some false) : Own15 K C (C j) j := by
  refine ⟨hj, E.exc, fun i hi => ?_, kit_ve E.ve⟩
  by_cases e : i = j
  · subst e
    rw [kit_same, decide_eq_true rfl]
  · obtain ⟨n1, n2⟩ := no i hi e
    rw [kit_ne n1 (cl i hi).1 (cl i hi).2 n2, decide_eq_false e]
def listC (cs : List Addr) : Nat → Addr := fun i => cs.getD i 0
end RS
set_option Elab.async false
set_option maxRecDepth 100000
set_option maxHeartbeats 4000000
namespace RS
open PySem PySem.Spec PyProof.Rows L2 GX
/-- the end: the tables of the defs are empty at the law's entry -/
theorem walk_tabs {l : PySem.W.OpenLaw} {n k : Nat} {q : Program} {loose : List Str} {XP : (Str → Option Value) → Heap → Prop} {YP : World → Heap → Prop} {d : DefRec} {K : Params → PySem.W.Frag} {x : Str}
    (hn : l.most = some n) (hn2 : n ≤ sizeLine) (hdf : d.params.defaults = []) (hr : Room k callerA) (hY : ∀ (w : World) (h : Heap), YP w h → (K w.params).In h)
    (F : ∀ (w : World) (mg : Str → Option Value) (fa : Addr) (h : Heap), (K w.params).In h → h.Ns mainGlobals mg → mg d.name = some (.ref fa) →
      (∀ (y : Str) (d' : DefRec) (c P : Addr), (recsOf q).find? (fun e => e.name == y) = some d' → PySem.W.tabIn (K w.params) y = some (c, P) → PySem.W.CodeHd h c P ∧ h.get? P = some { cls := .none, data := .fields #[] }) →
      LamX.LawAtS l w (K w.params) CX0 k n x mg fa h) :
    PySem.W.WalkO q loose XP YP l.row.toRowW d [] (fun f vs => PySem.call f vs) := by
  refine Att.attach_callB hn hdf fun w s₀ s₁ mg mb fa o pm cd doc a vs ns G Y ho hd hcd hmg hobj hints hlen hbits hg => ?_
  have KX := hY w _ Y
  obtain ⟨fd, cs, sp, hT, nT, C, hb, hsp, hF⟩ := F w mg fa _ KX G.T.g hmg fun y d' c P e1 e2 => PySem.W.tab_of G.T KX e1 e2
  exact LamX.law_callTs KX G.T.g G.T.b G.T.builtins G.T.nolimit hg hT nT C G.T.bmain hobj hints (Nat.le_trans hlen hn2) hr hF hb (fun H hH hS => hsp H a ns hlen hbits hH hS) fun H e s' z => z
end RS
set_option Elab.async false
set_option maxRecDepth 100000
set_option maxHeartbeats 8000000
namespace RS
open PySem PySem.Spec PyProof.Rows L2 GX HQ LM
theorem def_at {K : PySem.W.Frag} {h : Heap} {mg : Str → Option Value} {x : Str} {st : Stmt} {f c : Addr} {oc kV doc pm ct : Value} {od an : Option Addr} {osl : Array (Option Value)} (X : K.In h) (G : h.Ns mainGlobals mg) (a : PySem.W.nsIn K mainGlobals x = some (some (.ref f)))
    (l : K.lookup f = some ⟨oc, od, .func (PySem.W.fnOf x x (defArgs st) (defBody st) (defScope st) .none kV doc pm an (.ref c) ct), osl⟩) (e : PySem.W.codeIn K (.ref c) x = true) (k : PySem.W.keepIn K (.ref f) = true) : DefAt K mg x st c :=
  ⟨f, oc, od, kV, doc, pm, an, ct, osl, PySem.W.mg_of X G a, l, e, k⟩
theorem two_in {K : PySem.W.Frag} {a : Addr} {x y : Str} {t u : Tok} {od : Option Addr} {n : Nat} {sl : Array (Option Value)} (h : K.lookup a = some ⟨.type "tuple", od, .seq #[.str x t, .str y u] n, sl⟩) : ∀ H, SqT K H a [.str x, .str y] :=
  fun _ => .inr ⟨_, #[.str x t, .str y u], n, h, rfl, rfl, by show 2 ≤ sizeLine; decide, .cons ⟨t, rfl⟩ (.cons ⟨u, rfl⟩ .nil)⟩
theorem tabB_of {base : Heap} {mg : Str → Option Value} {c P : Addr} (h : LamX.TabB base mg c P) : GxR.TabB base mg c P := ⟨h.code, h.bm, h.gP⟩
theorem tab_in {K : PySem.W.Frag} {x : Str} {st : Stmt} {f c P : Addr} {oc kV doc pm ct e : Value} {od an dd : Option Addr} {osl sl : Array (Option Value)} {vs : Array Value} (a : PySem.W.nsIn K mainGlobals x = some (some (.ref f)))
    (l : K.lookup f = some ⟨oc, od, .func (PySem.W.fnOf x x (defArgs st) (defBody st) (defScope st) .none kV doc pm an (.ref c) ct), osl⟩) (h1 : K.lookup c = some ⟨e, dd, .fields vs, sl⟩) (h2 : vs[11]? = some (.ref P)) : PySem.W.tabIn K x = some (c, P) := by
  unfold PySem.W.tabIn
  rw [a]
  dsimp only
  rw [l]
  show (match K.lookup c with
    | some ⟨_, _, .fields vs, _⟩ => (match (vs[11]? : Option Value) with
      | some (.ref P) => some (c, P)
      | _ => none)
    | _ => none) = some (c, P)
  rw [h1]
  dsimp only
  rw [h2]
theorem all_mk {l : PySem.W.OpenLaw} {w : World} {K : PySem.W.Frag} {h : Heap} {mg : Str → Option Value} {fa pL pT pZ : Addr} {q : Program} {dL dT dZ : DefRec} {eL eT eZ : Value} {ddL ddT ddZ : Option Addr} {vsL vsT vsZ : Array Value} {stL stT stZ : Array (Option Value)} (tabs : ∀ (y : Str) (d' : DefRec) (c P : Addr), (recsOf q).find? (fun e => e.name == y) = some d' → PySem.W.tabIn K y = some (c, P) → PySem.W.CodeHd h c P ∧ h.get? P = some { cls := .none, data := .fields #[] }) (X : K.In h) (G : h.Ns mainGlobals mg) (hfa : mg "law" = some (.ref fa))
    {f0 c0 : Addr} {oc0 kV0 dc0 pm0 ct0 : Value} {od0 an0 : Option Addr} {sl0 : Array (Option Value)}
    {f1 c1 : Addr} {oc1 kV1 dc1 pm1 ct1 : Value} {od1 an1 : Option Addr} {sl1 : Array (Option Value)}
    {f2 c2 : Addr} {oc2 kV2 dc2 pm2 ct2 : Value} {od2 an2 : Option Addr} {sl2 : Array (Option Value)}
    {f3 c3 : Addr} {oc3 kV3 dc3 pm3 ct3 : Value} {od3 an3 : Option Addr} {sl3 : Array (Option Value)}
    {f4 c4 : Addr} {oc4 kV4 dc4 pm4 ct4 : Value} {od4 an4 : Option Addr} {sl4 : Array (Option Value)}
    {f5 c5 : Addr} {oc5 kV5 dc5 pm5 ct5 : Value} {od5 an5 : Option Addr} {sl5 : Array (Option Value)}
    {f6 c6 : Addr} {oc6 kV6 dc6 pm6 ct6 : Value} {od6 an6 : Option Addr} {sl6 : Array (Option Value)}
    {f7 c7 : Addr} {oc7 kV7 dc7 pm7 ct7 : Value} {od7 an7 : Option Addr} {sl7 : Array (Option Value)}
    {f8 c8 : Addr} {oc8 kV8 dc8 pm8 ct8 : Value} {od8 an8 : Option Addr} {sl8 : Array (Option Value)}
    {f9 c9 : Addr} {oc9 kV9 dc9 pm9 ct9 : Value} {od9 an9 : Option Addr} {sl9 : Array (Option Value)}
    {f10 c10 : Addr} {oc10 kV10 dc10 pm10 ct10 : Value} {od10 an10 : Option Addr} {sl10 : Array (Option Value)}
    {f11 c11 : Addr} {oc11 kV11 dc11 pm11 ct11 : Value} {od11 an11 : Option Addr} {sl11 : Array (Option Value)}
    {f12 c12 : Addr} {oc12 kV12 dc12 pm12 ct12 : Value} {od12 an12 : Option Addr} {sl12 : Array (Option Value)}
    {f13 c13 : Addr} {oc13 kV13 dc13 pm13 ct13 : Value} {od13 an13 : Option Addr} {sl13 : Array (Option Value)}
    {f14 c14 : Addr} {oc14 kV14 dc14 pm14 ct14 : Value} {od14 an14 : Option Addr} {sl14 : Array (Option Value)}
    {f15 c15 : Addr} {oc15 kV15 dc15 pm15 ct15 : Value} {od15 an15 : Option Addr} {sl15 : Array (Option Value)}
    {f16 c16 : Addr} {oc16 kV16 dc16 pm16 ct16 : Value} {od16 an16 : Option Addr} {sl16 : Array (Option Value)}
    {f17 c17 : Addr} {oc17 kV17 dc17 pm17 ct17 : Value} {od17 an17 : Option Addr} {sl17 : Array (Option Value)}
    {f18 c18 : Addr} {oc18 kV18 dc18 pm18 ct18 : Value} {od18 an18 : Option Addr} {sl18 : Array (Option Value)}
    {f19 c19 : Addr} {oc19 kV19 dc19 pm19 ct19 : Value} {od19 an19 : Option Addr} {sl19 : Array (Option Value)}
    {f20 c20 : Addr} {oc20 kV20 dc20 pm20 ct20 : Value} {od20 an20 : Option Addr} {sl20 : Array (Option Value)}
    {t1 t2 t3 t4 : Tok}
    {CStretches : Addr}
    {mfStretches0 : Addr} {mocStretches0 mkVStretches0 mdcStretches0 mpmStretches0 mctStretches0 mcdStretches0 : Value} {modStretches0 manStretches0 : Option Addr} {mslStretches0 : Array (Option Value)}
    {mfStretches1 : Addr} {mocStretches1 mkVStretches1 mdcStretches1 mpmStretches1 mctStretches1 mcdStretches1 : Value} {modStretches1 manStretches1 : Option Addr} {mslStretches1 : Array (Option Value)}
    {mfStretches2 : Addr} {mocStretches2 mkVStretches2 mdcStretches2 mpmStretches2 mctStretches2 mcdStretches2 : Value} {modStretches2 manStretches2 : Option Addr} {mslStretches2 : Array (Option Value)}
    {mfStretches3 : Addr} {mocStretches3 mkVStretches3 mdcStretches3 mpmStretches3 mctStretches3 mcdStretches3 : Value} {modStretches3 manStretches3 : Option Addr} {mslStretches3 : Array (Option Value)}
    {mfStretches4 : Addr} {mocStretches4 mkVStretches4 mdcStretches4 mpmStretches4 mctStretches4 mcdStretches4 : Value} {modStretches4 manStretches4 : Option Addr} {mslStretches4 : Array (Option Value)}
    {mfStretches5 : Addr} {mocStretches5 mkVStretches5 mdcStretches5 mpmStretches5 mctStretches5 mcdStretches5 : Value} {modStretches5 manStretches5 : Option Addr} {mslStretches5 : Array (Option Value)}
    {mfStretches6 : Addr} {mocStretches6 mkVStretches6 mdcStretches6 mpmStretches6 mctStretches6 mcdStretches6 : Value} {modStretches6 manStretches6 : Option Addr} {mslStretches6 : Array (Option Value)}
    {SE CC0 CC1 CC2 CC3 CC4 CC5 CC6 CC7 CC8 CC9 CC10 CC11 CC12 CC13 CC14 : Addr}
    (xCStretches : PySem.W.nsIn K mainGlobals "Stretches" = some (some (.ref CStretches)))
    (xpgStretches : PySem.W.plainGet K CStretches Str.empty = true)
    (xhdStretches : PySem.W.hasDictIn K CStretches = true)
    (xpoStretches : PySem.W.plainOver K CStretches = true)
    (xsaStretches : PySem.W.findIn K (.ref CStretches) "__setattr__" = some (some (.builtin "object.__setattr__")))
    (xmkStretches : PySem.W.makesIn K CStretches = true)
    (xkcStretches : PySem.W.keepIn K (.ref CStretches) = true)
    (xnStretches0 : PySem.W.findIn K (.ref CStretches) "lengths" = some none)
    (xnStretches1 : PySem.W.findIn K (.ref CStretches) "ways" = some none)
    (xnStretches2 : PySem.W.findIn K (.ref CStretches) "numbers" = some none)
    (xnStretches3 : PySem.W.findIn K (.ref CStretches) "parted" = some none)
    (maStretches0 : PySem.W.findIn K (.ref CStretches) "__init__" = some (some (.ref mfStretches0)))
    (miStretches0 : PySem.W.isFn K (.ref mfStretches0) = true)
    (mlStretches0 : K.lookup mfStretches0 = some ⟨mocStretches0, modStretches0, .func (PySem.W.fnOf "__init__" "Stretches.__init__" (defArgs s_Stretches_init) (defBody s_Stretches_init) (defScope s_Stretches_init) .none mkVStretches0 mdcStretches0 mpmStretches0 manStretches0 mcdStretches0 mctStretches0), mslStretches0⟩)
    (mcStretches0 : PySem.W.codeIn K mcdStretches0 "Stretches.__init__" = true)
    (mkStretches0 : PySem.W.keepIn K (.ref mfStretches0) = true)
    (maStretches1 : PySem.W.findIn K (.ref CStretches) "inner_first" = some (some (.ref mfStretches1)))
    (miStretches1 : PySem.W.isFn K (.ref mfStretches1) = true)
    (mlStretches1 : K.lookup mfStretches1 = some ⟨mocStretches1, modStretches1, .func (PySem.W.fnOf "inner_first" "Stretches.inner_first" (defArgs s_Stretches_inner_first) (defBody s_Stretches_inner_first) (defScope s_Stretches_inner_first) .none mkVStretches1 mdcStretches1 mpmStretches1 manStretches1 mcdStretches1 mctStretches1), mslStretches1⟩)
    (mcStretches1 : PySem.W.codeIn K mcdStretches1 "Stretches.inner_first" = true)
    (mkStretches1 : PySem.W.keepIn K (.ref mfStretches1) = true)
    (maStretches2 : PySem.W.findIn K (.ref CStretches) "noted" = some (some (.ref mfStretches2)))
    (miStretches2 : PySem.W.isFn K (.ref mfStretches2) = true)
    (mlStretches2 : K.lookup mfStretches2 = some ⟨mocStretches2, modStretches2, .func (PySem.W.fnOf "noted" "Stretches.noted" (defArgs s_Stretches_noted) (defBody s_Stretches_noted) (defScope s_Stretches_noted) .none mkVStretches2 mdcStretches2 mpmStretches2 manStretches2 mcdStretches2 mctStretches2), mslStretches2⟩)
    (mcStretches2 : PySem.W.codeIn K mcdStretches2 "Stretches.noted" = true)
    (mkStretches2 : PySem.W.keepIn K (.ref mfStretches2) = true)
    (maStretches3 : PySem.W.findIn K (.ref CStretches) "note" = some (some (.ref mfStretches3)))
    (miStretches3 : PySem.W.isFn K (.ref mfStretches3) = true)
    (mlStretches3 : K.lookup mfStretches3 = some ⟨mocStretches3, modStretches3, .func (PySem.W.fnOf "note" "Stretches.note" (defArgs s_Stretches_note) (defBody s_Stretches_note) (defScope s_Stretches_note) .none mkVStretches3 mdcStretches3 mpmStretches3 manStretches3 mcdStretches3 mctStretches3), mslStretches3⟩)
    (mcStretches3 : PySem.W.codeIn K mcdStretches3 "Stretches.note" = true)
    (mkStretches3 : PySem.W.keepIn K (.ref mfStretches3) = true)
    (maStretches4 : PySem.W.findIn K (.ref CStretches) "least" = some (some (.ref mfStretches4)))
    (miStretches4 : PySem.W.isFn K (.ref mfStretches4) = true)
    (mlStretches4 : K.lookup mfStretches4 = some ⟨mocStretches4, modStretches4, .func (PySem.W.fnOf "least" "Stretches.least" (defArgs s_Stretches_least) (defBody s_Stretches_least) (defScope s_Stretches_least) .none mkVStretches4 mdcStretches4 mpmStretches4 manStretches4 mcdStretches4 mctStretches4), mslStretches4⟩)
    (mcStretches4 : PySem.W.codeIn K mcdStretches4 "Stretches.least" = true)
    (mkStretches4 : PySem.W.keepIn K (.ref mfStretches4) = true)
    (maStretches5 : PySem.W.findIn K (.ref CStretches) "limit" = some (some (.ref mfStretches5)))
    (miStretches5 : PySem.W.isFn K (.ref mfStretches5) = true)
    (mlStretches5 : K.lookup mfStretches5 = some ⟨mocStretches5, modStretches5, .func (PySem.W.fnOf "limit" "Stretches.limit" (defArgs s_Stretches_limit) (defBody s_Stretches_limit) (defScope s_Stretches_limit) .none mkVStretches5 mdcStretches5 mpmStretches5 manStretches5 mcdStretches5 mctStretches5), mslStretches5⟩)
    (mcStretches5 : PySem.W.codeIn K mcdStretches5 "Stretches.limit" = true)
    (mkStretches5 : PySem.W.keepIn K (.ref mfStretches5) = true)
    (maStretches6 : PySem.W.findIn K (.ref CStretches) "plan" = some (some (.ref mfStretches6)))
    (miStretches6 : PySem.W.isFn K (.ref mfStretches6) = true)
    (mlStretches6 : K.lookup mfStretches6 = some ⟨mocStretches6, modStretches6, .func (PySem.W.fnOf "plan" "Stretches.plan" (defArgs s_Stretches_plan) (defBody s_Stretches_plan) (defScope s_Stretches_plan) .none mkVStretches6 mdcStretches6 mpmStretches6 manStretches6 mcdStretches6 mctStretches6), mslStretches6⟩)
    (mcStretches6 : PySem.W.codeIn K mcdStretches6 "Stretches.plan" = true)
    (mkStretches6 : PySem.W.keepIn K (.ref mfStretches6) = true)
    (sg : PySem.W.nsIn K mainGlobals "SortError" = some (some (.ref SE)))
    (scl : PySem.W.isClsIn K SE = true)
    (sty : PySem.W.typeIn K (.ref SE) = some (.type "type"))
    (sbe : PySem.W.subIn K (.ref SE) (.type "BaseException") = some true)
    (srd : PySem.W.readsIn K SE (.type "type") = true)
    (sga : PySem.W.specialIn K (.ref SE) "__getattribute__" = some (some (.builtin "type.__getattribute__")))
    (sfi : PySem.W.findCls K (.ref SE) (.type "type") "__init__" = some (.val (.builtin "ValueError.__init__")))
    (ohn : PySem.W.specialIn K (.builtin "object.__class__") "__get__" = some (some (.builtin "getset_descriptor.__get__")))
    (oht : PySem.W.takesIn K (.builtin "object.__class__") = some true)
    (cg0 : PySem.W.nsIn K mainGlobals "BadKinds" = some (some (.ref CC0)))
    (cc0 : PySem.W.isClsIn K CC0 = true)
    (cy0 : PySem.W.typeIn K (.ref CC0) = some (.type "type"))
    (cg1 : PySem.W.nsIn K mainGlobals "BadOrder" = some (some (.ref CC1)))
    (cc1 : PySem.W.isClsIn K CC1 = true)
    (cy1 : PySem.W.typeIn K (.ref CC1) = some (.type "type"))
    (cg2 : PySem.W.nsIn K mainGlobals "BadRows" = some (some (.ref CC2)))
    (cc2 : PySem.W.isClsIn K CC2 = true)
    (cy2 : PySem.W.typeIn K (.ref CC2) = some (.type "type"))
    (cg3 : PySem.W.nsIn K mainGlobals "BadRuns" = some (some (.ref CC3)))
    (cc3 : PySem.W.isClsIn K CC3 = true)
    (cy3 : PySem.W.typeIn K (.ref CC3) = some (.type "type"))
    (cg4 : PySem.W.nsIn K mainGlobals "BadRoom" = some (some (.ref CC4)))
    (cc4 : PySem.W.isClsIn K CC4 = true)
    (cy4 : PySem.W.typeIn K (.ref CC4) = some (.type "type"))
    (cg5 : PySem.W.nsIn K mainGlobals "BadLengths" = some (some (.ref CC5)))
    (cc5 : PySem.W.isClsIn K CC5 = true)
    (cy5 : PySem.W.typeIn K (.ref CC5) = some (.type "type"))
    (cg6 : PySem.W.nsIn K mainGlobals "BadPlan" = some (some (.ref CC6)))
    (cc6 : PySem.W.isClsIn K CC6 = true)
    (cy6 : PySem.W.typeIn K (.ref CC6) = some (.type "type"))
    (cg7 : PySem.W.nsIn K mainGlobals "BadPaper" = some (some (.ref CC7)))
    (cc7 : PySem.W.isClsIn K CC7 = true)
    (cy7 : PySem.W.typeIn K (.ref CC7) = some (.type "type"))
    (cg8 : PySem.W.nsIn K mainGlobals "BadCount" = some (some (.ref CC8)))
    (cc8 : PySem.W.isClsIn K CC8 = true)
    (cy8 : PySem.W.typeIn K (.ref CC8) = some (.type "type"))
    (cg9 : PySem.W.nsIn K mainGlobals "BadBlock" = some (some (.ref CC9)))
    (cc9 : PySem.W.isClsIn K CC9 = true)
    (cy9 : PySem.W.typeIn K (.ref CC9) = some (.type "type"))
    (cg10 : PySem.W.nsIn K mainGlobals "Stopped" = some (some (.ref CC10)))
    (cc10 : PySem.W.isClsIn K CC10 = true)
    (cy10 : PySem.W.typeIn K (.ref CC10) = some (.type "type"))
    (cg11 : PySem.W.nsIn K mainGlobals "Shut" = some (some (.ref CC11)))
    (cc11 : PySem.W.isClsIn K CC11 = true)
    (cy11 : PySem.W.typeIn K (.ref CC11) = some (.type "type"))
    (cg12 : PySem.W.nsIn K mainGlobals "NotYet" = some (some (.ref CC12)))
    (cc12 : PySem.W.isClsIn K CC12 = true)
    (cy12 : PySem.W.typeIn K (.ref CC12) = some (.type "type"))
    (cg13 : PySem.W.nsIn K mainGlobals "Empty" = some (some (.ref CC13)))
    (cc13 : PySem.W.isClsIn K CC13 = true)
    (cy13 : PySem.W.typeIn K (.ref CC13) = some (.type "type"))
    (cg14 : PySem.W.nsIn K mainGlobals "BadText" = some (some (.ref CC14)))
    (cc14 : PySem.W.isClsIn K CC14 = true)
    (cy14 : PySem.W.typeIn K (.ref CC14) = some (.type "type"))
    (hg7 : PySem.W.findIn K (.ref CC7) "__getattribute__" = some (some (.builtin "BaseException.__getattribute__")))
    (hk7 : PySem.W.findIn K (.ref CC7) "__getattr__" = some none)
    (hs7 : PySem.W.subIn K (.ref CC7) (.type "BaseException") = some true)
    (hd7 : PySem.W.hasDictIn K CC7 = true)
    (ha7 : PySem.W.findIn K (.ref CC7) "__class__" = some (some (.builtin "object.__class__")))
    (hm7 : PySem.W.mroIn K CC7 (.type "object") = some true)
    (hv7 : PySem.W.subIn K (.ref CC7) (.type "ValueError") = some true)
    (hS7 : PySem.W.subIn K (.ref CC7) (.ref SE) = some true)
    (kc7 : PySem.W.keepIn K (.ref CC7) = true)
    (no7_0 : PySem.W.subIn K (.ref CC7) (.ref CC0) = some false)
    (ne7_0 : CC7 ≠ CC0)
    (no7_1 : PySem.W.subIn K (.ref CC7) (.ref CC1) = some false)
    (ne7_1 : CC7 ≠ CC1)
    (no7_2 : PySem.W.subIn K (.ref CC7) (.ref CC2) = some false)
    (ne7_2 : CC7 ≠ CC2)
    (no7_3 : PySem.W.subIn K (.ref CC7) (.ref CC3) = some false)
    (ne7_3 : CC7 ≠ CC3)
    (no7_4 : PySem.W.subIn K (.ref CC7) (.ref CC4) = some false)
    (ne7_4 : CC7 ≠ CC4)
    (no7_5 : PySem.W.subIn K (.ref CC7) (.ref CC5) = some false)
    (ne7_5 : CC7 ≠ CC5)
    (no7_6 : PySem.W.subIn K (.ref CC7) (.ref CC6) = some false)
    (ne7_6 : CC7 ≠ CC6)
    (no7_8 : PySem.W.subIn K (.ref CC7) (.ref CC8) = some false)
    (ne7_8 : CC7 ≠ CC8)
    (no7_9 : PySem.W.subIn K (.ref CC7) (.ref CC9) = some false)
    (ne7_9 : CC7 ≠ CC9)
    (no7_10 : PySem.W.subIn K (.ref CC7) (.ref CC10) = some false)
    (ne7_10 : CC7 ≠ CC10)
    (no7_11 : PySem.W.subIn K (.ref CC7) (.ref CC11) = some false)
    (ne7_11 : CC7 ≠ CC11)
    (no7_12 : PySem.W.subIn K (.ref CC7) (.ref CC12) = some false)
    (ne7_12 : CC7 ≠ CC12)
    (no7_13 : PySem.W.subIn K (.ref CC7) (.ref CC13) = some false)
    (ne7_13 : CC7 ≠ CC13)
    (no7_14 : PySem.W.subIn K (.ref CC7) (.ref CC14) = some false)
    (ne7_14 : CC7 ≠ CC14)
    (xE7 : PySem.W.excIn K CC7 [.type "ValueError", .type "Exception", .type "BaseException", .type "object"] "ValueError.__new__" = true)
    (a0 : PySem.W.nsIn K mainGlobals "is_number" = some (some (.ref f0))) (l0 : K.lookup f0 = some ⟨oc0, od0, .func (PySem.W.fnOf "is_number" "is_number" (defArgs sIsNumber) (defBody sIsNumber) (defScope sIsNumber) .none kV0 dc0 pm0 an0 (.ref c0) ct0), sl0⟩) (e0 : PySem.W.codeIn K (.ref c0) "is_number" = true) (k0 : PySem.W.keepIn K (.ref f0) = true)
    (a1 : PySem.W.nsIn K mainGlobals "check_lengths" = some (some (.ref f1))) (l1 : K.lookup f1 = some ⟨oc1, od1, .func (PySem.W.fnOf "check_lengths" "check_lengths" (defArgs s_check_lengths) (defBody s_check_lengths) (defScope s_check_lengths) .none kV1 dc1 pm1 an1 (.ref c1) ct1), sl1⟩) (e1 : PySem.W.codeIn K (.ref c1) "check_lengths" = true) (k1 : PySem.W.keepIn K (.ref f1) = true)
    (a2 : PySem.W.nsIn K mainGlobals "check_ways" = some (some (.ref f2))) (l2 : K.lookup f2 = some ⟨oc2, od2, .func (PySem.W.fnOf "check_ways" "check_ways" (defArgs s_check_ways) (defBody s_check_ways) (defScope s_check_ways) .none kV2 dc2 pm2 an2 (.ref c2) ct2), sl2⟩) (e2 : PySem.W.codeIn K (.ref c2) "check_ways" = true) (k2 : PySem.W.keepIn K (.ref f2) = true)
    (a3 : PySem.W.nsIn K mainGlobals "check_merging" = some (some (.ref f3))) (l3 : K.lookup f3 = some ⟨oc3, od3, .func (PySem.W.fnOf "check_merging" "check_merging" (defArgs s_check_merging) (defBody s_check_merging) (defScope s_check_merging) .none kV3 dc3 pm3 an3 (.ref c3) ct3), sl3⟩) (e3 : PySem.W.codeIn K (.ref c3) "check_merging" = true) (k3 : PySem.W.keepIn K (.ref f3) = true)
    (a4 : PySem.W.nsIn K mainGlobals "bound" = some (some (.ref f4))) (l4 : K.lookup f4 = some ⟨oc4, od4, .func (PySem.W.fnOf "bound" "bound" (defArgs s_bound) (defBody s_bound) (defScope s_bound) .none kV4 dc4 pm4 an4 (.ref c4) ct4), sl4⟩) (e4 : PySem.W.codeIn K (.ref c4) "bound" = true) (k4 : PySem.W.keepIn K (.ref f4) = true)
    (a5 : PySem.W.nsIn K mainGlobals "paper" = some (some (.ref f5))) (l5 : K.lookup f5 = some ⟨oc5, od5, .func (PySem.W.fnOf "paper" "paper" (defArgs s_paper) (defBody s_paper) (defScope s_paper) .none kV5 dc5 pm5 an5 (.ref c5) ct5), sl5⟩) (e5 : PySem.W.codeIn K (.ref c5) "paper" = true) (k5 : PySem.W.keepIn K (.ref f5) = true)
    (a6 : PySem.W.nsIn K mainGlobals "cheapest_stretches" = some (some (.ref f6))) (l6 : K.lookup f6 = some ⟨oc6, od6, .func (PySem.W.fnOf "cheapest_stretches" "cheapest_stretches" (defArgs s_cheapest_stretches) (defBody s_cheapest_stretches) (defScope s_cheapest_stretches) .none kV6 dc6 pm6 an6 (.ref c6) ct6), sl6⟩) (e6 : PySem.W.codeIn K (.ref c6) "cheapest_stretches" = true) (k6 : PySem.W.keepIn K (.ref f6) = true)
    (a7 : PySem.W.nsIn K mainGlobals "told_numbers" = some (some (.ref f7))) (l7 : K.lookup f7 = some ⟨oc7, od7, .func (PySem.W.fnOf "told_numbers" "told_numbers" (defArgs s_told_numbers) (defBody s_told_numbers) (defScope s_told_numbers) .none kV7 dc7 pm7 an7 (.ref c7) ct7), sl7⟩) (e7 : PySem.W.codeIn K (.ref c7) "told_numbers" = true) (k7 : PySem.W.keepIn K (.ref f7) = true)
    (a8 : PySem.W.nsIn K mainGlobals "_law_begun" = some (some (.ref f8))) (l8 : K.lookup f8 = some ⟨oc8, od8, .func (PySem.W.fnOf "_law_begun" "_law_begun" (defArgs sBegun) (defBody sBegun) (defScope sBegun) .none kV8 dc8 pm8 an8 (.ref c8) ct8), sl8⟩) (e8 : PySem.W.codeIn K (.ref c8) "_law_begun" = true) (k8 : PySem.W.keepIn K (.ref f8) = true)
    (a9 : PySem.W.nsIn K mainGlobals "_law_take" = some (some (.ref f9))) (l9 : K.lookup f9 = some ⟨oc9, od9, .func (PySem.W.fnOf "_law_take" "_law_take" (defArgs sTake) (defBody sTake) (defScope sTake) .none kV9 dc9 pm9 an9 (.ref c9) ct9), sl9⟩) (e9 : PySem.W.codeIn K (.ref c9) "_law_take" = true) (k9 : PySem.W.keepIn K (.ref f9) = true)
    (a10 : PySem.W.nsIn K mainGlobals "_law_alike" = some (some (.ref f10))) (l10 : K.lookup f10 = some ⟨oc10, od10, .func (PySem.W.fnOf "_law_alike" "_law_alike" (defArgs sAlike) (defBody sAlike) (defScope sAlike) .none kV10 dc10 pm10 an10 (.ref c10) ct10), sl10⟩) (e10 : PySem.W.codeIn K (.ref c10) "_law_alike" = true) (k10 : PySem.W.keepIn K (.ref f10) = true)
    (a11 : PySem.W.nsIn K mainGlobals "_law_class" = some (some (.ref f11))) (l11 : K.lookup f11 = some ⟨oc11, od11, .func (PySem.W.fnOf "_law_class" "_law_class" (defArgs sClass) (defBody sClass) (defScope sClass) .none kV11 dc11 pm11 an11 (.ref c11) ct11), sl11⟩) (e11 : PySem.W.codeIn K (.ref c11) "_law_class" = true) (k11 : PySem.W.keepIn K (.ref f11) = true)
    (a12 : PySem.W.nsIn K mainGlobals "_law_told" = some (some (.ref f12))) (l12 : K.lookup f12 = some ⟨oc12, od12, .func (PySem.W.fnOf "_law_told" "_law_told" (defArgs sTold) (defBody sTold) (defScope sTold) .none kV12 dc12 pm12 an12 (.ref c12) ct12), sl12⟩) (e12 : PySem.W.codeIn K (.ref c12) "_law_told" = true) (k12 : PySem.W.keepIn K (.ref f12) = true)
    (a13 : PySem.W.nsIn K mainGlobals "_law_lengths" = some (some (.ref f13))) (l13 : K.lookup f13 = some ⟨oc13, od13, .func (PySem.W.fnOf "_law_lengths" "_law_lengths" (defArgs s__law_lengths) (defBody s__law_lengths) (defScope s__law_lengths) .none kV13 dc13 pm13 an13 (.ref c13) ct13), sl13⟩) (e13 : PySem.W.codeIn K (.ref c13) "_law_lengths" = true) (k13 : PySem.W.keepIn K (.ref f13) = true)
    (a14 : PySem.W.nsIn K mainGlobals "_law_side" = some (some (.ref f14))) (l14 : K.lookup f14 = some ⟨oc14, od14, .func (PySem.W.fnOf "_law_side" "_law_side" (defArgs s__law_side) (defBody s__law_side) (defScope s__law_side) .none kV14 dc14 pm14 an14 (.ref c14) ct14), sl14⟩) (e14 : PySem.W.codeIn K (.ref c14) "_law_side" = true) (k14 : PySem.W.keepIn K (.ref f14) = true)
    (a15 : PySem.W.nsIn K mainGlobals "_law_in" = some (some (.ref f15))) (l15 : K.lookup f15 = some ⟨oc15, od15, .func (PySem.W.fnOf "_law_in" "_law_in" (defArgs s__law_in) (defBody s__law_in) (defScope s__law_in) .none kV15 dc15 pm15 an15 (.ref c15) ct15), sl15⟩) (e15 : PySem.W.codeIn K (.ref c15) "_law_in" = true) (k15 : PySem.W.keepIn K (.ref f15) = true)
    (a16 : PySem.W.nsIn K mainGlobals "_law_cost" = some (some (.ref f16))) (l16 : K.lookup f16 = some ⟨oc16, od16, .func (PySem.W.fnOf "_law_cost" "_law_cost" (defArgs s__law_cost) (defBody s__law_cost) (defScope s__law_cost) .none kV16 dc16 pm16 an16 (.ref c16) ct16), sl16⟩) (e16 : PySem.W.codeIn K (.ref c16) "_law_cost" = true) (k16 : PySem.W.keepIn K (.ref f16) = true)
    (a17 : PySem.W.nsIn K mainGlobals "_law_cuts" = some (some (.ref f17))) (l17 : K.lookup f17 = some ⟨oc17, od17, .func (PySem.W.fnOf "_law_cuts" "_law_cuts" (defArgs s__law_cuts) (defBody s__law_cuts) (defScope s__law_cuts) .none kV17 dc17 pm17 an17 (.ref c17) ct17), sl17⟩) (e17 : PySem.W.codeIn K (.ref c17) "_law_cuts" = true) (k17 : PySem.W.keepIn K (.ref f17) = true)
    (a18 : PySem.W.nsIn K mainGlobals "_law_due" = some (some (.ref f18))) (l18 : K.lookup f18 = some ⟨oc18, od18, .func (PySem.W.fnOf "_law_due" "_law_due" (defArgs s__law_due) (defBody s__law_due) (defScope s__law_due) .none kV18 dc18 pm18 an18 (.ref c18) ct18), sl18⟩) (e18 : PySem.W.codeIn K (.ref c18) "_law_due" = true) (k18 : PySem.W.keepIn K (.ref f18) = true)
    (a19 : PySem.W.nsIn K mainGlobals "_law_bent" = some (some (.ref f19))) (l19 : K.lookup f19 = some ⟨oc19, od19, .func (PySem.W.fnOf "_law_bent" "_law_bent" (defArgs s__law_bent) (defBody s__law_bent) (defScope s__law_bent) .none kV19 dc19 pm19 an19 (.ref c19) ct19), sl19⟩) (e19 : PySem.W.codeIn K (.ref c19) "_law_bent" = true) (k19 : PySem.W.keepIn K (.ref f19) = true)
    (a20 : PySem.W.nsIn K mainGlobals "law" = some (some (.ref f20))) (l20 : K.lookup f20 = some ⟨oc20, od20, .func (PySem.W.fnOf "law" "law" (defArgs sLaw) (defBody sLaw) (defScope sLaw) .none kV20 dc20 pm20 an20 (.ref c20) ct20), sl20⟩) (e20 : PySem.W.codeIn K (.ref c20) "law" = true) (k20 : PySem.W.keepIn K (.ref f20) = true)
    (z0 : PySem.W.nsIn K mainGlobals "isinstance" = some none)
    (z1 : PySem.W.nsIn K mainGlobals "int" = some none)
    (z2 : PySem.W.nsIn K mainGlobals "bool" = some none)
    (z3 : PySem.W.nsIn K mainGlobals "str" = some none)
    (z4 : PySem.W.nsIn K mainGlobals "list" = some none)
    (z5 : PySem.W.nsIn K mainGlobals "tuple" = some none)
    (z6 : PySem.W.nsIn K mainGlobals "len" = some none)
    (z7 : PySem.W.nsIn K mainGlobals "all" = some none)
    (z8 : PySem.W.nsIn K mainGlobals "zip" = some none)
    (z9 : PySem.W.nsIn K mainGlobals "enumerate" = some none)
    (z10 : PySem.W.nsIn K mainGlobals "ord" = some none)
    (z11 : PySem.W.nsIn K mainGlobals "range" = some none)
    (z12 : PySem.W.nsIn K mainGlobals "sorted" = some none)
    (z13 : PySem.W.nsIn K mainGlobals "max" = some none)
    (z14 : PySem.W.nsIn K mainGlobals "min" = some none)
    (y0 : PySem.W.nsIn K mainGlobals "MOST_LENGTHS" = some (some (.int 40 t1)))
    (y1 : PySem.W.nsIn K mainGlobals "MOST_LENGTH" = some (some (.int 1000000 t2)))
    (y2 : PySem.W.nsIn K mainGlobals "LEAST_WAYS" = some (some (.int 2 t3)))
    (y3 : PySem.W.nsIn K mainGlobals "MOST_WAYS" = some (some (.int 6 t4)))
    (zzsum : PySem.W.nsIn K mainGlobals "sum" = some none)
    (zzValueError : PySem.W.nsIn K mainGlobals "ValueError" = some none)
    (rL : (recsOf q).find? (fun e => e.name == ("check_lengths" : Str)) = some dL) (hL : K.lookup c1 = some ⟨eL, ddL, .fields vsL, stL⟩) (iL : vsL[11]? = some (.ref pL)) (nL' : K.lookup pL = none)
    (rT : (recsOf q).find? (fun e => e.name == ("told_numbers" : Str)) = some dT) (hT : K.lookup c7 = some ⟨eT, ddT, .fields vsT, stT⟩) (iT : vsT[11]? = some (.ref pT)) (nT' : K.lookup pT = none)
    (rZ : (recsOf q).find? (fun e => e.name == ("law" : Str)) = some dZ) (hZ : K.lookup c20 = some ⟨eZ, ddZ, .fields vsZ, stZ⟩) (iZ : vsZ[11]? = some (.ref pZ)) (nZ' : K.lookup pZ = none)
    (dZL' : pZ ≠ pL)
    (dZT' : pZ ≠ pT)
    : LamX.LawAtS l w K CX0 85 63 "_law_script" mg fa h := by
  have efa := hfa.symm.trans (PySem.W.mg_of X G a20)
  cases efa
  have gL := tabs "check_lengths" dL c1 pL rL (tab_in (st := s_check_lengths) a1 l1 hL iL)
  have gT := tabs "told_numbers" dT c7 pT rT (tab_in (st := s_told_numbers) a7 l7 hT iT)
  have gZ := tabs "law" dZ c20 pZ rZ (tab_in (st := sLaw) a20 l20 hZ iZ)
  have T : Txt K mg := ⟨PySem.W.mg_none_of X G z0, PySem.W.mg_none_of X G z1, PySem.W.mg_none_of X G z2, PySem.W.mg_none_of X G z3, PySem.W.mg_none_of X G z4, PySem.W.mg_none_of X G z5, PySem.W.mg_none_of X G z6, PySem.W.mg_none_of X G z7, PySem.W.mg_none_of X G z8, PySem.W.mg_none_of X G z9, PySem.W.mg_none_of X G z10, PySem.W.mg_none_of X G z11, PySem.W.mg_none_of X G z12, PySem.W.mg_none_of X G z13, PySem.W.mg_none_of X G z14, ⟨t1, PySem.W.mg_of X G y0⟩, ⟨t2, PySem.W.mg_of X G y1⟩, ⟨t3, PySem.W.mg_of X G y2⟩, ⟨t4, PySem.W.mg_of X G y3⟩⟩
  have Zsum : mg "sum" = none := PySem.W.mg_none_of X G zzsum
  have ZValueError : mg "ValueError" = none := PySem.W.mg_none_of X G zzValueError
  have D0 := def_at (st := sIsNumber) X G a0 l0 e0 k0
  have D1 := def_at (st := s_check_lengths) X G a1 l1 e1 k1
  have D2 := def_at (st := s_check_ways) X G a2 l2 e2 k2
  have D3 := def_at (st := s_check_merging) X G a3 l3 e3 k3
  have D4 := def_at (st := s_bound) X G a4 l4 e4 k4
  have D5 := def_at (st := s_paper) X G a5 l5 e5 k5
  have D6 := def_at (st := s_cheapest_stretches) X G a6 l6 e6 k6
  have D7 := def_at (st := s_told_numbers) X G a7 l7 e7 k7
  have D8 := def_at (st := sBegun) X G a8 l8 e8 k8
  have D9 := def_at (st := sTake) X G a9 l9 e9 k9
  have D10 := def_at (st := sAlike) X G a10 l10 e10 k10
  have D11 := def_at (st := sClass) X G a11 l11 e11 k11
  have D12 := def_at (st := sTold) X G a12 l12 e12 k12
  have D13 := def_at (st := s__law_lengths) X G a13 l13 e13 k13
  have D14 := def_at (st := s__law_side) X G a14 l14 e14 k14
  have D15 := def_at (st := s__law_in) X G a15 l15 e15 k15
  have D16 := def_at (st := s__law_cost) X G a16 l16 e16 k16
  have D17 := def_at (st := s__law_cuts) X G a17 l17 e17 k17
  have D18 := def_at (st := s__law_due) X G a18 l18 e18 k18
  have D19 := def_at (st := s__law_bent) X G a19 l19 e19 k19
  have D20 := def_at (st := sLaw) X G a20 l20 e20 k20
  refine ⟨PySem.W.fnOf "law" "law" (defArgs sLaw) (defBody sLaw) (defScope sLaw) .none kV20 dc20 pm20 an20 (.ref c20) ct20, [(c1, pL), (c7, pT), (c20, pZ)], spT [pL, pT] (spLaw10 K pL pT pZ), ?_, ?_, ?_, fun s v => .of_eq rfl, ?_, fun base KB GB TB => ?_⟩
  · intro p hp
    simp only [List.mem_cons, List.not_mem_nil, or_false] at hp
    rcases hp with rfl | rfl | rfl
    · exact gL.2
    · exact gT.2
    · exact gZ.2
  · intro p hp
    simp only [List.mem_cons, List.not_mem_nil, or_false] at hp
    rcases hp with rfl | rfl | rfl
    · exact nL'
    · exact nT'
    · exact nZ'
  · intro p hp
    simp only [List.mem_cons, List.not_mem_nil, or_false] at hp
    rcases hp with rfl | rfl | rfl
    · exact gL.1
    · exact gT.1
    · exact gZ.1
  · intro H a ns hl hb hT hS
    have hT2 : ∀ b ∈ [pL, pT], H b = some (.tbl #[]) := fun b hb => by
      simp only [List.mem_cons, List.not_mem_nil, or_false] at hb
      rcases hb with rfl | rfl
      · exact hT (c1, b) (by simp)
      · exact hT (c7, b) (by simp)
    have hFZ : H pZ = some (.tbl #[]) := hT (c20, pZ) (by simp)
    refine ⟨hT2, a, ns, rfl, ?_, ext_in (by simp), ext_in (by simp), .nil ((ext_out (by simp [dZL', dZT'])).trans hFZ), fun H' tL tT => ⟨fun b hb => ?_, fun _ => rfl⟩⟩
    · rcases hS with (hS | ⟨o, hS⟩) | hS
      · refine .inl (.inl ?_)
        rw [ext_out fun hb => by rw [hT2 a hb] at hS; cases hS]
        exact hS
      · refine .inl (.inr ⟨o, ?_⟩)
        rw [ext_out fun hb => by rw [hT2 a hb] at hS; cases hS]
        exact hS
      · exact .inr hS
    · simp only [List.mem_cons, List.not_mem_nil, or_false] at hb
      rcases hb with rfl | rfl
      · exact tL
      · exact tT
  · have bL := TB (c1, pL) (by simp)
    have bT := TB (c7, pT) (by simp)
    have bZ := TB (c20, pZ) (by simp)
    let CC : Nat → Addr := listC [CC0, CC1, CC2, CC3, CC4, CC5, CC6, CC7, CC8, CC9, CC10, CC11, CC12, CC13, CC14]
    have gSE := PySem.W.mg_of X G sg
    have G15 : Cls15 mg CC := ⟨PySem.W.mg_of X G cg0, PySem.W.mg_of X G cg1, PySem.W.mg_of X G cg2, PySem.W.mg_of X G cg3, PySem.W.mg_of X G cg4, PySem.W.mg_of X G cg5, PySem.W.mg_of X G cg6, PySem.W.mg_of X G cg7, PySem.W.mg_of X G cg8, PySem.W.mg_of X G cg9, PySem.W.mg_of X G cg10, PySem.W.mg_of X G cg11, PySem.W.mg_of X G cg12, PySem.W.mg_of X G cg13, PySem.W.mg_of X G cg14⟩
    have cl15 : ∀ i < 15, PySem.W.isClsIn K (CC i) = true ∧ PySem.W.typeIn K (.ref (CC i)) = some (.type "type") := fun i hi => match i, hi with
      | 0, _ => ⟨cc0, cy0⟩
      | 1, _ => ⟨cc1, cy1⟩
      | 2, _ => ⟨cc2, cy2⟩
      | 3, _ => ⟨cc3, cy3⟩
      | 4, _ => ⟨cc4, cy4⟩
      | 5, _ => ⟨cc5, cy5⟩
      | 6, _ => ⟨cc6, cy6⟩
      | 7, _ => ⟨cc7, cy7⟩
      | 8, _ => ⟨cc8, cy8⟩
      | 9, _ => ⟨cc9, cy9⟩
      | 10, _ => ⟨cc10, cy10⟩
      | 11, _ => ⟨cc11, cy11⟩
      | 12, _ => ⟨cc12, cy12⟩
      | 13, _ => ⟨cc13, cy13⟩
      | 14, _ => ⟨cc14, cy14⟩
    have oe7 : OneE K SE CC7 := ⟨⟨hg7, hk7, hs7, hd7, ha7, ohn, oht, hm7⟩, hv7, exm_mk sbe scl sty hS7⟩
    have o15_7 : Own15 K CC CC7 7 := own15_mk (C := CC) (j := 7) (by decide) oe7 cl15 fun i hi n => match i, hi, n with
      | 0, _, _ => ⟨ne7_0, no7_0⟩
      | 1, _, _ => ⟨ne7_1, no7_1⟩
      | 2, _, _ => ⟨ne7_2, no7_2⟩
      | 3, _, _ => ⟨ne7_3, no7_3⟩
      | 4, _, _ => ⟨ne7_4, no7_4⟩
      | 5, _, _ => ⟨ne7_5, no7_5⟩
      | 6, _, _ => ⟨ne7_6, no7_6⟩
      | 7, _, n => absurd rfl n
      | 8, _, _ => ⟨ne7_8, no7_8⟩
      | 9, _, _ => ⟨ne7_9, no7_9⟩
      | 10, _, _ => ⟨ne7_10, no7_10⟩
      | 11, _, _ => ⟨ne7_11, no7_11⟩
      | 12, _, _ => ⟨ne7_12, no7_12⟩
      | 13, _, _ => ⟨ne7_13, no7_13⟩
      | 14, _, _ => ⟨ne7_14, no7_14⟩
    have XT : TxT K CStretches := ⟨⟨xpgStretches, xhdStretches, xpoStretches, xsaStretches⟩, xnStretches0, xnStretches1, xnStretches2, xnStretches3⟩
    have XP : PlE K mg "BadPaper" CC7 := ⟨xE7, PySem.W.mg_of X G cg7, kc7, hs7, cy7⟩
    have erT : ErrT K SE CC CC7 7 := ⟨o15_7, oe7.se, by decide⟩
    have P0 : Cal l.prog w K mg base CX0 1 "is_number" ["value"] (spNum K) := is_number_ok D0 T
    have P1 : Cal l.prog w K mg base CX0 3 "check_lengths" ["lengths"] (spCheckLengths K pL) := check_lengths_ok D1 T (tabB_of bL) P0
    have P2 : Cal l.prog w K mg base CX0 2 "check_ways" ["ways"] (spCheckWays) := check_ways_ok D2 T P0
    have P3 : Cal l.prog w K mg base CX0 4 "check_merging" ["lengths", "ways"] (spCheckMerging K pL) := check_merging_ok D3 P1 P2
    have Ptleast : MetC l.prog w K mg base CX0 1 CStretches "least" ["self", "begin", "end", "parts"] (spTLeast CStretches) := tleast_ok XT ⟨⟨maStretches4, miStretches4, mkStretches4⟩, fun_mk mlStretches4 mcStretches4 mkStretches4⟩ T T.min
    have Ptnote : MetC l.prog w K mg base CX0 2 CStretches "note" ["self", "begin", "end", "number"] (spTNote CStretches) := tnote_ok XT ⟨⟨maStretches3, miStretches3, mkStretches3⟩, fun_mk mlStretches3 mcStretches3 mkStretches3⟩ T T.min Ptleast
    have Ptinit : MakC l.prog w K mg base CX0 3 "Stretches" CStretches ["self", "lengths", "ways"] (spTInit K CStretches) := tinit_ok ⟨xmkStretches, maStretches0, miStretches0, xkcStretches⟩ (fun_mk mlStretches0 mcStretches0 mkStretches0) XT T (PySem.W.mg_of X G xCStretches) Ptnote
    have Ptinner : MetC l.prog w K mg base CX0 1 CStretches "inner_first" ["self"] (spTInner CStretches) := tinner_ok XT ⟨⟨maStretches1, miStretches1, mkStretches1⟩, fun_mk mlStretches1 mcStretches1 mkStretches1⟩ T
    have Ptlimit : MetC l.prog w K mg base CX0 2 CStretches "limit" ["self", "begin", "end"] (spTLimit CStretches) := tlimit_ok XT ⟨⟨maStretches5, miStretches5, mkStretches5⟩, fun_mk mlStretches5 mcStretches5 mkStretches5⟩ T Zsum Ptleast
    have Ptnoted : MetC l.prog w K mg base CX0 1 CStretches "noted" ["self", "begin", "end"] (spTNoted CStretches) := tnoted_ok XT ⟨⟨maStretches2, miStretches2, mkStretches2⟩, fun_mk mlStretches2 mcStretches2 mkStretches2⟩
    have P7 : Cal l.prog w K mg base (L2.CX l.prog w) 3 "told_numbers" ["many", "told"] (spTold9 K CC7 pT) := told9_ok D7 T (tabB_of bT) XP P0
    have P4 : Cal l.prog w K mg base (L2.CX l.prog w) 5 "bound" ["lengths", "ways", "told"] (spBound K CC7 pL pT) := bound_ok D4 T XP ⟨Ptinit, Ptinner, Ptnote, Ptlimit⟩ Ptnoted P3 P7
    have P6 : Cal l.prog w K mg base CX0 5 "cheapest_stretches" ["lengths", "ways"] (spTCheap K CStretches) := tcheap_ok D6 ⟨Ptinit, Ptinner, Ptnote, Ptlimit⟩
    have P5 : Cal l.prog w K mg base CX0 6 "paper" ["lengths", "ways"] (spPaper K pL) := paper_ok D5 T Ptinner Ptnoted P3 P6
    have P8 : Cal l.prog w K mg base CX0 1 "_law_begun" ["_law_script"] (spBegun K) := begun_ok D8 T
    have P9 : Cal l.prog w K mg base CX0 1 "_law_take" ["_law_box", "_law_many"] (spTake) := take_ok D9
    have P10 : Cal l.prog w K mg base CX0 42 "_law_alike" ["_law_found", "_law_due_here"] (spAlike K 40) := alike_ok D10 T 40
    have P11 : CalW l.prog w K mg base 1 "_law_class" ["_law_e"] (spClass K CC) := class_ok D11 T G15 ZValueError
    have P12 : Cal l.prog w K mg base CX0 7 "_law_told" ["_law_work"] (spTold l.prog w K mg base SE CC 6) := told_ok D12 6 (by decide) gSE P11
    have P13 : Cal l.prog w K mg base CX0 2 "_law_lengths" ["_law_box", "_law_most"] (spLens) := lens_ok D13 T P9
    have P14 : Cal l.prog w K mg base CX0 2 "_law_side" ["_law_box", "_law_runs", "_law_ways"] (spSide K) := side_ok D14 T P9
    have P15 : Cal l.prog w K mg base CX0 42 "_law_in" ["_law_plan_here"] (spIn K 40) := in_ok D15 T 40
    have P16 : Cal l.prog w K mg base CX0 83 "_law_cost" ["_law_lengths_here", "_law_plan_here"] (spLCost K 40) := lcost_ok D16 T Zsum P15 40 (Nat.le_refl _)
    have P17 : Cal l.prog w K mg base CX0 7 "_law_cuts" ["_law_begin", "_law_end", "_law_ways"] (spCuts 5) := cuts_ok D17 T 5
    have P18 : Cal l.prog w K mg base CX0 8 "_law_due" ["_law_lengths_here", "_law_ways", "_law_told_here"] (spDue K) := due_ok D18 T Zsum P17
    have P19 : Cal l.prog w K mg base CX0 2 "_law_bent" ["_law_box", "_law_many", "_law_told_here"] (spBent K) := bent_ok D19 T P9
    exact FnOk.tables (law10_fn l20 e20 T bZ erT ⟨P8, P9, P13, P14, P16, P19, P18, P10, P12, P5, P4⟩)
end RS
set_option Elab.async false
open PySem PySem.W PyProof.Rows in
set_option maxRecDepth 100000 in
set_option maxHeartbeats 0 in
theorem PySem.Challenge.cw_runsorts_k10_papers_judged_holds : PySem.Challenge.rw_runsorts_k10_papers_judged.Holds := by
  w_on; o_law; k_head; (case hw => w_witness2)
  k_fill
  refine RS.walk_tabs (l := PySem.Challenge.rw_runsorts_k10_papers_judged) (n := 63) (k := 85) (x := "_law_script") rfl (by decide) rfl ⟨rfl, by decide, by decide⟩ (fun w h Y => PySem.W.km_in_of Y) ?F
  case F =>
    intro w mg fa h KX G hmg tabs
    refine' RS.all_mk tabs KX G hmg ?xCStretches ?xpgStretches ?xhdStretches ?xpoStretches ?xsaStretches ?xmkStretches ?xkcStretches ?xnStretches0 ?xnStretches1 ?xnStretches2 ?xnStretches3 ?maStretches0 ?miStretches0 ?mlStretches0 ?mcStretches0 ?mkStretches0 ?maStretches1 ?miStretches1 ?mlStretches1 ?mcStretches1 ?mkStretches1 ?maStretches2 ?miStretches2 ?mlStretches2 ?mcStretches2 ?mkStretches2 ?maStretches3 ?miStretches3 ?mlStretches3 ?mcStretches3 ?mkStretches3 ?maStretches4 ?miStretches4 ?mlStretches4 ?mcStretches4 ?mkStretches4 ?maStretches5 ?miStretches5 ?mlStretches5 ?mcStretches5 ?mkStretches5 ?maStretches6 ?miStretches6 ?mlStretches6 ?mcStretches6 ?mkStretches6 ?sg ?scl ?sty ?sbe ?srd ?sga ?sfi ?ohn ?oht ?cg0 ?cc0 ?cy0 ?cg1 ?cc1 ?cy1 ?cg2 ?cc2 ?cy2 ?cg3 ?cc3 ?cy3 ?cg4 ?cc4 ?cy4 ?cg5 ?cc5 ?cy5 ?cg6 ?cc6 ?cy6 ?cg7 ?cc7 ?cy7 ?cg8 ?cc8 ?cy8 ?cg9 ?cc9 ?cy9 ?cg10 ?cc10 ?cy10 ?cg11 ?cc11 ?cy11 ?cg12 ?cc12 ?cy12 ?cg13 ?cc13 ?cy13 ?cg14 ?cc14 ?cy14 ?hg7 ?hk7 ?hs7 ?hd7 ?ha7 ?hm7 ?hv7 ?hS7 ?kc7 ?no7_0 ?ne7_0 ?no7_1 ?ne7_1 ?no7_2 ?ne7_2 ?no7_3 ?ne7_3 ?no7_4 ?ne7_4 ?no7_5 ?ne7_5 ?no7_6 ?ne7_6 ?no7_8 ?ne7_8 ?no7_9 ?ne7_9 ?no7_10 ?ne7_10 ?no7_11 ?ne7_11 ?no7_12 ?ne7_12 ?no7_13 ?ne7_13 ?no7_14 ?ne7_14 ?xE7 ?a0 ?l0 ?e0 ?k0 ?a1 ?l1 ?e1 ?k1 ?a2 ?l2 ?e2 ?k2 ?a3 ?l3 ?e3 ?k3 ?a4 ?l4 ?e4 ?k4 ?a5 ?l5 ?e5 ?k5 ?a6 ?l6 ?e6 ?k6 ?a7 ?l7 ?e7 ?k7 ?a8 ?l8 ?e8 ?k8 ?a9 ?l9 ?e9 ?k9 ?a10 ?l10 ?e10 ?k10 ?a11 ?l11 ?e11 ?k11 ?a12 ?l12 ?e12 ?k12 ?a13 ?l13 ?e13 ?k13 ?a14 ?l14 ?e14 ?k14 ?a15 ?l15 ?e15 ?k15 ?a16 ?l16 ?e16 ?k16 ?a17 ?l17 ?e17 ?k17 ?a18 ?l18 ?e18 ?k18 ?a19 ?l19 ?e19 ?k19 ?a20 ?l20 ?e20 ?k20 ?z0 ?z1 ?z2 ?z3 ?z4 ?z5 ?z6 ?z7 ?z8 ?z9 ?z10 ?z11 ?z12 ?z13 ?z14 ?y0 ?y1 ?y2 ?y3 ?zzsum ?zzValueError ?rL ?hL ?iL ?nL2 ?rT ?hT ?iT ?nT2 ?rZ ?hZ ?iZ ?nZ2 ?dZL2 ?dZT2
    (case xCStretches => k_is)
    (case xpgStretches => k_is)
    (case xhdStretches => k_is)
    (case xpoStretches => k_is)
    (case xsaStretches => k_is)
    (case xmkStretches => k_is)
    (case xkcStretches => k_is)
    (case xnStretches0 => k_is)
    (case xnStretches1 => k_is)
    (case xnStretches2 => k_is)
    (case xnStretches3 => k_is)
    (case maStretches0 => k_is)
    (case miStretches0 => k_is)
    (case mlStretches0 => k_is)
    (case mcStretches0 => k_is)
    (case mkStretches0 => k_is)
    (case maStretches1 => k_is)
    (case miStretches1 => k_is)
    (case mlStretches1 => k_is)
    (case mcStretches1 => k_is)
    (case mkStretches1 => k_is)
    (case maStretches2 => k_is)
    (case miStretches2 => k_is)
    (case mlStretches2 => k_is)
    (case mcStretches2 => k_is)
    (case mkStretches2 => k_is)
    (case maStretches3 => k_is)
    (case miStretches3 => k_is)
    (case mlStretches3 => k_is)
    (case mcStretches3 => k_is)
    (case mkStretches3 => k_is)
    (case maStretches4 => k_is)
    (case miStretches4 => k_is)
    (case mlStretches4 => k_is)
    (case mcStretches4 => k_is)
    (case mkStretches4 => k_is)
    (case maStretches5 => k_is)
    (case miStretches5 => k_is)
    (case mlStretches5 => k_is)
    (case mcStretches5 => k_is)
    (case mkStretches5 => k_is)
    (case maStretches6 => k_is)
    (case miStretches6 => k_is)
    (case mlStretches6 => k_is)
    (case mcStretches6 => k_is)
    (case mkStretches6 => k_is)
    (case sg => k_is)
    (case scl => k_is)
    (case sty => k_is)
    (case sbe => k_is)
    (case srd => k_is)
    (case sga => k_is)
    (case sfi => k_is)
    (case ohn => k_is)
    (case oht => k_is)
    (case cg0 => k_is)
    (case cc0 => k_is)
    (case cy0 => k_is)
    (case cg1 => k_is)
    (case cc1 => k_is)
    (case cy1 => k_is)
    (case cg2 => k_is)
    (case cc2 => k_is)
    (case cy2 => k_is)
    (case cg3 => k_is)
    (case cc3 => k_is)
    (case cy3 => k_is)
    (case cg4 => k_is)
    (case cc4 => k_is)
    (case cy4 => k_is)
    (case cg5 => k_is)
    (case cc5 => k_is)
    (case cy5 => k_is)
    (case cg6 => k_is)
    (case cc6 => k_is)
    (case cy6 => k_is)
    (case cg7 => k_is)
    (case cc7 => k_is)
    (case cy7 => k_is)
    (case cg8 => k_is)
    (case cc8 => k_is)
    (case cy8 => k_is)
    (case cg9 => k_is)
    (case cc9 => k_is)
    (case cy9 => k_is)
    (case cg10 => k_is)
    (case cc10 => k_is)
    (case cy10 => k_is)
    (case cg11 => k_is)
    (case cc11 => k_is)
    (case cy11 => k_is)
    (case cg12 => k_is)
    (case cc12 => k_is)
    (case cy12 => k_is)
    (case cg13 => k_is)
    (case cc13 => k_is)
    (case cy13 => k_is)
    (case cg14 => k_is)
    (case cc14 => k_is)
    (case cy14 => k_is)
    (case hg7 => k_is)
    (case hk7 => k_is)
    (case hs7 => k_is)
    (case hd7 => k_is)
    (case ha7 => k_is)
    (case hm7 => k_is)
    (case hv7 => k_is)
    (case hS7 => k_is)
    (case kc7 => k_is)
    (case no7_0 => k_is)
    (case ne7_0 => decide)
    (case no7_1 => k_is)
    (case ne7_1 => decide)
    (case no7_2 => k_is)
    (case ne7_2 => decide)
    (case no7_3 => k_is)
    (case ne7_3 => decide)
    (case no7_4 => k_is)
    (case ne7_4 => decide)
    (case no7_5 => k_is)
    (case ne7_5 => decide)
    (case no7_6 => k_is)
    (case ne7_6 => decide)
    (case no7_8 => k_is)
    (case ne7_8 => decide)
    (case no7_9 => k_is)
    (case ne7_9 => decide)
    (case no7_10 => k_is)
    (case ne7_10 => decide)
    (case no7_11 => k_is)
    (case ne7_11 => decide)
    (case no7_12 => k_is)
    (case ne7_12 => decide)
    (case no7_13 => k_is)
    (case ne7_13 => decide)
    (case no7_14 => k_is)
    (case ne7_14 => decide)
    (case xE7 => k_exc)
    (case a0 => k_is)
    (case l0 => k_is)
    (case e0 => k_is)
    (case k0 => k_is)
    (case a1 => k_is)
    (case l1 => k_is)
    (case e1 => k_is)
    (case k1 => k_is)
    (case a2 => k_is)
    (case l2 => k_is)
    (case e2 => k_is)
    (case k2 => k_is)
    (case a3 => k_is)
    (case l3 => k_is)
    (case e3 => k_is)
    (case k3 => k_is)
    (case a4 => k_is)
    (case l4 => k_is)
    (case e4 => k_is)
    (case k4 => k_is)
    (case a5 => k_is)
    (case l5 => k_is)
    (case e5 => k_is)
    (case k5 => k_is)
    (case a6 => k_is)
    (case l6 => k_is)
    (case e6 => k_is)
    (case k6 => k_is)
    (case a7 => k_is)
    (case l7 => k_is)
    (case e7 => k_is)
    (case k7 => k_is)
    (case a8 => k_is)
    (case l8 => k_is)
    (case e8 => k_is)
    (case k8 => k_is)
    (case a9 => k_is)
    (case l9 => k_is)
    (case e9 => k_is)
    (case k9 => k_is)
    (case a10 => k_is)
    (case l10 => k_is)
    (case e10 => k_is)
    (case k10 => k_is)
    (case a11 => k_is)
    (case l11 => k_is)
    (case e11 => k_is)
    (case k11 => k_is)
    (case a12 => k_is)
    (case l12 => k_is)
    (case e12 => k_is)
    (case k12 => k_is)
    (case a13 => k_is)
    (case l13 => k_is)
    (case e13 => k_is)
    (case k13 => k_is)
    (case a14 => k_is)
    (case l14 => k_is)
    (case e14 => k_is)
    (case k14 => k_is)
    (case a15 => k_is)
    (case l15 => k_is)
    (case e15 => k_is)
    (case k15 => k_is)
    (case a16 => k_is)
    (case l16 => k_is)
    (case e16 => k_is)
    (case k16 => k_is)
    (case a17 => k_is)
    (case l17 => k_is)
    (case e17 => k_is)
    (case k17 => k_is)
    (case a18 => k_is)
    (case l18 => k_is)
    (case e18 => k_is)
    (case k18 => k_is)
    (case a19 => k_is)
    (case l19 => k_is)
    (case e19 => k_is)
    (case k19 => k_is)
    (case a20 => k_is)
    (case l20 => k_is)
    (case e20 => k_is)
    (case k20 => k_is)
    (case z0 => k_is)
    (case z1 => k_is)
    (case z2 => k_is)
    (case z3 => k_is)
    (case z4 => k_is)
    (case z5 => k_is)
    (case z6 => k_is)
    (case z7 => k_is)
    (case z8 => k_is)
    (case z9 => k_is)
    (case z10 => k_is)
    (case z11 => k_is)
    (case z12 => k_is)
    (case z13 => k_is)
    (case z14 => k_is)
    (case y0 => k_is)
    (case y1 => k_is)
    (case y2 => k_is)
    (case y3 => k_is)
    (case zzsum => k_is)
    (case zzValueError => k_is)
    (case rL => rfl)
    (case hL => k_is)
    (case iL => rfl)
    (case nL2 => first | kernel_rfl | rfl)
    (case rT => rfl)
    (case hT => k_is)
    (case iT => rfl)
    (case nT2 => first | kernel_rfl | rfl)
    (case rZ => rfl)
    (case hZ => k_is)
    (case iZ => rfl)
    (case nZ2 => first | kernel_rfl | rfl)
    (case dZL2 => decide)
    (case dZT2 => decide)
