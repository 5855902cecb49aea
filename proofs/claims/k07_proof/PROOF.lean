import PyProof.Rows.All
import Wide.All
import OpenK.AllK
import Wide.FinOn
import HandS.ForMost
import HandS.AnyAll
import HandS.GenList
import HandS.IsInst
import HandS.Zip
import HandS.Deep
import HandS.StrMore
import HandS.Codes
import HandS.FStr
import KE.KDictZip
import HandS.More
import HandS.Wide
import PyProof.AutoSeq1
import HandS.Lambda
import HandS.ExcOwn
import HandS.TupAny
import HandS.Iter
import HandS.Conv
import HandS.TupMul
import HandS.SortInts
import HandS.HotCalls
import HandS.ExcIs
import HandS.ExcField
import KE.KExcIs
import KE.KDflt
import HandS.EndTab
import HandS.ExcInit
import HandS.ClsMeth
import HandS.WordsExc
import PySem.Challenge.RW_runsorts_k07_plans_and_costs
set_option Elab.async false
set_option maxRecDepth 100000
set_option maxHeartbeats 4000000
namespace GX
open PySem PySem.Spec PyProof.Rows L2

/-- the table of a def's code objects, whatever has come into it -/
def TabE (P : Addr) : Heap → Prop := fun g =>
  ∃ rs : Array Value, g.get? P = some { cls := .none, data := .fields rs } ∧ TriplesOk rs.toList
def Tab (H : Hp) (P : Addr) : Prop := H P = some (.ext (TabE P))
theorem tabE_stable {P : Addr} : ∀ g1 g2 : Heap, TabE P g1 → (∀ o, g1.get? P = some o → g2.get? P = some o) → TabE P g2 :=
  fun _ _ ⟨rs, e, t⟩ k => ⟨rs, k _ e, t⟩

section
variable {X : Cx} {pins : List (Addr × Obj)} {σ : L2.St} {H : Hp} {s : Shared}

/-- the table has grown; what else stood is kept -/
theorem tab_grown {P : Addr} {rs : Array Value} {g : Heap} {G : Array GenState} {dd : Drawn} {tk : Nat}
    (I : Inv X pins σ H s) (hP : Tab H P)
    (kp : ∀ b o, b ≠ P → s.heap.get? b = some o → g.get? b = some o)
    (at_ : g.get? P = some { cls := .none, data := .fields rs }) (ht : TriplesOk rs.toList) (hG : AllBare G) :
    Inv X pins σ H { s with heap := g, gens := G, drawn := dd, toks := tk } := by
  have free_ne : ∀ b, H b = none → b ≠ P := fun b e z => by
    subst z
    have q : H b = some (.ext (TabE b)) := hP
    rw [q] at e
    cases e
  have own_ne : ∀ b c, H b = some (.own c) → b ≠ P := fun b c e z => by
    subst z
    have q : H b = some (.ext (TabE b)) := hP
    rw [q] at e
    cases e
  refine I.step (g' := G) (d' := dd) (ch := []) (fun b hb => by cases hb) (fun b o _ _ _ e n => kp b o (free_ne b n) e)
    (fun b o _ _ _ e n => ⟨o.slots, kp b o (free_ne b n) e⟩) (fun _ _ _ _ n => n) (fun b o _ e => ?_)
    (fun _ _ e => e) (fun _ _ _ e => e) (fun b qs e => ⟨#[], by rw [e, Array.append_empty]⟩) (fun m hm => ?_) (fun b u e => ?_) hG
  · by_cases z : b = P
    · subst z
      exact ⟨_, at_⟩
    · exact ⟨o, kp b o z e⟩
  · obtain ⟨o, es, ep, ho, r⟩ := hm
    exact ⟨o, es, ep, kp _ o (free_ne _ I.free) ho, r⟩
  · by_cases z : b = P
    · subst z
      have q : H b = some (.ext (TabE b)) := hP
      rw [q] at e
      cases e
      exact ⟨⟨rs, at_, ht⟩, ⟨_, at_⟩, tabE_stable⟩
    · refine (I.hok b u e).stay (fun c o hc q => kp c o ?_ q) (fun _ q => q) (fun _ _ q => q)
      rcases hc with y | y
      · rw [y]
        exact z
      · exact own_ne c b y

/-- the context of a generator expression's element -/
abbrev genCx (X : Cx) (B : Around) (s0 : Shared) (H0 : Hp) (ce : Env) (fp : List Addr) (pn : List (Addr × Obj)) : Cx :=
  { X with A := B, s_0 := s0, H_0 := H0, env := ce, outer := X.stack, stack := ce :: X.stack, ex := fp, fn := fun _ => false, pn := pn, xe := fun _ _ => False }
/-- its environment -/
abbrev gEnv (X : Cx) (sc : Scope) (C : Addr) (cv : Value) : Env :=
  genEnv sc (cloFrom X.env.cells sc.names []) C cv builtinsNs X.env

theorem gen_start {B : Around} {sc : Scope} {own : List (Str × Nat)} {fp : List Addr} {cv : Value} {g : Heap} {go fo : Obj} {m : Str → Option Value} {gs : GenState} {tk : Nat}
    (I : Inv X pins σ H s) (ok : BlkOk X.N X.env.scope sc own) (nocell : ∀ y ∈ sc.names, y.2 ≠ .cell) (hN : X.N.Nodup)
    (hfp : ∀ b ∈ fp, FpOk X pins H b ∧ b < s.heap.objs.size) (hB : X.calm = true → B.handled = none)
    (hF : B.frames = some (gEnv X sc s.heap.objs.size cv :: X.stack))
    (hn : g.Ns s.heap.objs.size m) (hs : Heap.SameBut s.heap.objs.size (s.heap.push fo) g)
    (hgo : ∀ v, go.data ≠ .cell v) (hgp : (g.push go).get? g.objs.size = some go) (hgs : gs.bare = true) :
    Inv (genCx X B s H (gEnv X sc s.heap.objs.size cv) fp [(g.objs.size, go)]) [] (wipe σ (own.map (·.2))) H
      { s with gens := s.gens.push gs, toks := tk, heap := g.push go } := by
  have caught : ∀ y ∈ sc.names, y.2 = .free → ∃ c, X.env.cells.lookup y.1 = some c := fun y hy e =>
    (ok.free y hy e).elim (fun z => I.ok.has _ (.inl z)) (fun z => I.ok.has _ (.inr z))
  have gsz : g.objs.size = s.heap.objs.size + 1 := by rw [hs.1, Heap.size_push]
  have kp1 : ∀ b o, s.heap.get? b = some o → g.get? b = some o := fun b o e =>
    hs.extBut b o (Nat.ne_of_lt (Heap.lt_size e)) (Heap.get?_push_of_some _ e)
  have kp : ∀ b o, s.heap.get? b = some o → (g.push go).get? b = some o := fun b o e => Heap.get?_push_of_some _ (kp1 b o e)
  have down : ∀ {y c}, (gEnv X sc s.heap.objs.size cv).cells.lookup y = some c → X.env.cells.lookup y = some c ∧ c < s.heap.objs.size := fun {y c} e => by
    have e' : (cloFrom X.env.cells sc.names []).lookup y = some c := e
    rcases cloFrom_mem (PySem.mem_of_lookup e') with q | ⟨q1, q2⟩
    · cases q
    · obtain ⟨c', hc'⟩ := caught _ q1 rfl
      have hc2 : X.env.cells.lookup y = some c' := hc'
      rw [hc2] at q2
      have q3 : c = c' := q2
      subst q3
      obtain ⟨v, z⟩ := I.cell _ _ hc2
      exact ⟨hc2, z.lt⟩
  have up : ∀ {y}, sc.names.lookup y = some .free → ∃ c, (gEnv X sc s.heap.objs.size cv).cells.lookup y = some c ∧ X.env.cells.lookup y = some c := fun {y} hl => by
    obtain ⟨c, e⟩ := mem_lookup (cloFrom_has (cells := X.env.cells) (acc := []) (PySem.mem_of_lookup hl))
    exact ⟨c, e, (down e).1⟩
  have young : ∀ b, b < s.heap.objs.size → b ≠ s.heap.objs.size := fun b hb => Nat.ne_of_lt hb
  have okG : (genCx X B s H (gEnv X sc s.heap.objs.size cv) fp [(g.objs.size, go)]).Ok := by
    refine ⟨I.ok.mod, ok.kind, I.ok.glob, rfl, Nat.le_refl _, fun y z c e1 e2 => I.ok.inj y z c (down e1).1 (down e2).1, fun y hy => ?_,
      (fun y c z _ => nomatch z), hB, hF, .inr ⟨rfl, rfl⟩, fun b hb => ⟨young b (hfp b hb).2, fun y c e z => ?_⟩, I.bs, Nat.le_trans I.ok.bsz I.sz,
      fun b o e hb => ?_, fun b hb z => ?_, I.stack, I.stkFree⟩
    · rcases hy with z | z
      · exact absurd rfl (nocell _ (PySem.mem_of_lookup z))
      · obtain ⟨c, e, _⟩ := up z
        exact ⟨c, e⟩
    · exact (hfp b hb).1.2.2.2.2.1 y c (down e).1 z
    · rcases (hfp b hb).1.2.2.2.1 with z | z
      · exact I.ok.noex b o e z
      · exact Nat.lt_irrefl _ (Nat.lt_of_lt_of_le (Heap.lt_size e) (Nat.le_trans I.ok.bsz z))
    · rcases List.mem_cons.mp (I.stkSub b z) with y | y
      · exact (hfp b hb).1.2.1 y
      · exact (hfp b hb).1.2.2.1 y
  refine ⟨okG, rfl, I.bare.push hgs, Un.kept kp, ⟨m, ?_, fun i y av e1 e2 e3 => ?_⟩, fun y c e => ?_, I.hok.fresh (Nat.le_refl _), fun y c e => I.freeC y c (down e).1, fun p hp => ?_, I.hok.kept kp, by rw [wipe_length]; exact I.len⟩
  · exact hn.push _
  · obtain ⟨e2, ne⟩ := wipe_some e2
    have notOwn : ∀ k, sc.names.lookup y = some k → k = .local ∨ k = .cell → False := fun k hk hk' => by
      rcases ok.own _ (PySem.mem_of_lookup hk) hk' with q | q
      · obtain ⟨p, hp, hpy⟩ := List.mem_map.mp q
        have e4 := ok.ix p hp
        have hpy' : p.1 = y := hpy
        rw [hpy'] at e4
        exact ne (List.mem_map.mpr ⟨p, hp, nodup_ix hN e4 e1⟩)
      · exact q (List.mem_of_getElem? e1)
    have hfree : sc.names.lookup y = some .free := by
      rcases e3 with z | z | z
      · exact (notOwn _ z (.inl rfl)).elim
      · exact (notOwn _ z (.inr rfl)).elim
      · exact z
    obtain ⟨m', _, hl⟩ := I.loc
    have q0 := ok.free _ (PySem.mem_of_lookup hfree) rfl
    have hv : Vis X.env.scope y := q0.elim (fun z => .inr (.inl z)) (fun z => .inr (.inr z))
    obtain ⟨u, r, q⟩ := hl i y av e1 e2 hv
    obtain ⟨c, h1, h2⟩ := up hfree
    refine ⟨u, r, .inr ⟨.inr hfree, c, h1, ?_⟩⟩
    rcases q with ⟨k, _⟩ | ⟨_, c', e', z⟩
    · have k' : X.env.scope.names.lookup y = some .local := k
      rcases q0 with z | z
      · have z' : X.env.scope.names.lookup y = some .cell := z
        rw [z'] at k'
        cases k'
      · have z' : X.env.scope.names.lookup y = some .free := z
        rw [z'] at k'
        cases k'
    · rw [h2] at e'
      cases e'
      exact z.keeps kp
  · obtain ⟨v, z⟩ := I.cell y c (down e).1
    exact ⟨v, z.keeps kp⟩
  · have e : p = (g.objs.size, go) := by simpa using hp
    subst e
    refine ⟨hgp, I.hok.fresh (by rw [gsz]; exact Nat.le_succ _), ?_, fun z => ?_, hgo⟩
    · show g.objs.size ≠ s.heap.objs.size
      rw [gsz]
      exact Nat.succ_ne_self _
    · have z' : g.objs.size ∈ frs X.stack := z
      obtain ⟨_, o, ho, _⟩ := I.stack.mem z'
      have q := Heap.lt_size ho
      rw [gsz] at q
      exact absurd q (Nat.not_lt.mpr (Nat.le_succ _))
end
end GX
set_option Elab.async false
set_option maxRecDepth 100000
set_option maxHeartbeats 4000000
namespace GX
open PySem PySem.Spec PyProof.Rows L2

/-- what is known when an element has been handed out: a truth; where it is true, the generator goes on at any state with the same heap -/
def YAll (Y : Cx) (τ : L2.St) (Qf : Hp → Prop) : Protocol := fun _ _ v s kap =>
  ∃ (b : Bool) (H : Hp), v = .bool b ∧ Inv Y [] τ H s ∧ (b = false → Qf H) ∧
    (b = true → ∀ s2 : Shared, s2.heap = s.heap → s2.os = s.os → AllBare s2.gens → kap (.send .none) s2)
abbrev RAll (Y : Cx) (τ : L2.St) (Qt : Hp → Prop) : Nat → Shared → Shared → Prop := fun _ _ s =>
  ∃ H : Hp, Inv Y [] τ H s ∧ Qt H
theorem inv_samehp {Y : Cx} {pins : List (Addr × Obj)} {τ : L2.St} {H : Hp} {s s2 : Shared} (I : Inv Y pins τ H s) (h : s2.heap = s.heap) (ho : s2.os = s.os) (hb : AllBare s2.gens) : Inv Y pins τ H s2 := by
  have J := I.call' (s' := s2) (H' := H) (ch := []) ho (by rw [h]; exact Un.refl) (by rw [h]; exact I.hok) hb (fun b z => by cases z)
  exact J

section
variable {Y : Cx} {B : Around} {elt tg iter : Expr} {sc : Scope} {gpos : Pos} {it : Addr} {fp : List Addr} {tn : Nat → Heap → Prop} {J : It} {g : TG} {te : TE} {vs : List Nat}

/-- one turn of the walk that a generator expression's elements pass -/
def Step (J : It) (g : TG) (te : TE) (vs : List Nat) (τ : L2.St) (Qt Qf : Hp → Prop) (W : Nat → Nat → Hp → Prop) : Prop :=
  ∀ i m H, W i m H → (J.stop i H ∧ Qt H) ∨ (J.go i H ∧ ∀ x H', J.yld i H x H' → g x τ H' fun τ2 H2 => wipe τ2 vs = τ ∧
    te τ2 H2 fun y H3 => ∃ b, y = V.bl b ∧ (b = true → ∃ m', m' < m ∧ W (i + 1) m' H3) ∧ (b = false → Qf H3))

theorem seg_all {τ : L2.St} {Qt Qf : Hp → Prop} {W : Nat → Nat → Hp → Prop}
    (hA : Y.A = B.over (.compLoop (.GeneratorExp elt [⟨tg, iter, [], 0⟩] sc gpos) 0 (.ref it) .none Y.env) [])
    (hc : Y.calm = true) (hco : Y.env.scope.isCoroutine = false) (hfp : ∀ b ∈ fp, b ∈ Y.ex) (hpn : ∀ p ∈ Y.pn, p.1 ∉ fp)
    (xe : Y.xe = fun _ _ => False)
    (pg : PG Y tg g) (pe : PE Y elt te) (T : Turn Y.prog Y.w Y.K tg J fp it tn) (turn : Step J g te vs τ Qt Qf W) (hτ : ∀ τ2, wipe τ2 vs = τ → ∀ (k : Nat) v, τ[k]? = some (some v) → τ2[k]? = some (some v)) :
    ∀ (n i m : Nat) (s0 s : Shared) (H : Hp), m < n → Inv Y [] τ H s → tn i s.heap → (∀ b ∈ fp, H b = none) → W i m H →
      Seg (model Y.prog Y.w) B (fun n s₀ r s₁ => r = .ok .next ∧ RAll Y τ Qt n s₀ s₁) (YAll Y τ Qf) n s0
        (.compLoop (.GeneratorExp elt [⟨tg, iter, [], 0⟩] sc gpos) 0 (.ref it) .none Y.env)
        ((model Y.prog Y.w).den (.compLoop (.GeneratorExp elt [⟨tg, iter, [], 0⟩] sc gpos) 0 (.ref it) .none Y.env)) [] s := by
  intro n
  induction n with
  | zero => intro i m s0 s H hm; exact absurd hm (Nat.not_lt_zero _)
  | succ n ih =>
    intro i m s0 s H hm I st nf w0
    have fpo : ∀ {pins' : List (Addr × Obj)} {τ' : L2.St} {H' : Hp} {s' : Shared}, Inv Y pins' τ' H' s' → (∀ p ∈ pins', p.1 ∉ fp) → (∀ b ∈ fp, H' b = none) → ∀ b ∈ fp, FpOk Y pins' H' b := fun {pins' τ' H' s'} I' hp hn b hb =>
      ⟨hn b hb, (I'.ok.exf b (hfp b hb)).1, I'.ok.exfs b (hfp b hb), .inl (hfp b hb), fun x c e => (I'.ok.exf b (hfp b hb)).2 x c e, fun p q z => by
        rcases List.mem_append.mp q with q | q
        · exact hpn p q (by rw [z]; exact hb)
        · exact hp p q (by rw [z]; exact hb)⟩
    show Seg _ B _ _ _ s0 _ ((compTurn (.GeneratorExp elt [⟨tg, iter, [], 0⟩] sc gpos) 0 (.ref it) .none Y.env).onRaise (leaving Y.env)) [] s
    rw [compTurn_gen, Sem.onRaise_eq_wrap]
    apply seg_bind_wrap
    apply wpAny_standAt
    apply seg_bind_wrap
    rw [← hA]
    rcases turn i m H w0 with ⟨stop, q⟩ | ⟨go, step⟩
    · refine wpAny_mono (T.done Y rfl rfl rfl hc i [] s τ H (fun _ _ => False) I (fpo I (fun _ z => by cases z) nf) st stop) (fun r s1 h1 => ?_) (fun _ _ z => z.elim)
      obtain ⟨hr, I1⟩ := h1
      subst hr
      exact seg_end (.ok .next) ⟨rfl, H, I1, q⟩
    · refine wpAny_mono (T.item Y rfl rfl rfl hc i [] s τ H (fun _ _ => False) I (fpo I (fun _ z => by cases z) nf) st go) (fun r s1 h1 => ?_) (fun _ _ z => z.elim)
      obtain ⟨u, hr, h1⟩ := h1
      subst hr
      apply seg_bind_wrap
      rw [← hA]
      refine wpAny_mono h1 (fun _ s2 h2 => ?_) (fun _ _ z => z.elim)
      obtain ⟨x, H2, I2, r2, y2, st2, n2⟩ := h2
      have I2' := I2.pinned (fpo I2 (fun _ z => by cases z) n2) (T.obj _ _ st2)
      apply seg_bind_wrap
      rw [← hA]
      refine wpAny_mono (pg.run _ s2 τ H2 x u _ I2' r2 (step x H2 y2)) (fun _ s3 h3 => ?_) (fun e s3 z => by rw [xe] at z; exact z.elim)
      obtain ⟨τ3, H3, I3, hw3, q3⟩ := h3
      have hy : ∀ v, yieldOut Y.env v = yieldValue v := fun v => by simp only [yieldOut, hco, Bool.false_eq_true, if_false]
      simp only [List.forIn_nil, pure_bind, if_true, hy]
      rw [Sem.bind_eq_wrap', Sem.bind_eq_wrap', Sem.wrap_wrap, Sem.wrap_wrap]
      apply seg_wrap
      rw [← hA]
      refine wpAny_mono (pe.run _ s3 τ3 H3 _ I3 q3) (fun v s4 h4 => ?_) (fun e s4 z => by rw [xe] at z; exact z.elim)
      obtain ⟨yv, H4, I4, r4, b, rfl, ht, hf⟩ := h4
      have hv : v = .bool b := r4
      subst hv
      have kp : ∀ b' ∈ fp, ∀ o, s2.heap.get? b' = some o → s4.heap.get? b' = some o ∧ H4 b' = none := fun b' hb o e => by
        have z := I4.pin (b', o) (List.mem_append_right _ (List.mem_append_right _ (mem_pinsAt hb e)))
        exact ⟨z.1, z.2.1⟩
      have J4 : Inv Y [] τ H4 s4 := (I4.unpinned (pins := [])).weak (by rw [← hw3, wipe_length]) fun k v e => hτ τ3 hw3 k v e
      refine seg_at (seg_yield rfl rfl rfl ⟨b, H4, rfl, J4, hf, fun hb s5 e5 o5 b5 => ?_⟩)
      obtain ⟨m', hm', w'⟩ := ht hb
      refine seg_again rfl (ih (i + 1) m' s5 s5 H4 (by omega) (inv_samehp J4 e5 o5 b5) ?_ (fun b' hb' => ?_) w')
      · rw [e5]
        exact T.keep _ _ _ st2 fun b' hb' o e => (kp b' hb' o e).1
      · obtain ⟨o, e, _⟩ := T.obj _ _ st2 b' hb'
        exact (kp b' hb' o e).2
end
end GX
set_option Elab.async false
set_option maxRecDepth 100000
set_option maxHeartbeats 4000000
namespace GX
open PySem PySem.Spec PyProof.Rows L2

theorem seg_all_start {P : Program} {w : World} {K : PySem.W.Frag} {B : Around} {R : GenEnd} {Yp : Protocol} {n : Nat} {s0 s : Shared} {elt tg iter : Expr} {sc : Scope} {gpos : Pos} {it : Addr} {fp : List Addr} {tn : Nat → Heap → Prop} {J : It} {ce : Env}
    (T : Turn P w K tg J fp it tn) (st : tn 0 s.heap)
    (loop : Seg (model P w) B R Yp n s0 (.compLoop (.GeneratorExp elt [⟨tg, iter, [], 0⟩] sc gpos) 0 (.ref it) .none ce)
      ((model P w).den (.compLoop (.GeneratorExp elt [⟨tg, iter, [], 0⟩] sc gpos) 0 (.ref it) .none ce)) [] s) :
    Seg (model P w) B R Yp n s0 (.compStart (.GeneratorExp elt [⟨tg, iter, [], 0⟩] sc gpos) 0 (.ref it) .none ce)
      ((model P w).den (.compStart (.GeneratorExp elt [⟨tg, iter, [], 0⟩] sc gpos) 0 (.ref it) .none ce)) [] s := by
  show Seg _ B _ _ _ s0 _ ((compStart (.GeneratorExp elt [⟨tg, iter, [], 0⟩] sc gpos) 0 (.ref it) .none ce).onRaise (leaving ce)) [] s
  unfold compStart
  rw [Sem.onRaise_eq_wrap]
  show Seg _ B _ _ _ s0 _ ((ask >>= _).wrap _ _ _ _) [] s
  apply seg_bind_wrap
  apply wpAny_askSetting
  split
  · exact seg_again rfl loop
  · apply seg_bind_wrap
    apply wpAny_rule
    show Seg _ B _ _ _ s0 _ ((standAt iter.pos >>= _).wrap _ _ _ _) [] s
    apply seg_bind_wrap
    apply wpAny_standAt
    apply seg_bind_wrap
    exact T.self _ 0 s _ _ st (seg_again rfl loop)

section
variable {Y : Cx} {A : Around} {a : Addr} {g : Nat} {go : Obj} {τ : L2.St} {Qt Qf : Hp → Prop}
theorem code_all {R : Result → Shared → Prop} (hh : A.handled = none) (hroom : A.depth < recursionLimit) (hpin : (a, go) ∈ Y.pn) (hgen : ∀ h : Heap, h.get? a = some go → h.IsGen a g)
    (hT : ∀ s H, Inv Y [] τ H s → Qt H → R (.ok (.ret (.bool true))) s) (hF : ∀ s H, Inv Y [] τ H s → Qf H → R (.ok (.ret (.bool false))) s) :
    ∀ (n : Nat) (s : Shared) (gs : GenState), s.heap.IsGen a g → s.heap.NoLimit → AllBare s.gens → s.gens[g]? = some gs →
      (∀ s2 : Shared, s2.heap = s.heap → s2.os = s.os → AllBare s2.gens →
        gs.Goes (model Y.prog Y.w) A.in1.in1 (fun n s₀ r s₁ => r = .ok .next ∧ RAll Y τ Qt n s₀ s₁) (YAll Y τ Qf) n (.send .none) s2) →
      codeAny (model Y.prog Y.w) A (.builtin "all.loop" ⟨[.ref a], []⟩) R s := by
  intro n
  induction n with
  | zero =>
    intro s gs hg hl hb hgs hgo
    refine codeAny_builtin F.entry_all_loop ?_
    rw [Around.under_plainId F.plain_all_loop _]
    show wpAny _ A.in1 (pyNext (.ref a) >>= _) _ _ s
    refine wpAny_bind (GenW.wpAny_gsz (n := g + 1) (Array.getElem?_eq_some_iff.mp hgs).1 (wpAny_pyNext_genexpQ (A := A.in1) (P := RAll Y τ Qt) hh hl hroom hg hgs (hgo _ rfl rfl (allBare_setGen hb rfl)) (fun v s1 gs' hb' hv hsz => ?_) (fun s1 hp h' hk hsz => ?_)))
    · obtain ⟨b, H, rfl, I, hf, ht⟩ := hv
      apply wpAny_bind
      apply wpAny_holding
      apply wpAny_truthy_bool
      apply wpAny_bind
      apply wpAny_letGo
      cases b with
      | true => exact (ht rfl s1 rfl rfl I.bare).elim
      | false =>
        simp only [Bool.false_eq_true, if_false]
        apply wpAny_bind
        apply wpAny_rule
        apply wpAny_pure
        exact hF _ H (inv_samehp I rfl rfl (allBare_setGen I.bare hb')) (hf rfl)
    · obtain ⟨H, I, q⟩ := hp
      apply wpAny_bind
      apply wpAny_rule
      apply wpAny_pure
      have I2 := inv_samehp (s2 := s1.setGen g .finished) I rfl rfl (allBare_setGen I.bare rfl)
      exact hT _ H (I2.kept (t' := (s1.setGen g .finished).toks) hk) q
  | succ n ih =>
    intro s gs hg hl hb hgs hgo
    refine codeAny_builtin F.entry_all_loop ?_
    rw [Around.under_plainId F.plain_all_loop _]
    show wpAny _ A.in1 (pyNext (.ref a) >>= _) _ _ s
    refine wpAny_bind (GenW.wpAny_gsz (n := g + 1) (Array.getElem?_eq_some_iff.mp hgs).1 (wpAny_pyNext_genexpQ (A := A.in1) (P := RAll Y τ Qt) hh hl hroom hg hgs (hgo _ rfl rfl (allBare_setGen hb rfl)) (fun v s1 gs' hb' hv hsz => ?_) (fun s1 hp h' hk hsz => ?_)))
    · obtain ⟨b, H, rfl, I, hf, ht⟩ := hv
      apply wpAny_bind
      apply wpAny_holding
      apply wpAny_truthy_bool
      apply wpAny_bind
      apply wpAny_letGo
      cases b with
      | true =>
        simp only [if_true]
        apply wpAny_pure
        refine ⟨plainId_quiet F.plain_all_loop _, ih _ gs' (hgen _ (I.pin (a, go) (List.mem_append_left _ hpin)).1) I.nolimit (allBare_setGen I.bare hb') (setGen_at ?_) fun s2 e1 e2 e3 => ht rfl s2 e1 e2 e3⟩
        rw [GenW.setGen_size] at hsz
        exact hsz
      | false =>
        simp only [Bool.false_eq_true, if_false]
        apply wpAny_bind
        apply wpAny_rule
        apply wpAny_pure
        exact hF _ H (inv_samehp I rfl rfl (allBare_setGen I.bare hb')) (hf rfl)
    · obtain ⟨H, I, q⟩ := hp
      apply wpAny_bind
      apply wpAny_rule
      apply wpAny_pure
      have I2 := inv_samehp (s2 := s1.setGen g .finished) I rfl rfl (allBare_setGen I.bare rfl)
      exact hT _ H (I2.kept (t' := (s1.setGen g .finished).toks) hk) q
end
end GX
set_option Elab.async false
set_option maxRecDepth 100000
set_option maxHeartbeats 4000000
namespace GX
open PySem PySem.Spec PyProof.Rows L2

section
variable {X : Cx} {pins : List (Addr × Obj)} {σ : L2.St} {H : Hp} {s : Shared}

/-- a generator expression has been made, ready to be walked, in the state s5; what stood ahead of its frame: s4 -/
structure Ready (X : Cx) (pins : List (Addr × Obj)) (σ : L2.St) (own : List (Str × Nat)) (sc : Scope) (elt tg iter : Expr) (gpos : Pos) (J : It) (H1 : Hp) (a : Addr) (s5 : Shared)
    (s4 : Shared) (cv : Value) (g : Nat) (go : Obj) (it : Addr) (fp : List Addr) (tn : Nat → Heap → Prop) : Prop where
  outer : Inv X pins σ H1 s4
  fps : ∀ b ∈ fp, FpOk X pins H1 b ∧ b < s4.heap.objs.size
  turn : Turn X.prog X.w X.K tg J fp it tn
  st : tn 0 s5.heap
  inner : ∀ B : Around, (X.calm = true → B.handled = none) → B.frames = some (gEnv X sc s4.heap.objs.size cv :: X.stack) →
    Inv (genCx X B s4 H1 (gEnv X sc s4.heap.objs.size cv) fp [(a, go)]) [] (wipe σ (own.map (·.2))) H1 s5
  gen : ∀ h : Heap, h.get? a = some go → h.IsGen a g
  at_ : s5.heap.get? a = some go
  old : a ∉ fp
  gs : s5.gens[g]? = some (.fresh (.compStart (.GeneratorExp elt [⟨tg, iter, [], 0⟩] sc gpos) 0 (.ref it) .none (gEnv X sc s4.heap.objs.size cv)))
  lim : s5.heap.NoLimit
  bare : AllBare s5.gens

theorem gx_make {c P : Addr} {own : List (Str × Nat)} {sc : Scope} {elt tg iter : Expr} {gpos : Pos} {wi : TI} {k : Nat} {R : It → Hp → Prop} {Q' : Value → Shared → Prop}
    (hr : Room k X.A) (TB : GxR.TabB X.base X.mg c P) (hcode : X.env.code = .ref c) (hN : X.N.Nodup)
    (ok : BlkOk X.N X.env.scope sc own) (nocell : ∀ y ∈ sc.names, y.2 ≠ .cell) (dot : sc.names.lookup (".0" : Str) = some NameKind.local) (hco : sc.isCoroutine = false)
    (hi : PI X tg iter wi) (hs : ∀ v, genFold iter X.env v = pure v)
    (I : Inv X pins σ H s) (h : wi σ H fun J H1 => Tab H1 P ∧ R J H1)
    (hQ : ∀ J H1 a s5 s4 cv g go it fp tn, R J H1 → Ready X pins σ own sc elt tg iter gpos J H1 a s5 s4 cv g go it fp tn → Q' (.ref a) s5) :
    wpAny (model X.prog X.w) X.A (eval (.GeneratorExp elt [⟨tg, iter, [], 0⟩] sc gpos) X.env) Q' X.xe s := by
  have caught : ∀ y ∈ sc.names, y.2 = .free → ∃ c, X.env.cells.lookup y.1 = some c := fun y hy e =>
    (ok.free y hy e).elim (fun z => I.ok.has _ (.inl z)) (fun z => I.ok.has _ (.inr z))
  refine wpAny_GeneratorExp_make hco (closure_ok caught) nocell dot ok.kind (by have := hr.dp; omega) ?_ hs
  refine thn (hi.run pins s σ H _ I h) fun xv s1 h1 => thn h1 fun itv s2 h2 => ?_
  obtain ⟨it, fp, tn, J, H2, rfl, I2, T, st2, f2, hT, hR⟩ := h2
  obtain ⟨⟨rs, hPs, ht⟩, _, _⟩ := I2.hok P _ hT
  have cd : PySem.W.CodeHd s2.heap c P := TB.code.keeps I2.bk
  refine ⟨I2.nolimit, ?_⟩
  have fsz : ∀ b ∈ fp, b < s2.heap.objs.size := fun b hb => by
    obtain ⟨o, e, _⟩ := T.obj _ _ st2 b hb
    exact Heap.lt_size e
  have neP : ∀ b ∈ fp, b ≠ P := fun b hb z => by
    have q := (f2 b hb).1
    have q2 : H2 P = some (.ext (TabE P)) := hT
    rw [z, q2] at q
    cases q
  have cont : ∀ (cv : Value) (s4 : Shared), Inv X pins σ H2 s4 → (∀ b o, b ≠ P → s2.heap.get? b = some o → s4.heap.get? b = some o) → s2.heap.objs.size ≤ s4.heap.objs.size →
      wpAny (model X.prog X.w) X.A (builtinsFor X.env.globals X.env.builtins) (fun bi s₄ => ∀ h', h'.Ns s₄.heap.objs.size (fun y => if y = ".0" then some (Value.ref it) else none) →
        Heap.SameBut s₄.heap.objs.size (s₄.heap.push { cls := .type "frame", data := .dict #[] }) h' →
          Q' (.ref h'.objs.size) { s₄ with
            gens := s₄.gens.push (.fresh (.compStart (.GeneratorExp elt [⟨tg, iter, [], 0⟩] sc gpos) 0 (.ref it) .none (genEnv sc (cloFrom X.env.cells sc.names []) s₄.heap.objs.size cv bi X.env))),
            toks := s₄.toks + 1 + 1 + 1,
            heap := h'.push { cls := .type "generator", data := .fields #[.int s₄.gens.size 0, .str "<genexpr>" (s₄.toks + 1), .str (X.env.qual ++ "<genexpr>") (s₄.toks + 1 + 1)] } }) X.xe s4 := by
    intro cv s4 I4 kp sz
    obtain ⟨bm, ob, e1, e2, e3, e4, e5, e6, e7, e8⟩ := TB.bm
    refine wpAny_builtinsFor (m := X.mg) (by rw [I4.ok.glob]; exact I4.mod.glob.keeps I4.bk) e1 e2 (I4.bk _ _ e5) e6 e7 e8 ?_
    intro h' hn' hs'
    have hsz : h'.objs.size = s4.heap.objs.size + 1 := by rw [hs'.1, Heap.size_push]
    have kp4 : ∀ b o, s4.heap.get? b = some o → (h'.push { cls := .type "generator", data := .fields #[.int s4.gens.size 0, .str "<genexpr>" (s4.toks + 1), .str (X.env.qual ++ "<genexpr>") (s4.toks + 1 + 1)] }).get? b = some o := fun b o e =>
      Heap.get?_push_of_some _ (hs'.extBut b o (Nat.ne_of_lt (Heap.lt_size e)) (Heap.get?_push_of_some _ e))
    have fok : ∀ b ∈ fp, FpOk X pins H2 b ∧ b < s4.heap.objs.size := fun b hb => ⟨f2 b hb, Nat.lt_of_lt_of_le (fsz b hb) sz⟩
    refine hQ J H2 h'.objs.size _ s4 cv s4.gens.size { cls := .type "generator", data := .fields #[.int s4.gens.size 0, .str "<genexpr>" (s4.toks + 1), .str (X.env.qual ++ "<genexpr>") (s4.toks + 1 + 1)] } it fp tn hR
      ⟨I4, fok, T, ?_, fun B hB hF => gen_start I4 ok nocell hN fok hB hF hn' hs' (fun v z => by cases z) (Heap.get?_push_size _ rfl) rfl, fun h e => ⟨_, _, _, e, rfl, rfl, rfl⟩, Heap.get?_push_size _ rfl, fun z => ?_, Array.getElem?_push_size .., I4.nolimit.keeps kp4, I4.bare.push rfl⟩
    · refine T.keep _ _ _ st2 fun b hb o e => kp4 b o (kp b o (neP b hb) e)
    · have q := (fok _ z).2
      rw [hsz] at q
      exact absurd q (Nat.not_lt.mpr (Nat.le_succ _))
  cases hf : codeAmong gpos rs.toList with
  | none =>
    refine wpAny_genexprCodeX hcode (cd.code hPs ht) (cd.tab hPs) hf fun c' h' tk hx hge hlt hco' _ htab' _ => ?_
    obtain ⟨o1, vs, f1, tf, fl, tg', inF, tx, tt, op, _, _, _, _, _, _, _, _, _, htr, _⟩ := hco'
    exact cont _ { s2 with heap := h', toks := tk } (tab_grown (tk := tk) (dd := s2.drawn) (G := s2.gens) I2 hT (fun b o hb e => hx b o hb e) htab'.2 htr I2.bare) (fun b o hb e => hx b o hb e) (Nat.le_trans hge (Nat.le_of_lt hlt))
  | some cv =>
    refine wpAny_genexprCode_hit hcode (cd.code hPs ht) hf ?_
    exact cont cv s2 I2 (fun b o _ e => e) (Nat.le_refl _)

/-- all(e for x in xs): J what is walked; W by the turn and a measure -/
def tAll (P : Addr) (wi : TI) (g : TG) (te : TE) (vs : List Nat) : TE := fun σ H Q => wi σ H fun J H1 => Tab H1 P ∧
  ∃ W : Nat → Nat → Hp → Prop, (∃ m, W 0 m H1) ∧ Step J g te vs (wipe σ vs) (Q (.bl true)) (Q (.bl false)) W

theorem over_gx {A : Around} {elt tg iter : Expr} {sc : Scope} {gpos : Pos} {it : Addr} {ce : Env} :
    (A.over (.compLoop (.GeneratorExp elt [⟨tg, iter, [], 0⟩] sc gpos) 0 (.ref it) .none ce) []).frames = A.frames.map (ce :: ·) := by
  show pushEnvs [ce] (pushEnvs [] A.frames) = _
  cases A.frames <;> rfl
theorem room_gx {A : Around} {k : Nat} {elt tg iter : Expr} {sc : Scope} {gpos : Pos} {it : Addr} {ce : Env} (r : Room (k + 1) A) :
    Room k (A.in1.in1.over (.compLoop (.GeneratorExp elt [⟨tg, iter, [], 0⟩] sc gpos) 0 (.ref it) .none ce) []) := by
  refine ⟨r.hd, ?_, ?_⟩
  · have := r.dp
    show A.depth + 0 + 1 + 3 * k + 5 < _
    omega
  · have := r.un
    show A.units + 1 + 1 + 0 + 3 + 16 * k + 200 < _
    omega

theorem pe_all {c P : Addr} {own : List (Str × Nat)} {sc : Scope} {elt tg iter : Expr} {p pos gpos : Pos} {wi : TI} {g : TG} {te : TE} {k : Nat}
    (hr : Room (k + 1) X.A) (hg : Gl X "all") (hm : X.mg "all" = none) (TB : GxR.TabB X.base X.mg c P) (hcode : X.env.code = .ref c) (hc : X.calm = true) (hN : X.N.Nodup)
    (ok : BlkOk X.N X.env.scope sc own) (nocell : ∀ y ∈ sc.names, y.2 ≠ .cell) (dot : sc.names.lookup (".0" : Str) = some NameKind.local) (hco : sc.isCoroutine = false)
    (hi : PI X tg iter wi) (pg : ∀ (B : Around) (s0 : Shared) (H0 : Hp) (C : Addr) (cv : Value) (fp : List Addr) (pn : List (Addr × Obj)), PG (genCx X B s0 H0 (gEnv X sc C cv) fp pn) tg g)
    (pe : ∀ (B : Around) (s0 : Shared) (H0 : Hp) (C : Addr) (cv : Value) (fp : List Addr) (pn : List (Addr × Obj)), Room k B → PE (genCx X B s0 H0 (gEnv X sc C cv) fp pn) elt te)
    (hs : ∀ v, genFold iter X.env v = pure v := by intro _; rfl)
    (he : starEach [.GeneratorExp elt [⟨tg, iter, [], 0⟩] sc gpos] X.env = (false, eval (.GeneratorExp elt [⟨tg, iter, [], 0⟩] sc gpos) X.env) :: starEach [] X.env := by rfl) :
    PE X (.Call (.Name "all" p) [.GeneratorExp elt [⟨tg, iter, [], 0⟩] sc gpos] [] pos) (tAll P wi g te (own.map (·.2))) := by
  refine ⟨fun pins s σ H Q I h => ?_⟩
  refine wpAny_Call_Name_kw (ld_blt I hg hm (show bootBuiltins "all" = some (.builtin "all") by decide +kernel) ?_)
  refine PyProof.Rows.callWith_builtin1 ?_ he (by rfl)
  rw [he]
  show wpAny _ _ (spliced ((false, eval (.GeneratorExp elt [⟨tg, iter, [], 0⟩] sc gpos) X.env) :: backTo pos (starEach [] X.env))) _ _ s
  refine Calls.spliced_cons (gx_make (own := own) (R := fun J H1 => ∃ W : Nat → Nat → Hp → Prop, (∃ m, W 0 m H1) ∧ Step J g te (List.map Prod.snd own) (wipe σ (List.map Prod.snd own)) (Q (.bl true)) (Q (.bl false)) W)
    hr TB hcode hN ok nocell dot hco hi hs I h fun J H1 a s5 s4 cv gn go it fp tn hR rd => ?_)
  obtain ⟨W, ⟨m0, w0⟩, step⟩ := hR
  refine Calls.spliced_nil ?_
  refine call_function_tree F.kind_all F.plain_all F.entry_all (F.args_all1 _) ?_
  unfold Builtin.«all»
  apply wpAny_bind (m := oneArg "all" _)
  apply wpAny_pure
  apply wpAny_bind
  refine wpAny_pyIter_gen (rd.gen _ rd.at_) ?_
  apply wpAny_pure
  refine ⟨plainId_quiet F.plain_all_loop _, ?_⟩
  -- the element's context
  have hB : X.calm = true → (X.A.in1.in1.over (.compLoop (.GeneratorExp elt [⟨tg, iter, [], 0⟩] sc gpos) 0 (.ref it) .none (gEnv X sc s4.heap.objs.size cv)) []).handled = none := fun z => I.ok.hd z
  have hF : (X.A.in1.in1.over (.compLoop (.GeneratorExp elt [⟨tg, iter, [], 0⟩] sc gpos) 0 (.ref it) .none (gEnv X sc s4.heap.objs.size cv)) []).frames = some (gEnv X sc s4.heap.objs.size cv :: X.stack) := by
    rw [over_gx]
    show X.A.frames.map _ = _
    rw [I.ok.frames]
    rfl
  have J5 := rd.inner _ hB hF
  have back : ∀ (s6 : Shared) (H6 : Hp), Inv (genCx X (X.A.in1.in1.over (.compLoop (.GeneratorExp elt [⟨tg, iter, [], 0⟩] sc gpos) 0 (.ref it) .none (gEnv X sc s4.heap.objs.size cv)) []) s4 H1 (gEnv X sc s4.heap.objs.size cv) fp [(a, go)]) [] (wipe σ (own.map (·.2))) H6 s6 →
      Inv X pins σ H6 s6 := fun s6 H6 I6 => by
    exact rd.outer.call' (ch := fp) I6.os I6.base I6.hok I6.bare fun b hb => ⟨(rd.fps b hb).1.2.2.2.1, (rd.fps b hb).1.2.1, (rd.fps b hb).1.2.2.2.2.1, (rd.fps b hb).1.2.2.2.2.2⟩
  refine code_all (Y := genCx X (X.A.in1.in1.over (.compLoop (.GeneratorExp elt [⟨tg, iter, [], 0⟩] sc gpos) 0 (.ref it) .none (gEnv X sc s4.heap.objs.size cv)) []) s4 H1 (gEnv X sc s4.heap.objs.size cv) fp [(a, go)])
    (A := X.A) (go := go) (g := gn) (τ := wipe σ (own.map (·.2))) (Qt := Q (.bl true)) (Qf := Q (.bl false)) hr.hd hr.depth (by simp) rd.gen
    (fun s6 H6 I6 q6 => ⟨.bl true, H6, back s6 H6 I6, rfl, q6⟩) (fun s6 H6 I6 q6 => ⟨.bl false, H6, back s6 H6 I6, rfl, q6⟩) (m0 + 1) s5 _ (rd.gen _ rd.at_) rd.lim rd.bare rd.gs (fun s7 e7 o7 b7 => ?_)
  have J7 := inv_samehp J5 e7 o7 b7
  have st7 : tn 0 s7.heap := by
    rw [e7]
    exact rd.st
  refine ⟨rfl, seg_all_start rd.turn st7 ?_⟩
  refine seg_all (Y := genCx X (X.A.in1.in1.over (.compLoop (.GeneratorExp elt [⟨tg, iter, [], 0⟩] sc gpos) 0 (.ref it) .none (gEnv X sc s4.heap.objs.size cv)) []) s4 H1 (gEnv X sc s4.heap.objs.size cv) fp [(a, go)])
    rfl hc hco (fun b hb => hb) (fun q hq => ?_) rfl (pg _ _ _ _ _ _ _) (pe _ _ _ _ _ _ _ (room_gx hr)) rd.turn step (fun τ2 hw k v e => ?_) (m0 + 1) 0 m0 s7 s7 H1 (Nat.lt_succ_self _) J7 st7 (fun b hb => (rd.fps b hb).1.1) w0
  · have e : q = (a, go) := by simpa using hq
    subst e
    exact rd.old
  · rw [← hw] at e
    exact (wipe_some e).1
end
end GX
set_option Elab.async false
set_option maxRecDepth 100000
set_option maxHeartbeats 4000000
namespace GX
open PySem PySem.Spec PyProof.Rows L2

/-- a walk of n turns by a word of its own: the next turn is reached -/
def AllNx (n : Nat) (Pv : Nat → Hp → Prop) (i : Nat) (H : Hp) : Prop := ∃ m', m' < n - i ∧ (m' = n - (i + 1) ∧ i + 1 ≤ n ∧ Pv (i + 1) H)
theorem AllNx.mk {n : Nat} {Pv : Nat → Hp → Prop} {i : Nat} {H : Hp} (hi : i < n) (p : Pv (i + 1) H) : AllNx n Pv i H := ⟨n - (i + 1), by omega, rfl, hi, p⟩
theorem all_by {J : It} {g : TG} {te : TE} {vs : List Nat} {τ : L2.St} {Qt Qf : Hp → Prop} {H1 : Hp} (n : Nat) (Pv : Nat → Hp → Prop) (h0 : Pv 0 H1)
    (turn : ∀ i H, i < n → Pv i H → J.go i H ∧ ∀ x H', J.yld i H x H' → g x τ H' fun τ2 H2 => wipe τ2 vs = τ ∧ te τ2 H2 fun y H3 => ∃ b, y = V.bl b ∧ (b = true → AllNx n Pv i H3) ∧ (b = false → Qf H3))
    (stop : ∀ H, Pv n H → J.stop n H ∧ Qt H) :
    ∃ W : Nat → Nat → Hp → Prop, (∃ m, W 0 m H1) ∧ Step J g te vs τ Qt Qf W := by
  refine ⟨fun i m H => m = n - i ∧ i ≤ n ∧ Pv i H, ⟨n, rfl, Nat.zero_le _, h0⟩, ?_⟩
  rintro i m H ⟨rfl, hi, p⟩
  by_cases hlt : i < n
  · obtain ⟨go, nx⟩ := turn i H hlt p
    exact .inr ⟨go, nx⟩
  · have e : i = n := by omega
    subst e
    exact .inl (stop H p)
theorem bf {b : Bool} (h : ¬ b = true) : b = false := by
  cases b with
  | true => exact absurd rfl h
  | false => rfl
end GX

namespace RS
open PySem PySem.Spec PyProof.Rows L2 GX
/-! ### defs as constants of the module -/
/-- the def st stands as the module's x; c: its code object -/
structure DefAt (K : PySem.W.Frag) (mg : Str → Option Value) (x : Str) (st : Stmt) (c : Addr) : Prop where
  ex : ∃ (f : Addr) (oc : Value) (od : Option Addr) (kV doc pm : Value) (an : Option Addr) (ct : Value) (osl : Array (Option Value)),
    mg x = some (.ref f) ∧ K.lookup f = some ⟨oc, od, .func (PySem.W.fnOf x x (defArgs st) (defBody st) (defScope st) .none kV doc pm an (.ref c) ct), osl⟩ ∧
    PySem.W.codeIn K (.ref c) x = true ∧ PySem.W.keepIn K (.ref f) = true
/-- what a caller needs of a def: its promise -/
structure Cal (P : Program) (w : World) (K : PySem.W.Frag) (mg : Str → Option Value) (base : Heap) (CX : CXT) (k : Nat) (x : Str) (ps : List Str) (sp : Sp) : Prop where
  ex : ∃ (f : Addr) (fd : FuncData), FnOk P w K mg base CX k f fd ps sp ∧ mg x = some (.ref f) ∧ PySem.W.keepIn K (.ref f) = true ∧ Binds K fd ps []
section
variable {P : Program} {w : World} {K : PySem.W.Frag} {mg : Str → Option Value} {base : Heap}
theorem def_ok {CX : CXT} {x : Str} {st : Stmt} {c : Addr} {N ps : List Str} {k : Nat} {sp : Sp} (D : DefAt K mg x st c) (S : FnScope N ps (defScope st)) (len : ∀ vs H Q E, sp vs H Q E → vs.length = ps.length)
    (hb : ∀ (kV doc pm : Value) (an : Option Addr) (cdv ct : Value) (us : List Value), us.length = ps.length → bindArgs (PySem.W.fnOf x x (defArgs st) (defBody st) (defScope st) .none kV doc pm an cdv ct) ⟨us, []⟩ = pure (ps.zip us))
    (hbody : ∀ (f : Addr) (A : Around) (outer : List Env) (s : Shared) (H : Hp) (vs : List V) (Q : VK) (E : XK), Room k (A.deeper (envOfC x (defScope st) s.heap.objs.size f (.ref c))) → sp vs H Q E →
      ∃ t, PSs (cxOf CX P w K mg base N x (defScope st) f (.ref c) A outer s H E) (defBody st) t ∧ t { nx := fun _ H' => Q .non H', rt := Q } (start N vs) H) :
    Cal P w K mg base CX (k + 1) x ps sp := by
  obtain ⟨f, oc, od, kV, doc, pm, an, ct, osl, hm, lk, hcd, kp⟩ := D.ex
  exact ⟨f, _, fn_of lk hcd S len fun A outer s H vs Q E hr hsp => hbody f A outer s H vs Q E hr hsp, hm, kp, .all (hb kV doc pm an (.ref c) ct)⟩
/-- .. that no exception leaves -/
theorem def_ok0 {x : Str} {st : Stmt} {c : Addr} {N ps : List Str} {k : Nat} {sp : Sp} (D : DefAt K mg x st c) (S : FnScope N ps (defScope st)) (len : ∀ vs H Q E, sp vs H Q E → vs.length = ps.length)
    (hb : ∀ (kV doc pm : Value) (an : Option Addr) (cdv ct : Value) (us : List Value), us.length = ps.length → bindArgs (PySem.W.fnOf x x (defArgs st) (defBody st) (defScope st) .none kV doc pm an cdv ct) ⟨us, []⟩ = pure (ps.zip us))
    (hbody : ∀ (f : Addr) (A : Around) (outer : List Env) (s : Shared) (H : Hp) (vs : List V) (Q : VK) (E : XK), Room k (A.deeper (envOfC x (defScope st) s.heap.objs.size f (.ref c))) → sp vs H Q E →
      ∃ t, PSs (cxOf CX0 P w K mg base N x (defScope st) f (.ref c) A outer s H E).nox (defBody st) t ∧ t { nx := fun _ H' => Q .non H', rt := Q } (start N vs) H) :
    Cal P w K mg base CX0 (k + 1) x ps sp :=
  def_ok D S len hb fun f A outer s H vs Q E hr hsp => by
    obtain ⟨t, ht, q⟩ := hbody f A outer s H vs Q E hr hsp
    exact ⟨t, ht.nox, q⟩
end
section
variable {X : Cx} {CX : CXT} {k j : Nat} {ps : List Str} {sp : Sp} {E : XK} {x : Str} {p pos : Pos} {e : Expr} {es : List Expr} {t : TA}
theorem pe_c (c : Cal X.prog X.w X.K X.mg X.base CX k x ps sp) (hr : Room j X.A) (hk : k ≤ j) (hg : Gl X x) (hx : Passes CX X E) (ha : PA X (e :: es) t) (hdb : (x == ("__debug__" : Str)) = false := by decide)
    (he : starEach (e :: es) X.env = (false, eval e X.env) :: starEach es X.env := by rfl) (hpl : (backTo pos (starEach es X.env)).any (·.1) = false := by rfl) :
    PE X (.Call (.Name x p) (e :: es) [] pos) (tCall sp [] E t) := by
  obtain ⟨f, fd, F, hm, kp, hb⟩ := c.ex
  exact pe_call F (hr.mono hk) hg hm kp hb .nil hx ha hdb he hpl
end

/-! ### data -/
theorem sqT_same {K : PySem.W.Frag} {H H' : Hp} {a : Addr} {xs : List V} (e : Same H H') (h : SqT K H a xs) : SqT K H' a xs := by
  rcases h with (h | ⟨o, h⟩) | h
  · exact .inl (.inl (e _ _ h))
  · exact .inl (.inr ⟨o, e _ _ h⟩)
  · exact .inr h
mutual
theorem dp_same {K : PySem.W.Frag} {H H' : Hp} (e : Same H H') : ∀ (d : PyData) {v : V}, Dp K H v d → Dp K H' v d
  | .none, _, .non => .non
  | .bool b, _, .bl _ => .bl b
  | .int i, _, .int _ => .int i
  | .str x, _, .str _ => .str x
  | .list ds, _, .lst h hs => .lst (e.seq h) (dpAll_same e ds hs)
  | .tuple ds, _, .tup h hs => .tup (sqT_same e h) (dpAll_same e ds hs)
  | .dict _, _, h => nomatch h
theorem dpAll_same {K : PySem.W.Frag} {H H' : Hp} (e : Same H H') : ∀ (ds : List PyData) {vs : List V}, DpAll K H vs ds → DpAll K H' vs ds
  | [], _, .nil => .nil
  | d :: ds, _, .cons h hs => .cons (dp_same e d h) (dpAll_same e ds hs)
end
theorem dpLen {K : PySem.W.Frag} {H : Hp} : ∀ {vs : List V} {ds : List PyData}, DpAll K H vs ds → vs.length = ds.length
  | _, _, .nil => rfl
  | _, _, .cons _ t => congrArg (· + 1) (dpLen t)
theorem dpGet {K : PySem.W.Frag} {H : Hp} : ∀ {vs : List V} {ds : List PyData} {i : Nat} {v : V}, DpAll K H vs ds → vs[i]? = some v → ∃ d, ds[i]? = some d ∧ Dp K H v d
  | _, _, _, _, .nil, e => by simp at e
  | _, _, 0, _, .cons h _, e => by
    simp at e
    subst e
    exact ⟨_, rfl, h⟩
  | _, _, i + 1, v, .cons _ t, e => by
    obtain ⟨d, h1, h2⟩ := dpGet (i := i) (v := v) t (by simpa using e)
    exact ⟨d, by simpa using h1, h2⟩
theorem dpGet' {K : PySem.W.Frag} {H : Hp} {vs : List V} {ds : List PyData} {i : Nat} {d : PyData} (h : DpAll K H vs ds) (e : ds[i]? = some d) : ∃ v, vs[i]? = some v ∧ Dp K H v d := by
  have hl := dpLen h
  have hi : i < vs.length := by
    rw [hl]
    exact (List.getElem?_eq_some_iff.mp e).1
  obtain ⟨d', e', h'⟩ := dpGet h (List.getElem?_eq_getElem hi)
  rw [e] at e'
  cases e'
  exact ⟨_, List.getElem?_eq_getElem hi, h'⟩
theorem dpApp {K : PySem.W.Frag} {H : Hp} : ∀ {vs ws : List V} {ds es : List PyData}, DpAll K H vs ds → DpAll K H ws es → DpAll K H (vs ++ ws) (ds ++ es)
  | _, _, _, _, .nil, h => h
  | _, _, _, _, .cons h t, q => .cons h (dpApp t q)

/-- the name of a datum's type -/
def tyN : PyData → String
  | .none => "NoneType"
  | .bool _ => "bool"
  | .int _ => "int"
  | .str _ => "str"
  | .list _ => "list"
  | .tuple _ => "tuple"
  | .dict _ => "dict"
/-- isinstance(d, T), d's type being n -/
def isT (T n : String) : Bool := T == n || (T == "int" && n == "bool")
def isI (T : String) (d : PyData) : Bool := isT T (tyN d)
theorem kit_names : ∀ n ∈ ["NoneType", "bool", "int", "str", "list", "tuple"], ∀ T ∈ ["int", "bool", "str", "list", "tuple"], kitB n T = some (isT T n) := by decide +kernel
theorem dp_ty {K : PySem.W.Frag} {H : Hp} {v : V} {d : PyData} (h : Dp K H v d) : TyX K H v (.type (tyN d)) := by
  cases h with
  | non => exact .base .non
  | bl b => exact .base (.bl b)
  | int i => exact .base (.int i)
  | str x => exact .base (.str x)
  | lst q _ =>
    rcases q with (q | ⟨o, q⟩) | ⟨o, its, n, q, c, _⟩
    · exact .base (.lst q)
    · exact .base (.frz q)
    · exact .kList q c
  | tup q _ =>
    rcases q with (q | ⟨o, q⟩) | ⟨o, its, n, q, c, _⟩
    · exact .base (.tup q)
    · exact .fTuple q
    · exact .kTuple q c
theorem kit_isI {K : PySem.W.Frag} {T : String} (hT : T ∈ ["int", "bool", "str", "list", "tuple"]) {H : Hp} {v : V} {d : PyData} (h : Dp K H v d) : PySem.W.kitOne K (.type (tyN d)) (.type T) = some (isI T d) := by
  refine kit_ty (kit_names _ ?_ _ hT)
  cases h <;> simp [tyN]
theorem isi_at {K : PySem.W.Frag} {H : Hp} {v : V} {d : PyData} {T : String} {Q : VK} (h : Dp K H v d) (q : Q (.bl (isI T d)) H) (hT : T ∈ ["int", "bool", "str", "list", "tuple"] := by simp) : rIsi K [v, .ty T] H Q :=
  ⟨v, .ty T, _, _, isI T d, rfl, .ty T, dp_ty h, kit_isI hT h, q⟩
end RS
set_option Elab.async false
set_option maxRecDepth 100000
set_option maxHeartbeats 4000000
namespace RS
open PySem PySem.Spec PyProof.Rows L2 GX
section
variable {X : Cx}
/-! ### rules whose readings speak of data -/
/-- isinstance(x, T) -/
theorem call_isiD : CallR X (.builtin "isinstance") (fun xs H Q => ∃ x T d, xs = [x, .ty T] ∧ T ∈ ["int", "bool", "str", "list", "tuple"] ∧ Dp X.K H x d ∧ Q (.bl (isI T d)) H) := by
  intro pins s σ H xs us Q I r ⟨x, T, d, e, hT, hd, q⟩
  subst e
  exact call_isi pins s σ H _ us Q I r ⟨x, .ty T, _, _, isI T d, rfl, .ty T, dp_ty hd, kit_isI hT hd, q⟩
/-- how many items -/
def lenD : PyData → Option Nat
  | .list ds => some ds.length
  | .tuple ds => some ds.length
  | .str x => if x.length ≤ sizeLine then some x.length else none
  | _ => none
/-- len(x) of a list, a tuple, a text -/
theorem call_lenD : CallR X (.builtin "len") (fun xs H Q => ∃ x d n, xs = [x] ∧ Dp X.K H x d ∧ lenD d = some n ∧ Q (.int n) H) := by
  intro pins s σ H xs us Q I r ⟨x, d, n, e, hd, hn, q⟩
  subst e
  cases hd with
  | non => cases hn
  | bl _ => cases hn
  | int _ => cases hn
  | str y =>
    simp only [lenD] at hn
    split at hn
    · rename_i hz
      cases hn
      exact call_len_str pins s σ H _ us Q I r ⟨y, rfl, hz, q⟩
    · cases hn
  | @lst a ys ds h hs =>
    cases hn
    rw [← dpLen hs] at q
    exact call_len_seq pins s σ H _ us Q I r ⟨a, ys, rfl, .inl h, q⟩
  | @tup a ys ds h hs =>
    cases hn
    rw [← dpLen hs] at q
    exact call_len_seq pins s σ H _ us Q I r ⟨a, ys, rfl, .inr h, q⟩
/-- the items of a list or tuple -/
def itemsD : PyData → Option (List PyData)
  | .list ds => some ds
  | .tuple ds => some ds
  | _ => none
/-- x[i] of a list or a tuple -/
theorem ixD : IxR X (fun x y H Q => ∃ d ds i d', Dp X.K H x d ∧ itemsD d = some ds ∧ y = .int i ∧ atI ds i = some d' ∧ ∀ v, Dp X.K H v d' → Q v H) := by
  intro value slice pins s σ H x y v u Q I rx ry ⟨d, ds, i, d', hd, hi, ey, ha, q⟩ hs
  have at_ : ∀ {vs : List V}, DpAll X.K H vs ds → ∃ v, atI vs i = some v ∧ Dp X.K H v d' := fun {vs} hv => by
    unfold atI at ha ⊢
    rw [← dpLen hv] at ha
    cases hx : ixN vs.length i with
    | none => rw [hx] at ha; cases ha
    | some j =>
      rw [hx] at ha
      exact dpGet' hv ha
  cases hd with
  | non => cases hi
  | bl _ => cases hi
  | int _ => cases hi
  | str _ => cases hi
  | @lst a ys es h hes =>
    cases hi
    obtain ⟨z, hz, hzd⟩ := at_ hes
    exact ix_list value slice pins s σ H _ y v u Q I rx ry ⟨a, ys, i, z, rfl, ey, h, hz, q z hzd⟩ hs
  | @tup a ys es h hes =>
    cases hi
    obtain ⟨z, hz, hzd⟩ := at_ hes
    exact ix_tup value slice pins s σ H _ y v u Q I rx ry ⟨a, ys, i, z, rfl, ey, h, hz, q z hzd⟩ hs
end
end RS
set_option Elab.async false
set_option maxRecDepth 100000
set_option maxHeartbeats 4000000
namespace RS
open PySem L2
def top (i : Nat) : Stmt := PySem.Challenge.pw_runsorts_k07_plans_and_costs.main.body.getD i (.Pass ⟨0, 0, 0, 0⟩)

abbrev s_BadRows_init : Stmt := inClass (top 5) 0
abbrev s_BadRuns_init : Stmt := inClass (top 6) 0
abbrev s_BadText_init : Stmt := inClass (top 17) 0
abbrev sIsNumber : Stmt := top 19
abbrev s_Stretches_init : Stmt := inClass (top 21) 0
abbrev s_Stretches_inner_first : Stmt := inClass (top 21) 1
abbrev s_Stretches_noted : Stmt := inClass (top 21) 2
abbrev s_Stretches_note : Stmt := inClass (top 21) 3
abbrev s_Stretches_least : Stmt := inClass (top 21) 4
abbrev s_Stretches_limit : Stmt := inClass (top 21) 5
abbrev s_Stretches_plan : Stmt := inClass (top 21) 6
abbrev s_check_lengths : Stmt := top 27
abbrev s_check_ways : Stmt := top 28
abbrev s_check_plan : Stmt := top 29
abbrev s_check_merging : Stmt := top 30
abbrev s_how_many : Stmt := top 31
abbrev s_cost : Stmt := top 32
abbrev s_cheapest : Stmt := top 33
abbrev s_neighbours : Stmt := top 34
abbrev s_bound : Stmt := top 35
abbrev s_paper : Stmt := top 36
abbrev s_cheapest_stretches : Stmt := top 37
abbrev s_told_numbers : Stmt := top 38
abbrev s_written_plan : Stmt := top 40
abbrev s_plan_text : Stmt := top 41
abbrev s_read_plan : Stmt := top 42
abbrev s_put_together : Stmt := top 43
abbrev s_may_stand : Stmt := top 44
abbrev s_is_figures : Stmt := top 45
abbrev sBegun : Stmt := top 47
abbrev sTake : Stmt := top 48
abbrev sAlike : Stmt := top 49
abbrev sClass : Stmt := top 50
abbrev sTold : Stmt := top 51
abbrev sAll : Stmt := top 52
abbrev s__law_lengths : Stmt := top 53
abbrev s__law_plan : Stmt := top 54
abbrev s__law_side : Stmt := top 55
abbrev s__law_in : Stmt := top 56
abbrev s__law_cost : Stmt := top 57
abbrev s__law_fits : Stmt := top 58
abbrev s__law_bad : Stmt := top 59
abbrev sLaw : Stmt := top 60

abbrev nKinds : Str := "_law_kinds"

/-- what the module's names hold -/
structure Txt (K : PySem.W.Frag) (mg : Str → Option Value) : Prop where
  isinstance : mg "isinstance" = none
  int_ : mg "int" = none
  bool_ : mg "bool" = none
  str_ : mg "str" = none
  list_ : mg "list" = none
  tuple_ : mg "tuple" = none
  len : mg "len" = none
  all : mg "all" = none
  zip : mg "zip" = none
  enumerate : mg "enumerate" = none
  ord : mg "ord" = none
  range : mg "range" = none
  sorted : mg "sorted" = none
  max : mg "max" = none
  min : mg "min" = none
  lengths : ∃ t, mg "MOST_LENGTHS" = some (.int 40 t)
  length : ∃ t, mg "MOST_LENGTH" = some (.int 1000000 t)
  leastw : ∃ t, mg "LEAST_WAYS" = some (.int 2 t)
  mostw : ∃ t, mg "MOST_WAYS" = some (.int 6 t)
end RS
set_option Elab.async false
set_option maxRecDepth 100000
set_option maxHeartbeats 4000000
namespace RS
open PySem PySem.Spec PyProof.Rows L2 GX

/-! ### the mathematics: what a number, a word, a value, a row is -/
def isNum (d : PyData) : Bool := isI "int" d && !isI "bool" d

section
variable {P : Program} {w : World} {K : PySem.W.Frag} {mg : Str → Option Value} {base : Heap}
theorem scIsNumber : FnScope ["value"] ["value"] (defScope sIsNumber) := ⟨rfl, rfl, rfl, by decide +kernel, rfl, by decide +kernel, by decide +kernel⟩
def spNum (K : PySem.W.Frag) : Sp := fun vs H Q _ => ∃ (v : V) (d : PyData), vs = [v] ∧ Dp K H v d ∧ Q (.bl (isNum d)) H
theorem is_number_ok {c : Addr} (D : DefAt K mg "is_number" sIsNumber c) (T : Txt K mg) : Cal P w K mg base CX0 1 "is_number" ["value"] (spNum K) := by
  have sc := scIsNumber
  refine def_ok0 D sc (fun vs H Q E h => ?_) (fun _ _ _ _ _ _ us hl => match us, hl with | [_], _ => rfl) (fun f A outer s H vs Q E hr h => ?_)
  · obtain ⟨v, d, rfl, _⟩ := h
    rfl
  · obtain ⟨v, d, rfl, hd, k⟩ := h
    refine ⟨_, (pss_one (ps_ret (pe_and (pe_callB call_isiD (by rfl) T.isinstance (by decide +kernel) (pa_cons (pv 0) (pa_cons (pe_bltn (v := V.ty "int") (u := Value.type "int") (by rfl) T.int_ (by decide +kernel) rfl) pa_nil))) (pe_one (pe_not (pe_callB call_isiD (by rfl) T.isinstance (by decide +kernel) (pa_cons (pv 0) (pa_cons (pe_bltn (v := V.ty "bool") (u := Value.type "bool") (by rfl) T.bool_ (by decide +kernel) rfl) pa_nil)))))))), ?_⟩
    refine ⟨_, rfl, _, _, _, rfl, by simp, hd, _, rfl, ?_⟩
    refine ite2 (fun h1 => ?_) (fun h1 => ?_)
    · refine ⟨_, rfl, _, _, _, rfl, by simp, hd, _, rfl, ?_⟩
      have e : isNum d = !isI "bool" d := by unfold isNum; rw [h1, Bool.true_and]
      rw [← e]
      exact k
    · have e : isNum d = false := by unfold isNum; rw [bf h1, Bool.false_and]
      rw [← e]
      exact k

end
end RS
set_option Elab.async false
set_option maxRecDepth 100000
set_option maxHeartbeats 4000000
namespace RS
open PySem PySem.Spec PyProof.Rows L2 GX

/-- many new objects are laid and tracked at once -/
theorem laid_many {X : Cx} {pins : List (Addr × Obj)} {σ : L2.St} {H H2 : Hp} {s : Shared} {g : Heap} {tk : Nat} (I : Inv X pins σ H s) (kp : ∀ b u, s.heap.get? b = some u → g.get? b = some u)
    (old : ∀ b, b < s.heap.objs.size → H2 b = H b) (new : ∀ b o, s.heap.objs.size ≤ b → H2 b = some o → ObjOk X.prog X.w H2 g b o) : Inv X pins σ H2 { s with heap := g, toks := tk } := by
  have up : ∀ b o, H b = some o → H2 b = some o := fun b o e => by rw [old b (I.hok.lt e)]; exact e
  refine I.un (t' := tk) ⟨fun b o e _ _ _ => kp b o e, fun b o e _ _ _ => ⟨o.slots, kp b o e⟩, fun b o e n _ => by rw [old b (Heap.lt_size e)]; exact n, fun b o e _ => ⟨o, kp b o e⟩,
    fun b xs e => up b _ e, fun b o u e => up b _ e, fun b ps e => ⟨#[], by rw [up b _ e, Array.append_empty]⟩⟩ (fun b o e => ?_)
  by_cases hb : b < s.heap.objs.size
  · rw [old b hb] at e
    exact (I.hok b o e).stay (fun c u _ q => kp c u q) (fun c q => up c _ q) (fun c xs q => up c _ q)
  · exact new b o (Nat.le_of_not_lt hb) e

theorem enum_no_len : typeLookup (.type "enumerate") "__len__" = pure none := by rw [typeLookup_type, builtinLookup_eq_fast]; kernel_rfl
theorem enum_no_hint : typeLookup (.type "enumerate") "__length_hint__" = pure none := by rw [typeLookup_type, builtinLookup_eq_fast]; kernel_rfl

/-- the enumeration e over the iterator it of the list l stands ahead of item i -/
def EnumAt (h : Heap) (e it l : Addr) (i : Nat) : Prop :=
  h.IsListIter it l i ∧ ((i = 0 ∧ IsEnum h e it 0 .none) ∨ ∃ (T : Addr) (f : Bool) (x : Value) (o : Obj), IsEnumHeld h e it (i : Int) x T f ∧ h.get? T = some o ∧ T ≠ e ∧ T ≠ it)
/-- the pairs that have been put into acc -/
def Pairs (h : Heap) (lo : Nat) (items : Array Value) (acc : Array Value) : Prop :=
  ∀ j v, acc[j]? = some v → ∃ (T : Addr) (tk : Nat) (x : Value), v = .ref T ∧ lo ≤ T ∧ items[j]? = some x ∧ h.get? T = some { cls := .type "tuple", data := .seq #[.int (j : Nat) tk, x] }
section
variable {prog : Program} {w : World} {A : Around} {s0 : Shared} {S e it l : Addr} {items : Array Value}
theorem enum_next {E : Value → Shared → Prop} {s : Shared} {i : Nat} {x : Value} {Q : Option Value → Shared → Prop} (hs : EnumAt s.heap e it l i) (hl : s.heap.IsList l items) (hx : items[i]? = some x) (hne : e ≠ it)
    (he : e < s.heap.objs.size) (hi : it < s.heap.objs.size)
    (hQ : ∀ g, EnumAt g e it l (i + 1) → g.get? s.heap.objs.size = some { cls := .type "tuple", data := .seq #[.int (i : Nat) s.toks, x] } → (∀ b o, b ≠ e → b ≠ it → s.heap.get? b = some o → g.get? b = some o) →
      Q (some (.ref s.heap.objs.size)) { s with heap := g, toks := s.toks + 1 }) : wpAny (model prog w) A (pyNext (.ref e)) Q E s := by
  obtain ⟨hit, ⟨rfl, h0⟩ | ⟨T, f, y, o, h1, hT, hTe, hTi⟩⟩ := hs
  · refine wpAny_pyNext_enum_item (i := 0) h0 hit hl hx hne fun g a b c _ d => hQ g ⟨b, .inr ⟨_, _, _, _, a, c, Nat.ne_of_gt he, Nat.ne_of_gt hi⟩⟩ c d
  · exact wpAny_pyNext_enum_item_held h1 hT hTe hTi hit hl hx hne fun g a b c _ d => hQ g ⟨b, .inr ⟨T, true, y, o, a, d T o hTe hTi hT, hTe, hTi⟩⟩ c d
theorem enum_stop {E : Value → Shared → Prop} {s : Shared} {i : Nat} {Q : Option Value → Shared → Prop} (hh : A.handled = none) (hs : EnumAt s.heap e it l i) (hl : s.heap.IsList l items) (hx : items[i]? = none)
    (hQ : ∀ g, Heap.ExtBut it s.heap g → Q none { s with heap := g }) : wpAny (model prog w) A (pyNext (.ref e)) Q E s := by
  obtain ⟨hit, ⟨rfl, h0⟩ | ⟨T, f, y, o, h1, hT, hTe, hTi⟩⟩ := hs
  · exact wpAny_pyNext_enum_end hh h0 hit hl hx hQ
  · exact wpAny_pyNext_enum_end_held hh h1 hit hl hx hQ

theorem enum_loop {R : Result → Shared → Prop} {res : Value} (hh : A.handled = none) (hne : e ≠ it) (hSe : S ≠ e) (hSi : S ≠ it) (hSl : S ≠ l) (hle : l ≠ e) (hli : l ≠ it) (lo : Nat) (hz : items.size ≤ sizeLine)
    (hend : ∀ g tk acc c, g.get? S = some (lstObj acc c) → acc.size = items.size → Pairs g lo items acc → (∀ b o, b ≠ e → b ≠ it → b ≠ S → s0.heap.get? b = some o → g.get? b = some o) → R (.ok (.ret res)) { s0 with heap := g, toks := tk }) :
    ∀ (k i : Nat) (g : Heap) (tk : Nat) (acc : Array Value) (c : Nat), items.size - i = k → i ≤ items.size → acc.size = i → g.get? S = some (lstObj acc c) → EnumAt g e it l i → g.IsList l items → lo ≤ g.objs.size → e < lo → it < lo → S < lo →
      Pairs g lo items acc → (∀ b o, b ≠ e → b ≠ it → b ≠ S → s0.heap.get? b = some o → g.get? b = some o) →
      codeAny (model prog w) A (.builtin "list.extend.loop" ⟨[.ref S, .ref e, res], []⟩) R { s0 with heap := g, toks := tk } := by
  intro k
  induction k with
  | zero =>
    intro i g tk acc c hk hi ha hS he hl hlo helo hilo hSlo hp hkp
    have hin : i = items.size := by omega
    refine codeAny_builtin F.entry_extend_loop ?_
    rw [Around.under_plainId F.plain_extend_loop _]
    show wpAny _ A.in1 (pyNext (.ref e) >>= _) _ _ _
    refine wpAny_bind (enum_stop (s := { s0 with heap := g, toks := tk }) hh he hl (by rw [hin]; simp) fun g2 ext => ?_)
    refine wpAny_pure (hend g2 tk acc c (ext S _ hSi hS) (by omega) (fun j v hv => ?_) (fun b o h1 h2 h3 q => ext b o h2 (hkp b o h1 h2 h3 q)))
    obtain ⟨T, tk', x, e1, e2, e3, e4⟩ := hp j v hv
    exact ⟨T, tk', x, e1, e2, e3, ext T _ (Nat.ne_of_gt (Nat.lt_of_lt_of_le hilo e2)) e4⟩
  | succ k ih =>
    intro i g tk acc c hk hi ha hS he hl hlo helo hilo hSlo hp hkp
    have hlt : i < items.size := by omega
    refine codeAny_builtin F.entry_extend_loop ?_
    rw [Around.under_plainId F.plain_extend_loop _]
    show wpAny _ A.in1 (pyNext (.ref e) >>= _) _ _ _
    refine wpAny_bind (enum_next (s := { s0 with heap := g, toks := tk }) he hl (Array.getElem?_eq_getElem hlt) hne (Nat.lt_of_lt_of_le helo hlo) (Nat.lt_of_lt_of_le hilo hlo) fun g2 he2 hT2 hk2 => ?_)
    have hS2 : g2.get? S = some (lstObj acc c) := hk2 S _ hSe hSi hS
    have gT : g.objs.size ≠ S := fun z => Nat.lt_irrefl _ (Nat.lt_of_lt_of_le (by rw [z]; exact hSlo) hlo)
    have gTe : g.objs.size ≠ e := fun z => Nat.lt_irrefl _ (Nat.lt_of_lt_of_le (by rw [z]; exact helo) hlo)
    have gTi : g.objs.size ≠ it := fun z => Nat.lt_irrefl _ (Nat.lt_of_lt_of_le (by rw [z]; exact hilo) hlo)
    show wpAny _ A.in1 (updateSeq S (·.push (.ref g.objs.size)) >>= _) _ _ _
    apply wpAny_bind
    refine wpAny_updateSeq hS2 rfl (wpAny_pure ⟨plainId_quiet F.plain_extend_loop _, ?_⟩) (by omega) (by show (acc.push _).size ≤ sizeLine + 1; rw [Array.size_push]; omega)
    have up : ∀ b o, b ≠ S → g2.get? b = some o → (g2.update S (Obj.mapSeq (·.push (.ref g.objs.size)))).get? b = some o := fun b o hb q => (Heap.get?_update_other _ _ (Ne.symm hb)).trans q
    have lt2 : g.objs.size < g2.objs.size := Heap.lt_size hT2
    refine ih (i + 1) _ _ (acc.push (.ref g.objs.size)) _ (by omega) hlt (by rw [Array.size_push]; omega) (Heap.get?_update_self _ hS2 rfl) ?_ ?_ ?_ helo hilo hSlo (fun j v hv => ?_) (fun b o h1 h2 h3 q => up b o h3 (hk2 b o h1 h2 (hkp b o h1 h2 h3 q)))
    · obtain ⟨⟨oi, hoi, r⟩, hd⟩ := he2
      refine ⟨⟨oi, up it oi (Ne.symm hSi) hoi, r⟩, ?_⟩
      rcases hd with ⟨z, q⟩ | ⟨T, f, x, o, q1, q2, q3, q4⟩
      · exact .inl ⟨z, up e _ (Ne.symm hSe) q⟩
      · by_cases hTS : T = S
        · subst hTS
          exact .inr ⟨T, f, x, _, up e _ (Ne.symm hSe) q1, Heap.get?_update_self _ hS2 rfl, q3, q4⟩
        · exact .inr ⟨T, f, x, o, up e _ (Ne.symm hSe) q1, up T o hTS q2, q3, q4⟩
    · obtain ⟨ol, hol, r⟩ := hl
      exact ⟨ol, up l ol (Ne.symm hSl) (hk2 l ol hle hli hol), r⟩
    · rw [Heap.size_update]
      exact Nat.le_trans hlo (Nat.le_of_lt lt2)
    · rw [Array.getElem?_push] at hv
      split at hv
      · rename_i hj
        cases hv
        have ej : j = i := by omega
        subst ej
        exact ⟨g.objs.size, tk, items[j], rfl, hlo, Array.getElem?_eq_getElem hlt, up _ _ gT hT2⟩
      · obtain ⟨T, tk', x, e1, e2, e3, e4⟩ := hp j v hv
        have nTS : T ≠ S := Nat.ne_of_gt (Nat.lt_of_lt_of_le hSlo e2)
        exact ⟨T, tk', x, e1, e2, e3, up T _ nTS (hk2 T _ (Nat.ne_of_gt (Nat.lt_of_lt_of_le helo e2)) (Nat.ne_of_gt (Nat.lt_of_lt_of_le hilo e2)) e4)⟩
end
end RS
set_option Elab.async false
set_option maxRecDepth 100000
set_option maxHeartbeats 4000000
namespace RS
open PySem PySem.Spec PyProof.Rows L2 GX

/-- list(e), e an enumeration of the list l that has just been made -/
theorem list_of_enum {P : Program} {w : World} {A : Around} {E : Value → Shared → Prop} {s : Shared} {e it l : Addr} {items : Array Value} {Q : Value → Shared → Prop} (hh : A.handled = none) (he : IsEnum s.heap e it 0 .none) (hit : s.heap.IsListIter it l 0) (hl : s.heap.IsList l items)
    (hne : e ≠ it) (hle : l ≠ e) (hli : l ≠ it) (hz : items.size ≤ sizeLine)
    (hQ : ∀ g tk acc c, g.get? s.heap.objs.size = some (lstObj acc c) → acc.size = items.size → Pairs g (s.heap.objs.size + 1) items acc → (∀ b o, b ≠ e → b ≠ it → s.heap.get? b = some o → g.get? b = some o) → Q (.ref s.heap.objs.size) { s with heap := g, toks := tk }) :
    wpAny (model P w) A (call (.type "list") [.ref e]) Q E s := by
  have lte : e < s.heap.objs.size := Heap.lt_size he
  have lti : it < s.heap.objs.size := by obtain ⟨o, ho, _⟩ := hit; exact Heap.lt_size ho
  have ltl : l < s.heap.objs.size := by obtain ⟨o, ho, _⟩ := hl; exact Heap.lt_size ho
  have hSe : s.heap.objs.size ≠ e := Nat.ne_of_gt lte
  have tyE : ∀ {g : Heap}, (∀ b o, s.heap.get? b = some o → g.get? b = some o) → ({ s with heap := g } : Shared).TypeIs (.ref e) "enumerate" := fun {g} q => ⟨_, q _ _ he, rfl⟩
  refine callType_codes (Q₁ := fun obj s₁ => obj = .ref s.heap.objs.size ∧ s₁ = { s with heap := s.heap.push { cls := .type "list", data := .seq #[] } }) PySem.F.called_list (PySem.F.typeCall_list_1 _) PySem.F.entry_list_init
    (code_list_new _ ⟨rfl, rfl⟩) fun obj s₁ h₁ => ?_
  obtain ⟨rfl, rfl⟩ := h₁
  have hS : (s.heap.push { cls := .type "list", data := .seq #[] }).get? s.heap.objs.size = some { cls := .type "list", data := .seq #[] } := Heap.get?_push_size _ rfl
  refine ⟨⟨_, hS, rfl⟩, PySem.F.args_list_init_2 _ _, ?_⟩
  show wpAny _ A.in1.in1 (do
    let old ← Builtin.List.listItems (.ref s.heap.objs.size)
    Builtin.List.listUpdate (.ref s.heap.objs.size) (fun _ => #[])
    letGo old.toList.reverse
    Builtin.List.listExtendWith (.ref s.heap.objs.size) (.ref e) .none) _ _ _
  apply wpAny_bind
  unfold Builtin.List.listItems
  refine wpAny_bind (wpAny_seqItems hS rfl (wpAny_pure ?_))
  show wpAny _ A.in1.in1 (updateSeq s.heap.objs.size (fun _ => #[]) >>= fun _ => letGo (#[] : Array Value).toList.reverse >>= fun _ =>
    Builtin.List.listExtendWith (.ref s.heap.objs.size) (.ref e) .none) _ _ _
  refine wpAny_bind (wpAny_updateSeq hS rfl ?_)
  have hS2 := Heap.get?_update_self (Obj.mapSeq (fun _ => (#[] : Array Value))) hS rfl
  apply wpAny_bind
  apply wpAny_letGo
  unfold Builtin.List.listExtendWith
  have up : ∀ (h : Heap) (f : Obj → Obj), (∀ b o, s.heap.get? b = some o → h.get? b = some o) → ∀ b o, s.heap.get? b = some o → (h.update s.heap.objs.size f).get? b = some o := fun h f q b o y =>
    (Heap.get?_update_other _ _ (Ne.symm (Nat.ne_of_lt (Heap.lt_size y)))).trans (q b o y)
  have k1 : ∀ b o, s.heap.get? b = some o → (s.heap.push { cls := .type "list", data := .seq #[] }).get? b = some o := fun b o y => Heap.get?_push_of_some _ y
  have k2 := up _ (Obj.mapSeq (fun _ => (#[] : Array Value))) k1
  apply wpAny_bind
  refine wpAny_typeOf (tyE k2) ?_
  have h1 : Builtin.List.listSameRef (.ref s.heap.objs.size) (.ref e) = false := by simp [Builtin.List.listSameRef, hSe]
  have h2 : (Value.type "enumerate" == Value.type "list") = false := by decide
  have h3 : (Value.type "enumerate" == Value.type "tuple") = false := by decide
  simp only [h1, h2, h3, Bool.or_false, Bool.false_eq_true, if_false]
  apply wpAny_bind
  refine wpAny_pyIter_enum (s := { s with heap := _ }) (k2 _ _ he) ?_
  apply wpAny_bind
  apply wpAny_holding
  unfold Builtin.List.listLengthHint
  apply wpAny_bind
  refine wpAny_specialOf (tyE k2) enum_no_len ?_
  show wpAny _ A.in1.in1 (specialOf (Value.ref e) (Str.ofString "__length_hint__") >>= _) _ _ _
  apply wpAny_bind
  refine wpAny_specialOf (tyE k2) enum_no_hint ?_
  apply wpAny_pure
  show wpAny _ A.in1.in1 (rule "list.extend.makes-room" >>= fun _ => Builtin.List.listTouch (.ref s.heap.objs.size) >>= fun _ =>
    again (.builtin "list.extend.loop" ⟨[.ref s.heap.objs.size, .ref e, .none], []⟩)) _ _ _
  apply wpAny_bind
  apply wpAny_rule
  apply wpAny_bind
  show wpAny _ A.in1.in1 (updateSeq s.heap.objs.size (·.push .none) >>= fun _ => updateSeq s.heap.objs.size (·.pop)) _ _ _
  refine wpAny_bind (wpAny_updateSeq hS2 rfl ?_)
  have hS3 := Heap.get?_update_self (Obj.mapSeq (·.push Value.none)) hS2 rfl
  refine wpAny_updateSeq (hz := by seq_fits) hS3 rfl ?_
  have hS4 := Heap.get?_update_self (Obj.mapSeq (·.pop)) hS3 rfl
  have k4 := up _ (Obj.mapSeq (·.pop)) (up _ (Obj.mapSeq (·.push Value.none)) k2)
  refine wpAny_pure ⟨plainId_quiet PySem.F.plain_extend_loop _, ?_⟩
  refine enum_loop (s0 := s) (A := A.in1) (S := s.heap.objs.size) hh hne hSe (Nat.ne_of_gt lti) (Nat.ne_of_gt ltl) hle hli (s.heap.objs.size + 1) hz
    (fun g tk acc c q1 q2 q3 q4 => ⟨rfl, hQ g tk acc c q1 q2 q3 fun b o n1 n2 y => q4 b o n1 n2 (Nat.ne_of_lt (Heap.lt_size y)) y⟩) items.size 0 _ s.toks #[] _ (Nat.sub_zero _) (Nat.zero_le _) rfl hS4 ⟨?_, .inl ⟨rfl, k4 _ _ he⟩⟩ ?_ ?_
    (Nat.lt_succ_of_lt lte) (Nat.lt_succ_of_lt lti) (Nat.lt_succ_self _) (fun j v hv => by simp at hv) (fun b o _ _ _ y => k4 b o y)
  · obtain ⟨o, ho, r⟩ := hit
    exact ⟨o, k4 _ _ ho, r⟩
  · obtain ⟨o, ho, r⟩ := hl
    exact ⟨o, k4 _ _ ho, r⟩
  · exact Heap.lt_size hS4

/-- list(enumerate(e)) -/
def tLE (K : PySem.W.Frag) (te : TE) : TE := fun σ H Q => te σ H fun v H1 => ∃ a xs, v = .ref a ∧ SqL K H1 a xs ∧
  ∀ (H2 : Hp) (p : Addr) (ts : List Addr), Same H1 H2 → H1 p = none → H2 p = some (.lst (ts.map V.ref)) → ts.length = xs.length →
    (∀ (i : Nat) (x : V), xs[i]? = some x → ∃ T, ts[i]? = some T ∧ H1 T = none ∧ H2 T = some (.tup [.int i, x])) → Q (.ref p) H2
section
variable {X : Cx} {e : Expr} {te : TE} {p1 p2 q1 q2 : Pos}
theorem pe_le (hc : X.calm = true) (hg : Gl X "list") (hm : X.mg "list" = none) (hg2 : Gl X "enumerate") (hm2 : X.mg "enumerate" = none) (he : PE X e te)
    (hs : starEach [e] X.env = [(false, eval e X.env)] := by rfl)
    (hs2 : starEach [.Call (.Name "enumerate" q1) [e] [] q2] X.env = [(false, eval (.Call (.Name "enumerate" q1) [e] [] q2) X.env)] := by rfl) :
    PE X (.Call (.Name "list" p1) [.Call (.Name "enumerate" q1) [e] [] q2] [] p2) (tLE X.K te) := by
  refine ⟨fun pins s σ H Q I h => ?_⟩
  refine wpAny_Call_Name_kw (ld_blt I hg hm (show bootBuiltins "list" = some (.type "list") by decide +kernel) ?_)
  refine PyProof.Rows.callWith_type1 ?_ hs2 rfl
  rw [hs2]
  show wpAny _ _ (spliced [(false, eval (.Call (.Name "enumerate" q1) [e] [] q2) X.env)]) _ _ s
  refine Calls.spliced_cons ?_
  refine wpAny_Call_Name_kw (ld_blt I hg2 hm2 (show bootBuiltins "enumerate" = some (.type "enumerate") by decide +kernel) ?_)
  refine PyProof.Rows.callWith_type1 ?_ hs rfl
  rw [hs]
  show wpAny _ _ (spliced [(false, eval e X.env)]) _ _ s
  refine Calls.spliced_cons (thn (he.run pins s σ H _ I h) fun u s1 ⟨v, H1, I1, r1, a, xs, ev, hq, q⟩ => ?_)
  subst ev
  cases r1
  obtain ⟨its, rv, pl, hz⟩ := I1.list hq
  have lits : its.toArray.size = xs.length := by rw [List.size_toArray]; exact rv.length.symm
  have lta : a < s1.heap.objs.size := by obtain ⟨o, ho, _⟩ := pl.isList; exact Heap.lt_size ho
  refine Calls.spliced_nil ?_
  refine call_enumerate_list pl.isList fun g hen hit hsz hk => ?_
  refine Calls.spliced_nil ?_
  have I2 : Inv X pins σ H1 { s1 with heap := g } := I1.kept (t' := s1.toks) hk
  have hl2 : g.IsList a its.toArray := by
    obtain ⟨o, ho, r⟩ := pl.isList
    exact ⟨o, hk _ _ ho, r⟩
  refine list_of_enum (s := { s1 with heap := g }) (I1.ok.hd hc) hen hit hl2 (Nat.succ_ne_self _) (Nat.ne_of_lt (Nat.lt_succ_of_lt lta)) (Nat.ne_of_lt lta) (by rw [lits]; exact hz) fun g2 tk acc c hS ha hp hk2 => ?_
  -- what is new
  have szg : g.objs.size = s1.heap.objs.size + 2 := hsz
  have kall : ∀ b o, s1.heap.get? b = some o → g2.get? b = some o := fun b o y => by
    have lt := Heap.lt_size y
    exact hk2 b o (Nat.ne_of_lt (Nat.lt_succ_of_lt lt)) (Nat.ne_of_lt lt) (hk b o y)
  have sym : ∀ (i : Nat) (x : V), xs[i]? = some x → ∃ (T : Addr) (tk' : Nat) (u : Value), acc[i]? = some (.ref T) ∧ g.objs.size + 1 ≤ T ∧ RelV x u ∧ g2.get? T = some { cls := .type "tuple", data := .seq #[.int (i : Nat) tk', u] } := fun i x hx => by
    have hi : i < acc.size := by
      rw [ha, lits]
      exact (List.getElem?_eq_some_iff.mp hx).1
    obtain ⟨T, tk', u, e1, e2, e3, e4⟩ := hp i _ (Array.getElem?_eq_getElem hi)
    obtain ⟨u', hu', ru⟩ := rv.get hx
    have e3' : its[i]? = some u := by simpa using e3
    rw [hu'] at e3'
    cases e3'
    exact ⟨T, tk', u, by rw [Array.getElem?_eq_getElem hi, e1], e2, ru, e4⟩
  let adr : Value → Addr := fun v => match v with | .ref b => b | _ => 0
  have hts : ∀ v ∈ acc.toList, v = .ref (adr v) := fun v hv => by
    obtain ⟨j, hj⟩ := List.getElem?_of_mem hv
    obtain ⟨T, _, _, e1, _⟩ := hp j v (by simpa using hj)
    rw [e1]
  have tlen : (acc.toList.map adr).length = xs.length := by rw [List.length_map, Array.length_toList, ha, lits]
  have tget : ∀ (i : Nat) (x : V), xs[i]? = some x → ∃ (T : Addr) (tk' : Nat) (u : Value), (acc.toList.map adr)[i]? = some T ∧ g.objs.size + 1 ≤ T ∧ RelV x u ∧ g2.get? T = some { cls := .type "tuple", data := .seq #[.int (i : Nat) tk', u] } := fun i x hx => by
    obtain ⟨T, tk', u, e1, e2, e3, e4⟩ := sym i x hx
    refine ⟨T, tk', u, ?_, e2, e3, e4⟩
    rw [List.getElem?_map, Array.getElem?_toList, e1]
    rfl
  -- the new abstract heap
  let mk : Addr → Option HO := fun b => if b = g.objs.size then some (.lst ((acc.toList.map adr).map V.ref)) else
    match (List.range xs.length).find? (fun i => (acc.toList.map adr)[i]? == some b) with
    | some i => (xs[i]?).map fun x => .tup [.int (i : Nat), x]
    | none => none
  let H2 : Hp := fun b => if b < g.objs.size then H1 b else mk b
  have at_T : ∀ (i : Nat) (x : V) (T : Addr), xs[i]? = some x → (acc.toList.map adr)[i]? = some T → H2 T = some (.tup [.int (i : Nat), x]) := fun i x T hx hT => by
    obtain ⟨T', tk', u, f1, f2, _, f4⟩ := tget i x hx
    rw [hT] at f1
    cases f1
    show (if T < g.objs.size then H1 T else if T = g.objs.size then _ else _) = _
    rw [if_neg (Nat.not_lt.mpr (Nat.le_of_succ_le f2)), if_neg (Nat.ne_of_gt f2)]
    cases hf : (List.range xs.length).find? (fun i => (acc.toList.map adr)[i]? == some T) with
    | none =>
      have z := List.find?_eq_none.mp hf i (List.mem_range.mpr (List.getElem?_eq_some_iff.mp hx).1)
      rw [hT] at z
      simp at z
    | some j =>
      have hj := List.find?_some hf
      have hj2 := List.mem_range.mp (List.mem_of_find?_eq_some hf)
      have hj3 : (acc.toList.map adr)[j]? = some T := by simpa using hj
      obtain ⟨T2, tk2, u2, g1, _, g3, g4⟩ := tget j xs[j] (List.getElem?_eq_getElem hj2)
      rw [hj3] at g1
      cases g1
      rw [f4] at g4
      have e0 : (#[Value.int (i : Nat) tk', u] : Array Value) = #[.int (j : Nat) tk2, u2] := by
        injection (Option.some.inj g4) with _ _ d
        injection d
      have e5 : i = j := by
        have z := congrArg (fun a : Array Value => a[0]?) e0
        simp at z
        omega
      subst e5
      show Option.map (fun x => HO.tup [V.int (i : Nat), x]) xs[i]? = _
      rw [hx]
      rfl
  have I3 : Inv X pins σ H2 { s1 with heap := g2, toks := tk } := by
    have I3 := laid_many (H2 := H2) (g := g2) (tk := tk) I1 kall (fun b hb => if_pos (show b < g.objs.size by omega)) (fun b o hb e => ?_)
    · exact I3
    · by_cases h1 : b < g.objs.size
      · have e' : H1 b = some o := (if_pos h1).symm.trans e
        rw [I1.hok.fresh hb] at e'
        cases e'
      · have e' : mk b = some o := (if_neg h1).symm.trans e
        by_cases h2 : b = g.objs.size
        · have e2 : some (HO.lst ((acc.toList.map adr).map V.ref)) = some o := (if_pos h2).symm.trans e'
          cases e2
          subst h2
          refine ⟨by rw [List.length_map, tlen]; exact hz, acc.toList, c, ?_, by rw [Array.toArray_toList]; exact hS⟩
          have vals : ∀ l : List Value, (∀ v ∈ l, v = .ref (adr v)) → Vals ((l.map adr).map V.ref) l := fun l => by
            induction l with
            | nil => intro _; exact .nil
            | cons v r ih => intro hv; exact .cons (hv v List.mem_cons_self) (ih fun u hu => hv u (List.mem_cons_of_mem _ hu))
          exact vals _ hts
        · have e2 : (match (List.range xs.length).find? (fun i => (acc.toList.map adr)[i]? == some b) with
              | some i => (xs[i]?).map fun x => HO.tup [.int (i : Nat), x]
              | none => none) = some o := (if_neg h2).symm.trans e'
          cases hf : (List.range xs.length).find? (fun i => (acc.toList.map adr)[i]? == some b) with
          | none =>
            rw [hf] at e2
            cases e2
          | some j =>
            rw [hf] at e2
            have hj := List.find?_some hf
            have hj2 := List.mem_range.mp (List.mem_of_find?_eq_some hf)
            have hj3 : (acc.toList.map adr)[j]? = some b := by simpa using hj
            have e3 : some (HO.tup [.int (j : Nat), xs[j]]) = some o := by
              rw [← e2]
              show _ = Option.map (fun x => HO.tup [V.int (j : Nat), x]) xs[j]?
              rw [List.getElem?_eq_getElem hj2]
              rfl
            cases e3
            obtain ⟨T2, tk2, u2, g1, _, g3, g4⟩ := tget j xs[j] (List.getElem?_eq_getElem hj2)
            rw [hj3] at g1
            cases g1
            exact ⟨by show 2 ≤ sizeLine; decide, [.int (j : Nat) tk2, u2], .cons ⟨_, rfl⟩ (.cons g3 .nil), ⟨_, g4, rfl, _, rfl⟩⟩
  have same : Same H1 H2 := fun b o y => by
    show (if b < g.objs.size then H1 b else mk b) = some o
    rw [if_pos (show b < g.objs.size from Nat.lt_of_lt_of_le (I1.hok.lt y) (by rw [szg]; exact Nat.le_add_right _ _))]
    exact y
  have Snone : H1 g.objs.size = none := I1.hok.fresh (by omega)
  refine ⟨.ref g.objs.size, H2, I3, rfl, q H2 g.objs.size (acc.toList.map adr) same Snone ?_ tlen fun i x hx => ?_⟩
  · show (if g.objs.size < g.objs.size then H1 _ else mk _) = _
    rw [if_neg (Nat.lt_irrefl _)]
    exact if_pos rfl
  · obtain ⟨T, tk', u, e1, e2, e3, e4⟩ := tget i x hx
    exact ⟨T, e1, I1.hok.fresh (by omega), at_T i x T hx e1⟩
end
end RS
set_option Elab.async false
set_option maxRecDepth 100000
set_option maxHeartbeats 4000000
namespace RS
open PySem PySem.Spec PyProof.Rows L2 GX
/-- a for of n turns by a word of its own: the next turn -/
def ForNx (n : Nat) (Pv : Nat → L2.St → Hp → Prop) (i : Nat) (σ : L2.St) (H : Hp) : Prop := Pv (i + 1) σ H
theorem for_by {J : It} {g : TG} {tb : TS} {D : Ends} {σ : L2.St} {H : Hp} (n : Nat) (Pv : Nat → L2.St → Hp → Prop) (h0 : Pv 0 σ H)
    (turn : ∀ i σ H, i < n → Pv i σ H → J.go i H ∧ ∀ x H', J.yld i H x H' → g x σ H' fun σ2 H2 => tb { D with nx := Pv (i + 1), ct := Pv (i + 1), bk := D.nx } σ2 H2)
    (stop : ∀ σ H, Pv n σ H → J.stop n H ∧ D.nx σ H) :
    ∃ W : Nat → Nat → L2.St → Hp → Prop, (∃ m, W 0 m σ H) ∧ ∀ i m σ H, W i m σ H →
      (J.stop i H ∧ D.nx σ H) ∨ (J.go i H ∧ ∃ N : L2.St → Hp → Prop, (∀ σ' H', N σ' H' → ∃ m', m' < m ∧ W (i + 1) m' σ' H') ∧ ∀ x H', J.yld i H x H' → g x σ H' fun σ2 H2 => tb { D with nx := N, ct := N, bk := D.nx } σ2 H2) := by
  refine ⟨fun i m σ H => m = n - i ∧ i ≤ n ∧ Pv i σ H, ⟨n, rfl, Nat.zero_le _, h0⟩, ?_⟩
  rintro i m σ H ⟨rfl, hi, p⟩
  by_cases hlt : i < n
  · obtain ⟨go, nx⟩ := turn i σ H hlt p
    exact .inr ⟨go, Pv (i + 1), fun σ' H' p' => ⟨n - (i + 1), by omega, rfl, hlt, p'⟩, nx⟩
  · have e : i = n := by omega
    subst e
    exact .inl (stop σ H p)
theorem lc_by {J : It} {g : TG} {tt : TT} {te : TE} {vs : List Nat} {σ : L2.St} {H1 : Hp} {D : Addr} {Qd : Hp → Prop} (n : Nat) (Pv : Nat → Hp → Prop) (h0 : Pv 0 (upd H1 D (.lst [])))
    (turn : ∀ i H, i < n → Pv i H → J.go i H ∧ ∀ x H', J.yld i H x H' → g x (wipe σ vs) H' fun σ2 H2 => wipe σ2 vs = wipe σ vs ∧ tt σ2 H2 fun b H3 =>
      if b = true then te σ2 H3 fun y H4 => ∃ acc, H4 D = some (.lst acc) ∧ acc.length < sizeLine ∧ Pv (i + 1) (upd H4 D (.lst (acc ++ [y]))) else Pv (i + 1) H3)
    (stop : ∀ H, Pv n H → J.stop n H ∧ Qd H) :
    ∃ W : Nat → Nat → Hp → Prop, (∃ m, W 0 m (upd H1 D (.lst []))) ∧ ∀ i m H, W i m H →
      (J.stop i H ∧ Qd H) ∨ (J.go i H ∧ ∃ Nx : Hp → Prop, (∀ H', Nx H' → ∃ m', m' < m ∧ W (i + 1) m' H') ∧ ∀ x H', J.yld i H x H' → g x (wipe σ vs) H' fun σ2 H2 => wipe σ2 vs = wipe σ vs ∧ tt σ2 H2 fun b H3 =>
        if b = true then te σ2 H3 fun y H4 => ∃ acc, H4 D = some (.lst acc) ∧ acc.length < sizeLine ∧ Nx (upd H4 D (.lst (acc ++ [y]))) else Nx H3) := by
  refine ⟨fun i m H => m = n - i ∧ i ≤ n ∧ Pv i H, ⟨n, rfl, Nat.zero_le _, h0⟩, ?_⟩
  rintro i m H ⟨rfl, hi, p⟩
  by_cases hlt : i < n
  · obtain ⟨go, nx⟩ := turn i H hlt p
    exact .inr ⟨go, Pv (i + 1), fun H' p' => ⟨n - (i + 1), by omega, rfl, hlt, p'⟩, nx⟩
  · have e : i = n := by omega
    subst e
    exact .inl (stop H p)

/-! ### numbered things -/
def enumP {α : Type} : Nat → List α → List (Nat × α)
  | _, [] => []
  | k, x :: xs => (k, x) :: enumP (k + 1) xs
theorem enumP_get {α : Type} : ∀ (l : List α) (k i : Nat), (enumP k l)[i]? = l[i]?.map fun x => (k + i, x)
  | [], k, i => by simp [enumP]
  | x :: xs, k, 0 => by simp [enumP]
  | x :: xs, k, i + 1 => by
    show (enumP (k + 1) xs)[i]? = _
    rw [enumP_get xs (k + 1) i]
    have e : k + 1 + i = k + (i + 1) := by omega
    rw [e]
    simp
theorem enumP_length {α : Type} : ∀ (l : List α) (k : Nat), (enumP k l).length = l.length
  | [], _ => rfl
  | _ :: xs, k => congrArg (· + 1) (enumP_length xs (k + 1))
/-- a (number, row) -/
def pairD (q : Nat × List PyData) : PyData := .tuple [.int q.1, .tuple q.2]
def pairsD (l : List (Nat × List PyData)) : PyData := .list (l.map pairD)

/-- data by places -/
theorem dpAll_by {K : PySem.W.Frag} {H : Hp} : ∀ {vs : List V} {ds : List PyData}, vs.length = ds.length → (∀ (i : Nat) (v : V) (d : PyData), vs[i]? = some v → ds[i]? = some d → Dp K H v d) → DpAll K H vs ds
  | [], [], _, _ => .nil
  | [], _ :: _, h, _ => by simp at h
  | _ :: _, [], h, _ => by simp at h
  | v :: vs, d :: ds, h, k => .cons (k 0 v d rfl rfl) (dpAll_by (by simpa using h) fun i v d e1 e2 => k (i + 1) v d (by simpa using e1) (by simpa using e2))
end RS
set_option Elab.async false
set_option maxRecDepth 100000
set_option maxHeartbeats 4000000
namespace RS
open PySem PySem.Spec PyProof.Rows L2 GX
/-! ### data without lists -/
mutual
def noL : PyData → Bool
  | .list _ => false
  | .dict _ => false
  | .tuple ds => noLs ds
  | _ => true
def noLs : List PyData → Bool
  | [] => true
  | d :: ds => noL d && noLs ds
end
theorem noLs_iff : ∀ {ds : List PyData}, noLs ds = true ↔ ∀ d ∈ ds, noL d = true
  | [] => by simp [noLs]
  | d :: ds => by
    unfold noLs
    rw [Bool.and_eq_true, noLs_iff]
    simp
theorem sqT_upd {K : PySem.W.Frag} {H : Hp} {a b : Addr} {xs u ys : List V} (hH : H a = some (.lst xs)) (h : SqT K H b ys) : SqT K (upd H a (.lst u)) b ys := by
  rcases h with (h | ⟨o, h⟩) | h
  · refine .inl (.inl ?_)
    rw [upd_ne (fun z => by rw [z, hH] at h; cases h)]
    exact h
  · refine .inl (.inr ⟨o, ?_⟩)
    rw [upd_ne (fun z => by rw [z, hH] at h; cases h)]
    exact h
  · exact .inr h
mutual
theorem dp_upd {K : PySem.W.Frag} {H : Hp} {a : Addr} {xs u : List V} (hH : H a = some (.lst xs)) : ∀ (d : PyData) {v : V}, noL d = true → Dp K H v d → Dp K (upd H a (.lst u)) v d
  | .none, _, _, .non => .non
  | .bool b, _, _, .bl _ => .bl b
  | .int i, _, _, .int _ => .int i
  | .str x, _, _, .str _ => .str x
  | .list ds, _, h, _ => by cases h
  | .tuple ds, _, h, .tup q hs => .tup (sqT_upd hH q) (dpAll_upd hH ds h hs)
  | .dict _, _, h, _ => by cases h
theorem dpAll_upd {K : PySem.W.Frag} {H : Hp} {a : Addr} {xs u : List V} (hH : H a = some (.lst xs)) : ∀ (ds : List PyData) {vs : List V}, noLs ds = true → DpAll K H vs ds → DpAll K (upd H a (.lst u)) vs ds
  | [], _, _, .nil => .nil
  | d :: ds, _, h, .cons q hs => by
    unfold noLs at h
    rw [Bool.and_eq_true] at h
    exact .cons (dp_upd hH d h.1 q) (dpAll_upd hH ds h.2 hs)
end
/-- a list is changed that is none of those ahead -/
theorem dp_upd' {K : PySem.W.Frag} {H H' : Hp} {a : Addr} {xs u : List V} (s : Same H H') (hn : H a = none) {d : PyData} {v : V} (q : Dp K H v d) : Dp K (upd H' a (.lst u)) v d :=
  dp_same (fun b o e => by rw [upd_ne (ne_of_none e hn)]; exact s b o e) d q

theorem depth0 : ∀ {ds : List PyData}, (∀ d ∈ ds, d.depth = 0) → PyData.depthAll ds = 0
  | [], _ => by simp [PyData.depthAll]
  | d :: ds, h => by
    simp only [PyData.depthAll]
    rw [h d List.mem_cons_self, depth0 fun e he => h e (List.mem_cons_of_mem _ he)]
    rfl
theorem upd_no {H : Hp} {a b : Addr} {o : HO} (e : upd H a o b = none) : H b = none := by
  by_cases z : b = a
  · rw [z, upd_same] at e
    cases e
  · rw [upd_ne z] at e
    exact e
theorem cond_by {tc : TT} {σ : L2.St} {H : Hp} {Q : Bool → Hp → Prop} (b : Bool) (N : Hp → Prop) (h1 : ∀ Q' : Bool → Hp → Prop, (∀ H2, N H2 → Q' b H2) → tc σ H Q') (h2 : ∀ H2, N H2 → Q b H2) : tc σ H Q := h1 Q h2
theorem iteT' {b : Bool} {A B : Prop} (e : b = true) (h : A) : if b = true then A else B := by
  rw [if_pos e]
  exact h
theorem iteF' {b : Bool} {A B : Prop} (e : b = false) (h : B) : if b = true then A else B := by
  rw [if_neg (by rw [e]; decide)]
  exact h
end RS
set_option Elab.async false
set_option maxRecDepth 100000
set_option maxHeartbeats 4000000
namespace RS
open PySem PySem.Spec PyProof.Rows L2 GX
/-! ### lengths and ways -/
def lensD (ls : List Nat) : PyData := .list (ls.map fun n => .int (n : Nat))
structure OkLens (ls : List Nat) : Prop where
  one : 1 ≤ ls.length
  most : ls.length ≤ 40
  each : ∀ n ∈ ls, 1 ≤ n ∧ n ≤ 1000000
section
variable {P : Program} {w : World} {K : PySem.W.Frag} {mg : Str → Option Value} {base : Heap}
theorem scCheckLengths : FnScope ["lengths", "length"] ["lengths"] (defScope s_check_lengths) := ⟨rfl, rfl, rfl, by decide +kernel, rfl, by decide +kernel, by decide +kernel⟩
def spCheckLengths (K : PySem.W.Frag) (p : Addr) : Sp := fun vs H Q _ => ∃ (vl : V) (ls : List Nat), vs = [vl] ∧ Dp K H vl (lensD ls) ∧ OkLens ls ∧ Tab H p ∧ ∀ H', Same H H' → Q .non H'
theorem check_lengths_ok {c p : Addr} (D : DefAt K mg "check_lengths" s_check_lengths c) (T : Txt K mg) (TB : GxR.TabB base mg c p) (cN : Cal P w K mg base CX0 1 "is_number" ["value"] (spNum K)) : Cal P w K mg base CX0 3 "check_lengths" ["lengths"] (spCheckLengths K p) := by
  have sc := scCheckLengths
  obtain ⟨tA, hA⟩ := T.lengths
  obtain ⟨tB, hB⟩ := T.length
  refine def_ok0 D sc (fun vs H Q E h => ?_) (fun _ _ _ _ _ _ us hl => match us, hl with | [_], _ => rfl) (fun f A outer s H vs Q E hr h => ?_)
  · obtain ⟨vl, ls, rfl, _⟩ := h
    rfl
  · obtain ⟨vl, ls, rfl, hl, ok, ht, k⟩ := h
    refine ⟨_, (pss_cons (ps_if ((pw_or (pt_not (pt_val (pe_callB call_isiD (by rfl) T.isinstance (by decide +kernel) (pa_cons (pv 0) (pa_cons (pe_bltn (v := V.ty "list") (u := Value.type "list") (by rfl) T.list_ (by decide +kernel) rfl) pa_nil))))) (pw_or1 (pt_not (pt_chain op_le op_le pe_int (pe_callB call_lenD (by rfl) T.len PySem.boot_len (pa_cons (pv 0) pa_nil)) (pe_glob (v := V.int 40) (by rfl) hA ⟨_, rfl⟩))))).pt) pss_never pss_nil) (pss_one (ps_if (pt_not (pt_val (pe_all (own := [("length", 1)])  hr rfl T.all TB rfl rfl sc.nd (blkOk_by (N := ["lengths", "length"]) (sc := defScope s_check_lengths) (own := [("length", 1)]) (by decide +kernel)) (by decide +kernel) rfl rfl (pi_list (pv 0)) (fun _ _ _ _ _ _ _ => (pg_name (i := 1) sc.nd rfl (Or.inl rfl))) (fun _ _ _ _ _ _ _ hr => pe_and (pe_c cN hr (by decide) (by rfl) pass0 (pa_cons (pv 1) pa_nil)) (pe_one (pe_chain op_le op_le pe_int (pv 1) (pe_glob (v := V.int 1000000) (by rfl) hB ⟨_, rfl⟩))))))) pss_never pss_nil))), ?_⟩
    refine ⟨_, rfl, _, _, _, rfl, by simp, hl, _, rfl, ?_⟩
    refine iteF ⟨_, rfl, _, _, (ls.map fun n => PyData.int (n : Nat)).length, rfl, hl, rfl, _, _, rfl, rfl, _, rfl, ?_⟩
    rw [List.length_map]
    have o1 := ok.one
    have o2 := ok.most
    have e1 : decide ((1 : Int) ≤ (ls.length : Nat)) = true := decide_eq_true (by omega)
    have e2 : decide (((ls.length : Nat) : Int) ≤ 40) = true := decide_eq_true (by omega)
    rw [e1]
    refine iteT ⟨_, _, rfl, rfl, _, rfl, ?_⟩
    rw [e2]
    refine iteF ?_
    cases hl with
    | @lst a xs _ hS hI =>
      refine ⟨_, rfl, a, rfl, ⟨xs, hS⟩, ht, ?_⟩
      have lx : xs.length = ls.length := by rw [dpLen hI, List.length_map]
      refine all_by xs.length (fun i H' => Same H H') (Same.refl H) (fun i H' hi sm => ?_) (fun H' sm => ?_)
      · refine ⟨⟨xs, xs[i], sm.seq hS, List.getElem?_eq_getElem hi⟩, fun y H2 ⟨e, hy⟩ => ?_⟩
        have ey := hy xs (sm.seq hS)
        obtain ⟨d, ed, hd⟩ := dpGet hI ey
        obtain ⟨n, en, rfl⟩ : ∃ n, ls[i]? = some n ∧ d = PyData.int (n : Nat) := by
          rw [List.getElem?_map] at ed
          cases q : ls[i]? with
          | none => rw [q] at ed; cases ed
          | some b => rw [q] at ed; exact ⟨b, rfl, (Option.some.inj ed).symm⟩
        cases hd
        obtain ⟨m1, m2⟩ := ok.each n (List.mem_of_getElem? en)
        subst e
        refine ⟨rfl, _, rfl, _, _, rfl, .int (n : Int), _, rfl, ?_⟩
        have hn : isNum (.int (n : Int)) = true := by simp [isNum, isI, isT, tyN]
        rw [hn]
        refine iteT ⟨_, rfl, _, _, rfl, rfl, _, rfl, ?_⟩
        have e3 : decide ((1 : Int) ≤ (n : Nat)) = true := decide_eq_true (by omega)
        have e4 : decide (((n : Nat) : Int) ≤ 1000000) = true := decide_eq_true (by omega)
        rw [e3]
        refine iteT ⟨_, _, rfl, rfl, _, rfl, fun _ => .mk hi ?_, fun z => ?_⟩
        · exact sm
        · rw [e4] at z
          cases z
      · exact ⟨⟨xs, sm.seq hS, Nat.le_refl _⟩, _, rfl, iteF (k _ sm)⟩

theorem scCheckWays : FnScope ["ways"] ["ways"] (defScope s_check_ways) := ⟨rfl, rfl, rfl, by decide +kernel, rfl, by decide +kernel, by decide +kernel⟩
def spCheckWays : Sp := fun vs H Q _ => ∃ (n : Int), vs = [.int n] ∧ 2 ≤ n ∧ n ≤ 6 ∧ Q .non H
theorem check_ways_ok {c : Addr} (D : DefAt K mg "check_ways" s_check_ways c) (T : Txt K mg) (cN : Cal P w K mg base CX0 1 "is_number" ["value"] (spNum K)) : Cal P w K mg base CX0 2 "check_ways" ["ways"] spCheckWays := by
  have sc := scCheckWays
  obtain ⟨tA, hA⟩ := T.leastw
  obtain ⟨tB, hB⟩ := T.mostw
  refine def_ok0 D sc (fun vs H Q E h => ?_) (fun _ _ _ _ _ _ us hl => match us, hl with | [_], _ => rfl) (fun f A outer s H vs Q E hr h => ?_)
  · obtain ⟨n, rfl, _⟩ := h
    rfl
  · obtain ⟨n, rfl, h1, h2, k⟩ := h
    refine ⟨_, (pss_one (ps_if ((pw_or (pt_not (pt_val (pe_c cN hr (by decide) (by rfl) pass0 (pa_cons (pv 0) pa_nil)))) (pw_or1 (pt_not (pt_chain op_le op_le (pe_glob (v := V.int 2) (by rfl) hA ⟨_, rfl⟩) (pv 0) (pe_glob (v := V.int 6) (by rfl) hB ⟨_, rfl⟩))))).pt) pss_never pss_nil)), ?_⟩
    refine ⟨_, rfl, _, _, rfl, .int n, _, rfl, ?_⟩
    have hn : isNum (.int n) = true := by simp [isNum, isI, isT, tyN]
    rw [hn]
    refine iteF ⟨_, rfl, _, _, rfl, rfl, _, rfl, ?_⟩
    rw [decide_eq_true h1]
    refine iteT ⟨_, _, rfl, rfl, _, rfl, ?_⟩
    rw [decide_eq_true h2]
    exact iteF k

theorem scCheckMerging : FnScope ["lengths", "ways"] ["lengths", "ways"] (defScope s_check_merging) := ⟨rfl, rfl, rfl, by decide +kernel, rfl, by decide +kernel, by decide +kernel⟩
def spCheckMerging (K : PySem.W.Frag) (p : Addr) : Sp := fun vs H Q _ => ∃ (vl : V) (ls : List Nat) (n : Int), vs = [vl, .int n] ∧ Dp K H vl (lensD ls) ∧ OkLens ls ∧ 2 ≤ n ∧ n ≤ 6 ∧ Tab H p ∧ ∀ H', Same H H' → Q .non H'
theorem check_merging_ok {c p : Addr} (D : DefAt K mg "check_merging" s_check_merging c) (cL : Cal P w K mg base CX0 3 "check_lengths" ["lengths"] (spCheckLengths K p)) (cW : Cal P w K mg base CX0 2 "check_ways" ["ways"] spCheckWays) : Cal P w K mg base CX0 4 "check_merging" ["lengths", "ways"] (spCheckMerging K p) := by
  have sc := scCheckMerging
  refine def_ok0 D sc (fun vs H Q E h => ?_) (fun _ _ _ _ _ _ us hl => match us, hl with | [_, _], _ => rfl) (fun f A outer s H vs Q E hr h => ?_)
  · obtain ⟨vl, ls, n, rfl, _⟩ := h
    rfl
  · obtain ⟨vl, ls, n, rfl, hl, ok, h1, h2, ht, k⟩ := h
    refine ⟨_, (pss_cons (ps_expr (pe_c cL hr (by decide) (by rfl) pass0 (pa_cons (pv 0) pa_nil))) (pss_one (ps_expr (pe_c cW hr (by decide) (by rfl) pass0 (pa_cons (pv 1) pa_nil))))), ?_⟩
    refine ⟨_, rfl, vl, ls, rfl, hl, ok, ht, fun H' sm => ?_⟩
    exact ⟨_, rfl, n, rfl, h1, h2, k H' sm⟩
end
end RS
set_option Elab.async false
set_option maxRecDepth 100000
set_option maxHeartbeats 4000000
namespace RS
open PySem PySem.Spec PyProof.Rows L2 GX
/-! ### the drawer -/
structure BoxAt (H : Hp) (B L : Addr) : Prop where
  ne : B ≠ L
  b : ∃ s : Int, H B = some (.lst [.ref L, .int s])
  l : ∃ ms : List Int, H L = some (.lst (ms.map V.int))
/-- all but the drawer stays -/
def SameX (B L : Addr) (H H' : Hp) : Prop := ∀ b o, b ≠ B → b ≠ L → H b = some o → H' b = some o
theorem SameX.refl {B L : Addr} {H : Hp} : SameX B L H H := fun _ _ _ _ e => e
theorem SameX.trans {B L : Addr} {H H1 H2 : Hp} (a : SameX B L H H1) (b : SameX B L H1 H2) : SameX B L H H2 := fun c o h1 h2 e => b c o h1 h2 (a c o h1 h2 e)
theorem SameX.of {B L : Addr} {H H' : Hp} (s : Same H H') : SameX B L H H' := fun b o _ _ e => s b o e
theorem BoxAt.same {H H' : Hp} {B L : Addr} (h : BoxAt H B L) (s : Same H H') : BoxAt H' B L := by
  obtain ⟨n, ⟨x, hb⟩, ⟨ms, hl⟩⟩ := h
  exact ⟨n, ⟨x, s _ _ hb⟩, ⟨ms, s _ _ hl⟩⟩
section
variable {P : Program} {w : World} {K : PySem.W.Frag} {mg : Str → Option Value} {base : Heap}
theorem dpInts {K : PySem.W.Frag} {H : Hp} : ∀ {ns : List Int}, DpAll K H (ns.map V.int) (ns.map .int)
  | [] => .nil
  | n :: _ => .cons (.int n) dpInts
theorem scBegun : FnScope ["_law_script", "_law_stirred", "_law_cell"] ["_law_script"] (defScope sBegun) := ⟨rfl, rfl, rfl, by decide +kernel, rfl, by decide +kernel, by decide +kernel⟩
def spBegun (K : PySem.W.Frag) : Sp := fun vs H Q _ => ∃ (a : Addr) (ns : List Int), vs = [.ref a] ∧ SqL K H a (ns.map V.int) ∧
  ∀ (H' : Hp) (B L : Addr), Same H H' → H B = none → H L = none → BoxAt H' B L → Q (.ref B) H'
theorem begun_ok {c : Addr} (D : DefAt K mg "_law_begun" sBegun c) (T : Txt K mg) : Cal P w K mg base CX0 1 "_law_begun" ["_law_script"] (spBegun K) := by
  have sc := scBegun
  refine def_ok0 D sc (fun vs H Q E h => ?_) (fun _ _ _ _ _ _ us hl => match us, hl with | [_], _ => rfl) (fun f A outer s H vs Q E hr h => ?_)
  · obtain ⟨a, ns, rfl, _⟩ := h
    rfl
  · obtain ⟨a, ns, rfl, hS, k⟩ := h
    refine ⟨_, (pss_cons (ps_set (i := 1) sc.nd rfl (Or.inl rfl) pe_int) (pss_cons (ps_for PassesOwn.never rfl (pi_list (pv 0)) (pg_name (i := 2) sc.nd rfl (Or.inl rfl)) (pss_one (ps_set (i := 1) sc.nd rfl (Or.inl rfl) (pe_op op_mod (pe_op op_add (pe_op op_add (pe_op op_mul (pv 1) pe_int) (pe_op op_mul (pv 2) pe_int)) pe_int) pe_int)))) (pss_one (ps_ret (pe_lst (pa_cons (pe_callTy call_list_of (by rfl) T.list_ (by decide +kernel) (pa_cons (pv 0) pa_nil)) (pa_cons (pe_op op_mul (pv 1) (pe_callTy call_int1 (by rfl) T.int_ (by decide +kernel) (pa_cons (pe_cmpR op_gt (pe_callB call_lenD (by rfl) T.len PySem.boot_len (pa_cons (pv 0) pa_nil)) pe_int (nomark _)) pa_nil))) pa_nil))))))), ?_⟩
    refine ⟨_, rfl, a, rfl, ⟨_, hS⟩, for_list (K := K) (a := a) (xs := ns.map V.int) (fun i σ H' => ∃ (st : Int) (v2 : Option V), σ = [some (.ref a), some (.int st), v2] ∧ 0 ≤ st ∧ st < 2147483647 ∧ H' = H)
      ⟨0, none, rfl, by decide, by decide, rfl⟩ (fun i σ H' _ ⟨_, _, _, _, _, e⟩ => by rw [e]; exact hS) ?_ ?_⟩
    · rintro i x σ H' hx ⟨st, v2, rfl, h0, h1, rfl⟩
      obtain ⟨n, en, rfl⟩ : ∃ n, ns[i]? = some n ∧ x = V.int n := by
        rw [List.getElem?_map] at hx
        cases q : ns[i]? with
        | none => rw [q] at hx; cases hx
        | some b => rw [q] at hx; exact ⟨b, rfl, (Option.some.inj hx).symm⟩
      refine ⟨_, rfl, _, _, rfl, rfl, .inl ⟨by omega, by omega⟩, ?_⟩
      refine ⟨_, rfl, _, _, rfl, rfl, .inr ⟨by omega, by omega⟩, ?_⟩
      refine ⟨_, _, rfl, rfl, _, _, rfl, rfl, _, _, rfl, rfl, (by show (0 : Int) < 2147483647; decide), ?_⟩
      exact ⟨_, _, rfl, Int.emod_nonneg _ (by decide), Int.emod_lt_of_pos _ (by decide), rfl⟩
    · rintro σ H' ⟨st, v2, rfl, h0, h1, rfl⟩
      refine ⟨_, rfl, a, _, rfl, .inl hS, fun L hL => ?_⟩
      have s1 : Same H' (upd H' L (.lst (ns.map V.int))) := fun b o e => by
        rw [upd_ne (ne_of_none e hL)]
        exact e
      refine ⟨_, rfl, _, rfl, .ref a, _, _, rfl, .lst (s1.seq hS) dpInts, rfl, _, _, rfl, rfl, .inr ⟨_, rfl, ?_⟩⟩
      refine ⟨_, _, rfl, rfl, .inl ⟨by omega, by omega⟩, ?_⟩
      refine ⟨by show 2 ≤ sizeLine; decide, fun B hB => ?_⟩
      have n1 : L ≠ B := fun z => by rw [← z, upd_same] at hB; cases hB
      exact k _ B L (fun b o e => by rw [upd_ne (ne_of_none (s1 _ _ e) hB)]; exact s1 _ _ e) (s1.free hB) hL ⟨Ne.symm n1, ⟨_, upd_same⟩, ⟨ns, (upd_ne n1).trans upd_same⟩⟩
end
end RS
set_option Elab.async false
set_option maxRecDepth 100000
set_option maxHeartbeats 4000000
namespace RS
open PySem PySem.Spec PyProof.Rows L2 GX
section
variable {P : Program} {w : World} {K : PySem.W.Frag} {mg : Str → Option Value} {base : Heap}
theorem scTake : FnScope ["_law_box", "_law_many", "_law_number"] ["_law_box", "_law_many"] (defScope sTake) := ⟨rfl, rfl, rfl, by decide +kernel, rfl, by decide +kernel, by decide +kernel⟩
def spTake : Sp := fun vs H Q _ => ∃ (B L : Addr) (m : Int), vs = [.ref B, .int m] ∧ BoxAt H B L ∧ 1 ≤ m ∧ m ≤ 1000000000000000000 ∧
  ∀ (H' : Hp) (k : Int), SameX B L H H' → BoxAt H' B L → 0 ≤ k → k < m → Q (.int k) H'
theorem eqv_nil (ds : List PyData) : PyData.eqv (.list ds) (.list []) = ds.isEmpty := by
  cases ds <;> simp [PyData.eqv, PyData.eqvAll]
theorem shaped_ints (ms : List Int) : SeqAt.shaped (.list (ms.map .int)) = true := by
  have h1 : PyData.canLayAll0 (ms.map .int) = true := by
    induction ms with
    | nil => simp [PyData.canLayAll0]
    | cons m ms ih => simp [PyData.canLayAll0, PyData.canLay0, ih]
  have h2 : PyData.depthAll (ms.map .int) = 0 := depth0 fun d hd => by
    obtain ⟨n, _, rfl⟩ := List.mem_map.mp hd
    simp [PyData.depth]
  simp [SeqAt.shaped, PyData.canLay0, PyData.depth, h1, h2]
theorem take_ok {c : Addr} (D : DefAt K mg "_law_take" sTake c) : Cal P w K mg base CX0 1 "_law_take" ["_law_box", "_law_many"] spTake := by
  have sc := scTake
  refine def_ok0 D sc (fun vs H Q E h => ?_) (fun _ _ _ _ _ _ us hl => match us, hl with | [_, _], _ => rfl) (fun f A outer s H vs Q E hr h => ?_)
  · obtain ⟨B, L, m, rfl, _⟩ := h
    rfl
  · obtain ⟨B, L, m, rfl, ⟨nBL, ⟨st, hB⟩, ⟨ms, hL⟩⟩, hm, hm2, k⟩ := h
    have hu := hr.units
    refine ⟨_, (pss_cons (ps_if (pt_cmpR (op_eqD hu) (pe_ix ix_list (pv 0) pe_int (fun _ _ => rfl)) (pe_lst pa_nil) (nomark _)) (pss_cons (ps_asg (pe_op op_mod (pe_op op_mul (pe_ix ix_list (pv 0) pe_int (fun _ _ => rfl)) pe_int) pe_int) (pg_sub (pv 0) pe_int set_list)) (pss_one (ps_ret (pe_op op_mod (pe_op op_fdiv (pe_ix ix_list (pv 0) pe_int (fun _ _ => rfl)) pe_int) (pv 1))))) pss_nil) (pss_cons (ps_set (i := 2) sc.nd rfl (Or.inl rfl) (pe_ix ix_list (pe_ix ix_list (pv 0) pe_int (fun _ _ => rfl)) pe_int (fun _ _ => rfl))) (pss_cons (ps_asg (pe_op op_fdivW (pv 2) (pv 1)) (pg_sub (pe_ix ix_list (pv 0) pe_int (fun _ _ => rfl)) pe_int set_list)) (pss_cons (ps_if ((pw_or (pt_cmpR op_eq (pe_ix ix_list (pe_ix ix_list (pv 0) pe_int (fun _ _ => rfl)) pe_int (fun _ _ => rfl)) pe_int (nomark _)) (pw_or1 (pt_cmpR op_eq (pe_ix ix_list (pe_ix ix_list (pv 0) pe_int (fun _ _ => rfl)) pe_int (fun _ _ => rfl)) (pe_un un_neg pe_int) (nomark _)))).pt) (pss_one (ps_expr (pe_bm PySem.F.plainAttrs_list PySem.F.slot_list_pop PySem.F.type_list_pop mt_popAt (pe_ix ix_list (pv 0) pe_int (fun _ _ => rfl)) (pa_cons pe_int pa_nil)))) pss_nil) (pss_one (ps_ret (pe_op op_mod (pv 2) (pv 1)))))))), ?_⟩
    refine ⟨_, rfl, B, _, _, _, rfl, rfl, SqL.of hB, rfl, Nat.zero_le _, fun e0 he0 => ?_⟩
    have s0 : Same H (upd H e0 (.lst [])) := fun b o e => by
      rw [upd_ne (ne_of_none e he0)]
      exact e
    refine ⟨.list (ms.map .int), .list [], .lst (s0.seq (SqL.of hL)) dpInts, .lst (SqL.of upd_same) .nil, ?_, rfl, _, rfl, ?_⟩
    · exact shaped_ints ms
    rw [eqv_nil]
    have hB0 := s0 _ _ hB
    have hL0 := s0 _ _ hL
    cases ms with
    | nil =>
      refine iteT ⟨_, rfl, B, _, _, _, rfl, rfl, SqL.of hB0, atI_nat (j := 1) rfl, _, _, rfl, rfl, .inr ⟨by decide, by decide⟩, ?_⟩
      refine ⟨_, _, rfl, rfl, (by show (0 : Int) < 2147483647; decide), ?_⟩
      refine ⟨_, rfl, B, _, _, 1, rfl, rfl, hB0, rfl, ?_⟩
      refine ⟨_, rfl, B, _, _, _, rfl, rfl, SqL.of upd_same, atI_nat (j := 1) rfl, ?_⟩
      refine ⟨_, _, rfl, rfl, ⟨by decide, by decide⟩, _, rfl, _, _, rfl, rfl, (by show (0 : Int) < m; omega), ?_⟩
      refine k _ _ (fun b o h1 h2 e => ?_) ⟨nBL, ⟨_, upd_same⟩, ⟨[], (upd_ne (Ne.symm nBL)).trans hL0⟩⟩ (Int.emod_nonneg _ (by omega)) (Int.emod_lt_of_pos _ (by omega))
      rw [upd_ne h1]
      exact s0 _ _ e
    | cons m0 ms =>
      refine iteF ⟨_, rfl, B, _, _, _, rfl, rfl, SqL.of hB0, atI_nat (j := 0) rfl, L, _, _, _, rfl, rfl, SqL.of hL0, atI_nat (j := 0) rfl, ?_⟩
      refine ⟨_, rfl, _, rfl, _, _, rfl, rfl, wide_div (b := 64) (by omega) (by show m.natAbs < 18446744073709551616; omega) (by decide) (by decide), ?_⟩
      refine ⟨_, rfl, B, _, _, _, rfl, rfl, SqL.of hB0, atI_nat (j := 0) rfl, L, _, _, 0, rfl, rfl, hL0, by simp [ixN], ?_⟩
      have hB1 : upd (upd H e0 (.lst [])) L (.lst (((m0 :: ms).map V.int).set 0 (.int (m0 / m)))) B = some (.lst [.ref L, .int st]) := (upd_ne nBL).trans hB0
      refine ⟨_, rfl, B, _, _, _, rfl, rfl, SqL.of hB1, atI_nat (j := 0) rfl, L, _, _, _, rfl, rfl, SqL.of upd_same, atI_nat (j := 0) rfl, ?_⟩
      have sx : ∀ (u : HO) (b : Addr) (o : HO), b ≠ B → b ≠ L → H b = some o → upd (upd H e0 (.lst [])) L u b = some o := fun u b o h1 h2 e => by
        rw [upd_ne h2]
        exact s0 _ _ e
      have ret : ∀ (H2 : Hp), SameX B L H H2 → BoxAt H2 B L → (∃ v, (some (V.int m0) : Option V) = some v ∧ v = .int m0) → Q (.int (m0 % m)) H2 := fun H2 s2 b2 _ => k H2 _ s2 b2 (Int.emod_nonneg _ (by omega)) (Int.emod_lt_of_pos _ (by omega))
      have box1 : BoxAt (upd (upd H e0 (.lst [])) L (.lst (V.int (m0 / m) :: ms.map V.int))) B L := ⟨nBL, ⟨_, hB1⟩, ⟨m0 / m :: ms, upd_same⟩⟩
      have box2 : BoxAt (upd (upd (upd H e0 (.lst [])) L (.lst (V.int (m0 / m) :: ms.map V.int))) L (.lst (ms.map V.int))) B L := ⟨nBL, ⟨_, (upd_ne nBL).trans hB1⟩, ⟨ms, upd_same⟩⟩
      have sx2 : SameX B L H (upd (upd (upd H e0 (.lst [])) L (.lst (V.int (m0 / m) :: ms.map V.int))) L (.lst (ms.map V.int))) := fun b o h1 h2 e => by
        rw [upd_ne h2]
        exact sx _ b o h1 h2 e
      have sk : seqIndex? 0 (V.int (m0 / m) :: ms.map V.int).length = some 0 := by
        simp [seqIndex?]
      refine ⟨rfl, _, rfl, ?_⟩
      refine ite2 (fun h1 => ?_) (fun h1 => ?_)
      · refine iteT ⟨_, rfl, B, _, _, _, rfl, rfl, SqL.of hB1, atI_nat (j := 0) rfl, .inl ⟨rfl, _, SqL.of upd_same⟩, L, _, 0, 0, _, rfl, rfl, upd_same, by decide, by decide, sk, rfl, ?_⟩
        exact ⟨_, rfl, _, rfl, _, _, rfl, rfl, (by show (0 : Int) < m; omega), ret _ sx2 box2 ⟨_, rfl, rfl⟩⟩
      · refine ⟨_, rfl, B, _, _, _, rfl, rfl, SqL.of hB1, atI_nat (j := 0) rfl, L, _, _, _, rfl, rfl, SqL.of upd_same, atI_nat (j := 0) rfl, ?_⟩
        refine ⟨_, rfl, rfl, _, rfl, ?_⟩
        refine ite2 (fun h1 => ?_) (fun h1 => ?_)
        · refine ⟨_, rfl, B, _, _, _, rfl, rfl, SqL.of hB1, atI_nat (j := 0) rfl, .inl ⟨rfl, _, SqL.of upd_same⟩, L, _, 0, 0, _, rfl, rfl, upd_same, by decide, by decide, sk, rfl, ?_⟩
          exact ⟨_, rfl, _, rfl, _, _, rfl, rfl, (by show (0 : Int) < m; omega), ret _ sx2 box2 ⟨_, rfl, rfl⟩⟩
        · exact ⟨_, rfl, _, rfl, _, _, rfl, rfl, (by show (0 : Int) < m; omega), ret _ (sx _) box1 ⟨_, rfl, rfl⟩⟩
end
end RS
set_option Elab.async false
set_option maxRecDepth 100000
set_option maxHeartbeats 8000000
namespace RS
open PySem PySem.Spec PyProof.Rows L2 GX
mutual
def few : PyData → Prop
  | .list ds => ds.length ≤ 1000000 ∧ fews ds
  | .tuple ds => ds.length ≤ 1000000 ∧ fews ds
  | .dict _ => False
  | _ => True
def fews : List PyData → Prop
  | [] => True
  | d :: ds => few d ∧ fews ds
end
theorem fews_iff : ∀ {ds : List PyData}, fews ds ↔ ∀ d ∈ ds, few d
  | [] => by simp [fews]
  | d :: ds => by
    unfold fews
    rw [fews_iff]
    simp
theorem depth_mem : ∀ {ds : List PyData} {d : PyData}, d ∈ ds → d.depth ≤ PyData.depthAll ds
  | [], _, h => by cases h
  | e :: ds, d, h => by
    simp only [PyData.depthAll]
    rcases List.mem_cons.mp h with q | q
    · subst q
      omega
    · have := depth_mem q
      omega
end RS
set_option Elab.async false
set_option maxRecDepth 100000
set_option maxHeartbeats 4000000
namespace RS
open PySem PySem.Spec PyProof.Rows L2 GX
/-! ### plans -/
mutual
def leaf : PyData → List Nat
  | .int i => [i.toNat]
  | .tuple ds => leafs ds
  | _ => []
def leafs : List PyData → List Nat
  | [] => []
  | d :: ds => leaf d ++ leafs ds
end
mutual
def okP (w : Nat) : PyData → Prop
  | .int i => 0 ≤ i ∧ i < 40
  | .tuple ds => 2 ≤ ds.length ∧ ds.length ≤ w ∧ okPs w ds
  | _ => False
def okPs (w : Nat) : List PyData → Prop
  | [] => True
  | d :: ds => okP w d ∧ okPs w ds
end
mutual
def sizeP : PyData → Nat
  | .tuple ds => 1 + sizePs ds
  | _ => 1
def sizePs : List PyData → Nat
  | [] => 0
  | d :: ds => sizeP d + sizePs ds
end
theorem okPs_iff {w : Nat} : ∀ {ds : List PyData}, okPs w ds ↔ ∀ d ∈ ds, okP w d
  | [] => by simp [okPs]
  | d :: ds => by
    unfold okPs
    rw [okPs_iff]
    simp
theorem leafs_app : ∀ xs ys : List PyData, leafs (xs ++ ys) = leafs xs ++ leafs ys
  | [], _ => rfl
  | d :: xs, ys => by
    show leaf d ++ leafs (xs ++ ys) = (leaf d ++ leafs xs) ++ leafs ys
    rw [leafs_app xs ys, List.append_assoc]
theorem sizePs_app : ∀ xs ys : List PyData, sizePs (xs ++ ys) = sizePs xs + sizePs ys
  | [], _ => by simp [sizePs]
  | d :: xs, ys => by
    show sizeP d + sizePs (xs ++ ys) = (sizeP d + sizePs xs) + sizePs ys
    rw [sizePs_app xs ys]
    omega
theorem okPs_app {w : Nat} {xs ys : List PyData} : okPs w (xs ++ ys) ↔ okPs w xs ∧ okPs w ys := by
  rw [okPs_iff, okPs_iff, okPs_iff]
  constructor
  · exact fun h => ⟨fun d hd => h d (List.mem_append_left _ hd), fun d hd => h d (List.mem_append_right _ hd)⟩
  · rintro ⟨h1, h2⟩ d hd
    rcases List.mem_append.mp hd with q | q
    · exact h1 d q
    · exact h2 d q
mutual
theorem okP_noL {w : Nat} : ∀ d : PyData, okP w d → noL d = true
  | .int _, _ => rfl
  | .tuple ds, h => by
    unfold okP at h
    show noLs ds = true
    exact okPs_noL ds h.2.2
  | .none, h => by simp [okP] at h
  | .bool _, h => by simp [okP] at h
  | .str _, h => by simp [okP] at h
  | .list _, h => by simp [okP] at h
  | .dict _, h => by simp [okP] at h
theorem okPs_noL {w : Nat} : ∀ ds : List PyData, okPs w ds → noLs ds = true
  | [], _ => rfl
  | d :: ds, h => by
    unfold okPs at h
    unfold noLs
    rw [okP_noL d h.1, okPs_noL ds h.2]
    rfl
end
mutual
/-- as many runs as deep, and one more -/
theorem leaf_depth {w : Nat} : ∀ d : PyData, okP w d → d.depth + 1 ≤ (leaf d).length
  | .int _, _ => by simp [leaf, PyData.depth]
  | .tuple ds, h => by
    unfold okP at h
    have := leafs_depth ds h.2.2
    unfold leaf
    simp only [PyData.depth]
    omega
  | .none, h => by simp [okP] at h
  | .bool _, h => by simp [okP] at h
  | .str _, h => by simp [okP] at h
  | .list _, h => by simp [okP] at h
  | .dict _, h => by simp [okP] at h
theorem leafs_depth {w : Nat} : ∀ ds : List PyData, okPs w ds → PyData.depthAll ds + ds.length ≤ (leafs ds).length
  | [], _ => by simp [leafs, PyData.depthAll]
  | d :: ds, h => by
    unfold okPs at h
    have h1 := leaf_depth d h.1
    have h2 := leafs_depth ds h.2
    unfold leafs
    simp only [PyData.depthAll, List.length_append, List.length_cons]
    omega
end
mutual
theorem okP_few {w : Nat} (hw : w ≤ 1000) : ∀ d : PyData, okP w d → few d
  | .int _, _ => by simp [few]
  | .tuple ds, h => by
    unfold okP at h
    unfold few
    exact ⟨by omega, okPs_few hw ds h.2.2⟩
  | .none, h => by simp [okP] at h
  | .bool _, h => by simp [okP] at h
  | .str _, h => by simp [okP] at h
  | .list _, h => by simp [okP] at h
  | .dict _, h => by simp [okP] at h
theorem okPs_few {w : Nat} (hw : w ≤ 1000) : ∀ ds : List PyData, okPs w ds → fews ds
  | [], _ => by simp [fews]
  | d :: ds, h => by
    unfold okPs at h
    unfold fews
    exact ⟨okP_few hw d h.1, okPs_few hw ds h.2⟩
end
theorem okP_cases {w : Nat} {d : PyData} (h : okP w d) : (∃ n : Nat, d = .int (n : Nat) ∧ n < 40) ∨ ∃ ds, d = .tuple ds ∧ 2 ≤ ds.length ∧ ds.length ≤ w ∧ okPs w ds := by
  cases d with
  | int i =>
    unfold okP at h
    exact .inl ⟨i.toNat, by rw [Int.toNat_of_nonneg h.1], by omega⟩
  | tuple ds => unfold okP at h; exact .inr ⟨ds, rfl, h⟩
  | _ => simp [okP] at h
/-- all runs once -/
structure OkPlan (n w : Nat) (d : PyData) : Prop where
  ok : okP w d
  all : (leaf d).Perm (List.range n)
theorem OkPlan.depth {n w : Nat} {d : PyData} (h : OkPlan n w d) : d.depth + 1 ≤ n := by
  have := leaf_depth d h.ok
  rw [h.all.length_eq, List.length_range] at this
  exact this
end RS
set_option Elab.async false
set_option maxRecDepth 100000
set_option maxHeartbeats 4000000
namespace GX
open PySem PySem.Spec PyProof.Rows L2
/-! ### xs.extend(t), t any tuple -/
theorem ext_tup (l b : Addr) (xs ys : Array Value) (n m : Nat) (dd : Option Addr) (sl : Array (Option Value)) (h0 : ¬(!xs.isEmpty && Builtin.List.listTooLong (xs.size + ys.size)) = true) (h1 : xs.size ≤ sizeLine) (h2 : xs.size + ys.size ≤ sizeLine + 1) :
    Meets (Builtin.«list.extend» ⟨[.ref l, .ref b], []⟩) (fun _ R s => s.heap.get? l = some ⟨.type "list", none, .seq xs n, #[]⟩ ∧ s.heap.get? b = some ⟨.type "tuple", dd, .seq ys m, sl⟩ ∧ R (.ok (.ret .none)) { s with heap := s.heap.update l (Obj.mapSeq fun x => x ++ ys), toks := s.toks }) := .of_wp fun prog w A R s h => by
    obtain ⟨hp, g, d, tk, os⟩ := s
    obtain ⟨hl, hb, h⟩ := h
    have g1 := PySem.AutoSeq1.idx_int
    have g2 := PySem.AutoSeq1.sub_tuple_tuple
    have g3 := PySem.AutoSeq1.sub_list_list
    have g4 := PySem.AutoSeq1.sub_tuple_list
    have g5 := PySem.AutoSeq1.sub_list_tuple
    have z : (xs ++ ys).size ≤ sizeLine + 1 := (Array.size_append (xs := xs) (ys := ys)).symm ▸ h2
    wp_walk using (wpAny_updateSeq hl rfl (hz := h1) (_hz' := z)), PySem.AutoSeq1.wpAny_loadPart' hl, PySem.AutoSeq1.wpAny_loadPart' hb
    exact ⟨_, rfl, h⟩
section
variable {X : Cx}
def rExtT (K : PySem.W.Frag) : V → List V → Hp → VK → Prop := fun x vs H Q => ∃ l b xs zs, x = .ref l ∧ vs = [.ref b] ∧ H l = some (.lst xs) ∧ SqT K H b zs ∧ xs.length + zs.length ≤ sizeLine ∧ Q .non (upd H l (.lst (xs ++ zs)))
theorem mt_extT : MtM X "list.extend" (rExtT X.K) := by
  intro pins s σ H x vs v us Q I rx rv h
  obtain ⟨l, b, xs, zs, rfl, rfl, hH, hB, hz, q⟩ := h
  cases rx
  obtain ⟨u, rfl, ru⟩ := rv.one
  cases ru
  obtain ⟨z, its, n, r, hl, e⟩ := I.lstM hH
  obtain ⟨its2, r2, ⟨⟨oc, dd, dt, sl⟩, e2, hc, m, hd⟩, hz2⟩ := I.tuple hB
  subst hc hd
  have hl2 := r2.length
  have hsz : its.toArray.size + its2.toArray.size ≤ sizeLine := by rw [List.size_toArray, List.size_toArray]; omega
  have hlong : ¬ (!its.toArray.isEmpty && Builtin.List.listTooLong (its.toArray.size + its2.toArray.size)) = true := fun w => by
    rw [notLongL hsz, Bool.and_false] at w
    cases w
  refine call_meets F.slot_list_extend ⟨_, e, rfl⟩ F.entry_list_extend (F.args_list_extend_2 _ _) (ext_tup l b its.toArray its2.toArray n m dd sl hlong (by rw [List.size_toArray]; omega) (by omega)) ⟨e, e2, ?_⟩
  refine ⟨.non, _, I.lset (its' := its ++ its2) hH e (by simp) (r.append r2) (by rw [List.length_append]; omega), rfl, q⟩
/-- len(d) of a dict -/
theorem len_dic : CallR X (.builtin "len") (fun vs H Q => ∃ p es, vs = [V.ref p] ∧ H p = some (.dK es) ∧ Q (.int es.length) H) := fun pins s σ H vs us Q I r ⟨p, es, e, hp, q⟩ => by
  subst e
  obtain ⟨u, rfl, ru⟩ := vals1 r
  cases ru
  exact d_len I (.inl hp) fun tk s1 I1 => ⟨.int es.length, _, I1, ⟨tk, rfl⟩, q⟩
end
end GX
set_option Elab.async false
set_option maxRecDepth 100000
set_option maxHeartbeats 4000000
namespace RS
open PySem PySem.Spec PyProof.Rows L2 GX
theorem le64 {n : Nat} (h : n + 64 < cLine) : n + 1 < cLine := by omega
def keysD (js : List Nat) : List (Key × V) := js.map fun (j : Nat) => ((Sum.inl (j : Int) : Key), V.bl true)
theorem valV_js {js : List Nat} {i : Nat} (h : i ∉ js) : valV (keysD js) (Sum.inl (i : Int)) = none := by
  unfold keysD
  induction js with
  | nil => rfl
  | cons j js ih =>
    rw [List.map_cons, valV_neg]
    · exact ih fun z => h (List.mem_cons_of_mem _ z)
    · intro z
      have : (j : Int) = (i : Int) := Sum.inl.inj z
      exact h (by rw [show i = j by omega]; exact List.mem_cons_self)
theorem dpAll_snoc {K : PySem.W.Frag} {H : Hp} : ∀ {xs : List V} {y : V} {ds : List PyData}, DpAll K H (xs ++ [y]) ds → ∃ ds0 d, ds = ds0 ++ [d] ∧ DpAll K H xs ds0 ∧ Dp K H y d
  | [], _, _, .cons h .nil => ⟨[], _, rfl, .nil, h⟩
  | _ :: xs, _, _, .cons h t => by
    obtain ⟨ds0, d, rfl, h1, h2⟩ := dpAll_snoc (xs := xs) t
    exact ⟨_ :: ds0, d, rfl, .cons h h1, h2⟩
section
variable {P : Program} {w : World} {K : PySem.W.Frag} {mg : Str → Option Value} {base : Heap}
theorem scCheckPlan : FnScope ["lengths", "ways", "plan", "named", "left", "part"] ["lengths", "ways", "plan"] (defScope s_check_plan) := ⟨rfl, rfl, rfl, by decide +kernel, rfl, by decide +kernel, by decide +kernel⟩
def spCheckPlan (K : PySem.W.Frag) : Sp := fun vs H Q _ => ∃ (vl vp : V) (ls : List Nat) (n : Nat) (d : PyData), vs = [vl, .int (n : Nat), vp] ∧ Dp K H vl (lensD ls) ∧ Dp K H vp d ∧ OkPlan ls.length n d ∧ ls.length ≤ 40 ∧ n ≤ 6 ∧ ∀ H', Same H H' → Q .non H'
theorem check_plan_ok {c : Addr} (D : DefAt K mg "check_plan" s_check_plan c) (T : Txt K mg) (cN : Cal P w K mg base CX0 1 "is_number" ["value"] (spNum K)) : Cal P w K mg base CX0 2 "check_plan" ["lengths", "ways", "plan"] (spCheckPlan K) := by
  have sc := scCheckPlan
  obtain ⟨tA, hA⟩ := T.leastw
  refine def_ok0 D sc (fun vs H Q E h => ?_) (fun _ _ _ _ _ _ us hl => match us, hl with | [_, _, _], _ => rfl) (fun f A outer s H vs Q E hr h => ?_)
  · obtain ⟨vl, vp, ls, n, d, rfl, _⟩ := h
    rfl
  · obtain ⟨vl, vp, ls, n, d, rfl, hl, hp, ok, l40, n6, k⟩ := h
    have hu := hr.units
    refine ⟨_, (pss_cons (ps_par (i := 3) (j := 4) rfl sc.nd rfl rfl (by decide) rfl rfl (pa_cons pe_dnewK (pa_cons (pe_lst (pa_cons (pv 2) pa_nil)) pa_nil)) (by rfl)) (pss_cons (ps_while PassesOwn.never (pt_truth (pv 4) (by intro _; rfl)) (pss_cons (ps_set (i := 5) sc.nd rfl (Or.inl rfl) (pe_bm0 PySem.F.plainAttrs_list PySem.F.slot_list_pop PySem.F.type_list_pop mt_pop (pv 4))) (pss_one (ps_if (pt_val (pe_callB call_isiD (by rfl) T.isinstance (by decide +kernel) (pa_cons (pv 5) (pa_cons (pe_bltn (v := V.ty "tuple") (u := Value.type "tuple") (by rfl) T.tuple_ (by decide +kernel) rfl) pa_nil)))) (pss_cons (ps_if (pt_not (pt_chain op_le op_le (pe_glob (v := V.int 2) (by rfl) hA ⟨_, rfl⟩) (pe_callB call_lenD (by rfl) T.len PySem.boot_len (pa_cons (pv 5) pa_nil)) (pv 1))) pss_never pss_nil) (pss_one (ps_expr (pe_bm PySem.F.plainAttrs_list PySem.F.slot_list_extend PySem.F.type_list_extend mt_extT (pv 4) (pa_cons (pv 5) pa_nil))))) (pss_one (ps_if ((pw_or (pt_not (pt_val (pe_c cN hr (by decide) (by rfl) pass0 (pa_cons (pv 5) pa_nil)))) (pw_or (pt_not (pt_chain op_le op_lt pe_int (pv 5) (pe_callB call_lenD (by rfl) T.len PySem.boot_len (pa_cons (pv 0) pa_nil)))) (pw_or1 (pt_cmp (pc_din (le64 hu) (pv 5) (pv 3)))))).pt) pss_never (pss_one (ps_dput (le64 hu) (pv 3) (pv 5) pe_bl (by rfl))))))))) (pss_one (ps_if (pt_cmpR op_lt (pe_callB len_dic (by rfl) T.len PySem.boot_len (pa_cons (pv 3) pa_nil)) (pe_callB call_lenD (by rfl) T.len PySem.boot_len (pa_cons (pv 0) pa_nil)) (nomark _)) pss_never pss_nil)))), ?_⟩
    intro p hp0
    refine ⟨_, rfl, by show 1 ≤ sizeLine; decide, fun q hq => ⟨_, _, rfl, ?_⟩⟩
    refine ⟨fun m σ H' => ∃ (xs : List V) (ds : List PyData) (js : List Nat) (v5 : Option V), σ = [some vl, some (.int (n : Nat)), some vp, some (.ref p), some (.ref q), v5] ∧ Same H H' ∧
      H' p = some (.dK (keysD js)) ∧ H' q = some (.lst xs) ∧ DpAll K H xs ds ∧ okPs n ds ∧ (js ++ leafs ds).Perm (List.range ls.length) ∧ m = sizePs ds, ⟨_, [vp], [d], [], none, rfl, fun b o e => ?_, ?_, upd_same, ?_, ?_, ?_, rfl⟩, ?_⟩
    · rw [upd_ne (ne_of_none e (upd_no hq)), upd_ne (ne_of_none e hp0)]
      exact e
    · rw [upd_ne (fun z => by rw [z, upd_same] at hq; cases hq), upd_same]
      rfl
    · exact .cons hp .nil
    · exact ⟨ok.ok, trivial⟩
    · simpa [leafs] using ok.all
    rintro m σ H' ⟨xs, ds, js, v5, rfl, sm, hP, hQ, hd, okd, pm, em⟩
    have npq : p ≠ q := fun z => by rw [z, upd_same] at hq; cases hq
    refine ⟨_, rfl, !xs.isEmpty, .inl ⟨xs, SqL.of hQ, rfl⟩, ?_⟩
    rcases xs.eq_nil_or_concat with rfl | ⟨xs0, y, rfl⟩
    · cases hd
      refine iteF ?_
      have pm' : js.Perm (List.range ls.length) := by simpa [leafs] using pm
      have lj : js.length = ls.length := by rw [pm'.length_eq, List.length_range]
      refine ⟨_, rfl, p, _, rfl, hP, _, rfl, _, _, (ls.map fun n => PyData.int (n : Nat)).length, rfl, dp_same sm _ hl, rfl, _, _, rfl, rfl, _, rfl, ?_⟩
      refine iteF' (decide_eq_false ?_) (k _ sm)
      show ¬ ((keysD js).length : Int) < ((ls.map fun n => PyData.int (n : Nat)).length : Nat)
      unfold keysD
      rw [List.length_map, List.length_map, lj]
      omega
    · rw [List.concat_eq_append] at hQ hd ⊢
      obtain ⟨ds0, e, rfl, hd0, he⟩ := dpAll_snoc hd
      obtain ⟨okd0, oke⟩ := okPs_app.mp okd
      have oke : okP n e := oke.1
      have pm1 : (js ++ (leafs ds0 ++ leaf e)).Perm (List.range ls.length) := by simpa [leafs_app, leafs] using pm
      refine iteT' (by simp) ⟨_, fun _ _ h => h, ?_⟩
      have hQ1 : upd H' q (.lst xs0) q = some (.lst xs0) := upd_same
      have hP1 : upd H' q (.lst xs0) p = some (.dK (keysD js)) := (upd_ne npq).trans hP
      have sm1 : ∀ u, Same H (upd H' q u) := fun u b o e => by
        rw [upd_ne (ne_of_none e (upd_no hq))]
        exact sm b o e
      have he1 := dp_same (sm1 (.lst xs0)) _ he
      refine ⟨_, rfl, .inl ⟨rfl, _, SqL.of hQ⟩, q, _, y, rfl, rfl, hQ, by simp, ?_⟩
      rw [List.dropLast_concat]
      refine ⟨_, rfl, _, _, _, rfl, by simp, he1, _, rfl, ?_⟩
      rcases okP_cases oke with ⟨i, rfl, hi⟩ | ⟨es, rfl, e1, e2, oks⟩
      · cases he1
        have hn : isNum (.int (i : Int)) = true := by simp [isNum, isI, isT, tyN]
        refine iteF ⟨_, rfl, _, _, rfl, .int _, _, rfl, ?_⟩
        rw [hn]
        have pm2 : (js ++ (leafs ds0 ++ [i])).Perm (List.range ls.length) := by simpa [leaf] using pm1
        have hi2 : i < ls.length := List.mem_range.mp (pm2.mem_iff.mp (by simp))
        have ni : i ∉ js := fun z => by
          have nd := pm2.nodup_iff.mpr List.nodup_range
          exact (List.nodup_append.mp nd).2.2 i z i (by simp) rfl
        refine iteF ⟨_, rfl, _, _, rfl, rfl, _, rfl, ?_⟩
        rw [show decide ((0 : Int) ≤ (i : Nat)) = true from decide_eq_true (by omega)]
        refine iteT ⟨_, rfl, _, _, (ls.map fun n => PyData.int (n : Nat)).length, rfl, dp_same (sm1 _) _ hl, rfl, _, _, rfl, rfl, _, rfl, ?_⟩
        rw [List.length_map, show decide (((i : Nat) : Int) < (ls.length : Nat)) = true from decide_eq_true (by omega)]
        refine iteF ⟨_, rfl, _, rfl, p, _, rfl, DGet.k (k := Sum.inl (i : Int)) hP1, _, rfl, ?_⟩
        rw [valV_js ni]
        refine iteF ⟨_, rfl, _, rfl, p, _, rfl, DPut.k (k := Sum.inl (i : Int)) hP1 ?_, ?_⟩
        · show (keysD js).length < sizeLine
          refine small1000 ?_
          have := pm2.length_eq
          rw [List.length_append, List.length_range] at this
          unfold keysD
          rw [List.length_map]
          omega
        · refine ⟨_, ?_, xs0, ds0, js ++ [i], _, rfl, fun b o e => ?_, ?_, (upd_ne (Ne.symm npq)).trans hQ1, hd0, okd0, ?_, rfl⟩
          · rw [em, sizePs_app]
            show sizePs ds0 < sizePs ds0 + (1 + 0)
            omega
          · rw [upd_ne (ne_of_none e hp0)]
            exact sm1 _ _ _ e
          · rw [upd_same, putK_new _ (valV_js ni)]
            unfold keysD
            rw [List.map_append]
            rfl
          · refine List.Perm.trans ?_ pm2
            rw [List.append_assoc]
            exact List.perm_append_comm.append_left _
      · refine iteT ⟨_, rfl, _, _, _, rfl, he1, rfl, _, _, rfl, rfl, _, rfl, ?_⟩
        rw [show decide ((2 : Int) ≤ (es.length : Nat)) = true from decide_eq_true (by omega)]
        refine iteT ⟨_, rfl, _, _, rfl, rfl, _, rfl, ?_⟩
        rw [show decide (((es.length : Nat) : Int) ≤ (n : Nat)) = true from decide_eq_true (by omega)]
        refine iteF ?_
        cases he with
        | @tup a zs _ hS hI =>
          have lz : zs.length = es.length := dpLen hI
          have lx := dpLen hd0
          have lf := leafs_depth ds0 okd0
          have lp := pm1.length_eq
          rw [List.length_append, List.length_append, List.length_range] at lp
          refine ⟨_, rfl, .inl ⟨rfl, _, SqL.of hQ1⟩, _, rfl, q, a, xs0, zs, rfl, rfl, hQ1, sqT_same (sm1 _) hS, ?_, ?_⟩
          · exact Nat.le_of_lt (small1000 (by omega))
          · refine ⟨_, ?_, xs0 ++ zs, ds0 ++ es, js, _, rfl, fun b o e => ?_, (upd_ne npq).trans hP1, upd_same, dpApp hd0 hI, okPs_app.mpr ⟨okd0, oks⟩, ?_, rfl⟩
            · rw [em, sizePs_app, sizePs_app]
              show sizePs ds0 + sizePs es < sizePs ds0 + ((1 + sizePs es) + 0)
              omega
            · rw [upd_ne (ne_of_none e (upd_no hq))]
              exact sm1 _ _ _ e
            · rw [leafs_app]
              exact pm1
end
end RS
set_option Elab.async false
set_option maxRecDepth 100000
set_option maxHeartbeats 4000000
namespace LM
open PySem PySem.Spec PyProof.Rows L2
/-! ### known objects that stay: the maker's cells while a call runs -/
def Pin (o : Obj) : HO := .frz o (.own 0)
/-- the addresses of a frame's cells -/
def Cell (cl : List (Str × Addr)) (b : Addr) : Prop := ∃ y, cl.lookup y = some b
open Classical in
/-- the abstract heap without the cells -/
noncomputable def off (cl : List (Str × Addr)) (H : Hp) : Hp := fun b => if Cell cl b then none else H b
open Classical in
/-- H' with the cells of H -/
noncomputable def back (cl : List (Str × Addr)) (H H' : Hp) : Hp := fun b => if Cell cl b then H b else H' b
theorem off_c {cl : List (Str × Addr)} {H : Hp} {b : Addr} (h : Cell cl b) : off cl H b = none := if_pos h
theorem off_n {cl : List (Str × Addr)} {H : Hp} {b : Addr} (h : ¬ Cell cl b) : off cl H b = H b := if_neg h
theorem back_c {cl : List (Str × Addr)} {H H' : Hp} {b : Addr} (h : Cell cl b) : back cl H H' b = H b := if_pos h
theorem back_n {cl : List (Str × Addr)} {H H' : Hp} {b : Addr} (h : ¬ Cell cl b) : back cl H H' b = H' b := if_neg h
/-- all cells are known in H -/
def Held (cl : List (Str × Addr)) (H : Hp) : Prop := ∀ b, Cell cl b → ∃ o, H b = some (Pin o)
/-- no cell is told of in H -/
def Loose (cl : List (Str × Addr)) (H : Hp) : Prop := ∀ b, Cell cl b → H b = none
theorem loose_off {cl : List (Str × Addr)} {H : Hp} : Loose cl (off cl H) := fun _ h => off_c h
theorem pin_own {o : Obj} {a : Addr} : Pin o ≠ .own a := fun z => nomatch z
theorem pin_tbl {o : Obj} {ps : Array Value} : Pin o ≠ .tbl ps := fun z => nomatch z
theorem pin_tup {o : Obj} {xs : List V} : Pin o ≠ .tup xs := fun z => nomatch z
section
variable {P : Program} {w : World} {K : PySem.W.Frag} {mg : Str → Option Value} {base : Heap} {A : Around} {outer : List Env} {s s' : Shared} {H H' G : Hp} {cl : List (Str × Addr)} {h h' : Heap} {fs : List Addr}
theorem pin_at (x : HOk P w H h) {b : Addr} {o : Obj} (e : H b = some (Pin o)) : h.get? b = some o := (x b _ e).1
theorem held_off (hd : Held cl H) (b : Addr) (u : HO) (hu : ∀ o, u ≠ Pin o) (e : H b = some u) : off cl H b = some u := by
  by_cases c : Cell cl b
  · obtain ⟨o, z⟩ := hd b c
    rw [z] at e
    exact absurd (Option.some.inj e).symm (hu o)
  · rw [off_n c]
    exact e
theorem hok_off (hd : Held cl H) (x : HOk P w H h) : HOk P w (off cl H) h := fun b u e => by
  by_cases c : Cell cl b
  · rw [off_c c] at e
    cases e
  · rw [off_n c] at e
    exact (x b u e).stay (fun _ _ _ q => q) (fun d q => held_off hd d _ (fun o z => pin_own z.symm) q) fun d xs q => held_off hd d _ (fun o z => pin_tup z.symm) q
/-- the state at a call, its cells let go -/
theorem env_off (hd : Held cl H) (e : Env0 P w K mg base A outer s H) : Env0 P w K mg base A outer s (off cl H) := by
  refine ⟨e.frames, e.mod, fun b o q => ⟨(e.bs b o q).1, ?_⟩, e.bsz, e.funs, fun b q => ?_, hok_off hd e.hok, e.bare⟩
  · by_cases c : Cell cl b
    · exact off_c c
    · rw [off_n c]
      exact (e.bs b o q).2
  · by_cases c : Cell cl b
    · exact off_c c
    · rw [off_n c]
      exact e.frf b q
/-- what a run did ahead of which the cells were let go: with them -/
theorem un_back (hd : Held cl H) (hk : HOk P w H h) (nf : ∀ b, Cell cl b → b ∉ fs) (u : Un fs [] (off cl H) H' h h') : Un fs [] H (back cl H H') h h' := by
  have nc : ∀ b, H b = none → ¬ Cell cl b := fun b n c => by
    obtain ⟨o, z⟩ := hd b c
    rw [n] at z
    cases z
  refine ⟨fun b o q n hb hx => u.keep b o q (by rw [off_n (nc b n)]; exact n) hb hx, fun b o q n hb hx => u.slot b o q (by rw [off_n (nc b n)]; exact n) hb hx, fun b o q n hx => ?_, u.there, fun b xs q => ?_, fun b o v q => ?_, fun b ps q => ?_⟩
  · rw [back_n (nc b n)]
    exact u.free b o q (by rw [off_n (nc b n)]; exact n) hx
  · have c : ¬ Cell cl b := fun c => by
      obtain ⟨o, z⟩ := hd b c
      rw [q] at z
      cases z
    rw [back_n c]
    exact u.tups b xs (by rw [off_n c]; exact q)
  · by_cases c : Cell cl b
    · rw [back_c c]
      exact q
    · rw [back_n c]
      exact u.frzs b o v (by rw [off_n c]; exact q)
  · have c : ¬ Cell cl b := fun c => by
      obtain ⟨o, z⟩ := hd b c
      rw [q] at z
      cases z
    rw [back_n c]
    exact u.tbls b ps (by rw [off_n c]; exact q)
theorem loose_un (hk : HOk P w H h) (hd : Held cl H) (u : Un fs [] (off cl H) H' h h') : Loose cl H' := fun b c => by
  obtain ⟨o, z⟩ := hd b c
  exact u.free b o (pin_at hk z) (off_c c) (by simp)
theorem hok_back (hd : Held cl H) (hk : HOk P w H h) (nf : ∀ b, Cell cl b → b ∉ fs) (u : Un fs [] (off cl H) H' h h') (x : HOk P w H' h') : HOk P w (back cl H H') h' := fun b v e => by
  have lo := loose_un hk hd u
  by_cases c : Cell cl b
  · rw [back_c c] at e
    obtain ⟨o, z⟩ := hd b c
    rw [z] at e
    cases e
    have := u.keep b o (pin_at hk z) (off_c c) (nf b c) (by simp)
    exact ⟨this, ⟨o, this⟩⟩
  · rw [back_n c] at e
    have st : ∀ d v, H' d = some v → back cl H H' d = some v := fun d v q => by
      have : ¬ Cell cl d := fun z => by
        rw [lo d z] at q
        cases q
      rw [back_n this]
      exact q
    exact (x b v e).stay (fun _ _ _ q => q) (fun d q => st d _ q) fun d xs q => st d _ q
/-- G is H with the cells known -/
structure Up (cl : List (Str × Addr)) (H G : Hp) (h : Heap) : Prop where
  lo : Loose cl H
  same : ∀ b, ¬ Cell cl b → G b = H b
  held : ∀ b, Cell cl b → ∃ o, h.get? b = some o ∧ G b = some (Pin o)
theorem Up.hd (p : Up cl H G h) : Held cl G := fun b c => by
  obtain ⟨o, _, z⟩ := p.held b c
  exact ⟨o, z⟩
theorem up_some (p : Up cl H G h) {b : Addr} {u : HO} (e : H b = some u) : G b = some u := by
  have : ¬ Cell cl b := fun c => by
    rw [p.lo b c] at e
    cases e
  rw [p.same b this]
  exact e
theorem hok_up (p : Up cl H G h) (x : HOk P w H h) : HOk P w G h := fun b u e => by
  by_cases c : Cell cl b
  · obtain ⟨o, ho, z⟩ := p.held b c
    rw [z] at e
    cases e
    exact ⟨ho, ⟨o, ho⟩⟩
  · rw [p.same b c] at e
    exact (x b u e).stay (fun _ _ _ q => q) (fun d q => up_some p q) fun d xs q => up_some p q
theorem env_up (p : Up cl H G s.heap) (nb : ∀ b, Cell cl b → base.get? b = none) (nf : ∀ b, Cell cl b → b ∉ frs outer) (e : Env0 P w K mg base A outer s H) : Env0 P w K mg base A outer s G := by
  refine ⟨e.frames, e.mod, fun b o q => ⟨(e.bs b o q).1, ?_⟩, e.bsz, e.funs, fun b q => ?_, hok_up p e.hok, e.bare⟩
  · rw [p.same b fun c => by rw [nb b c] at q; cases q]
    exact (e.bs b o q).2
  · rw [p.same b fun c => nf b c q]
    exact e.frf b q
/-- behind a call with known cells: they are let go again -/
theorem end_up {Q : VK} {u : Value} (p : Up cl H G s.heap) (h : CE outer P w G s (fun v H' => Q v (off cl H')) u s') : CE outer P w H s Q u s' := by
  obtain ⟨v, H', os, bare, un, hk, r, q⟩ := h
  have kept : ∀ b, Cell cl b → ∃ o, s.heap.get? b = some o ∧ H' b = some (Pin o) := fun b c => by
    obtain ⟨o, ho, z⟩ := p.held b c
    exact ⟨o, ho, un.frzs b o _ z⟩
  have hd : Held cl H' := fun b c => by
    obtain ⟨o, _, z⟩ := kept b c
    exact ⟨o, z⟩
  refine ⟨v, off cl H', os, bare, ⟨fun b o e n hb hx => ?_, fun b o e n hb hx => ?_, fun b o e n hx => ?_, un.there, fun b xs e => ?_, fun b o v e => ?_, fun b ps e => ?_⟩, hok_off hd hk, r, q⟩
  · by_cases c : Cell cl b
    · obtain ⟨o', ho, z⟩ := kept b c
      rw [e] at ho
      cases ho
      exact pin_at hk z
    · exact un.keep b o e (by rw [p.same b c]; exact n) hb hx
  · by_cases c : Cell cl b
    · obtain ⟨o', ho, z⟩ := kept b c
      rw [e] at ho
      cases ho
      exact ⟨o.slots, pin_at hk z⟩
    · exact un.slot b o e (by rw [p.same b c]; exact n) hb hx
  · by_cases c : Cell cl b
    · exact off_c c
    · rw [off_n c]
      exact un.free b o e (by rw [p.same b c]; exact n) hx
  · have g := un.tups b xs (up_some p e)
    exact held_off hd b _ (fun o z => pin_tup z.symm) g
  · have c : ¬ Cell cl b := fun c => by
      rw [p.lo b c] at e
      cases e
    rw [off_n c]
    exact un.frzs b o v (up_some p e)
  · obtain ⟨more, g⟩ := un.tbls b ps (up_some p e)
    exact ⟨more, held_off hd b _ (fun o z => nomatch z) g⟩
end
end LM
set_option Elab.async false
set_option maxRecDepth 100000
set_option maxHeartbeats 4000000
namespace LM
open PySem PySem.Spec PyProof.Rows L2
open LamX (ExtN TabS TabB CodeO LamS lamCx lamEnv)
/-! ### an exception through let-go cells -/
section
variable {P : Program} {w : World} {outer : List Env} {s s' : Shared} {H : Hp} {cl : List (Str × Addr)}
theorem cx_back {E : XK} {u : Value} (hd : Held cl H) (hk : HOk P w H s.heap) (nf : ∀ b, Cell cl b → b ∉ frs outer) (x : L2.CX P w outer (off cl H) s (fun c d H' => Loose cl H' → E c d (back cl H H')) u s') : L2.CX P w outer H s E u s' := by
  obtain ⟨a, B, H', c, d, e, fl, ok, ub, na, os, bare, q⟩ := x
  have nc : ∀ b, H b = none → ¬ Cell cl b := fun b n z => by
    obtain ⟨o, y⟩ := hd b z
    rw [n] at y
    cases y
  have lo : Loose cl H' := fun b z => by
    obtain ⟨o, y⟩ := hd b z
    exact ub.free b o (pin_at hk y) (off_c z)
  have ap : ∀ b u, (∀ o, u ≠ Pin o) → H b = some u → ¬ Cell cl b := fun b u hu y z => by
    obtain ⟨o, v⟩ := hd b z
    rw [y] at v
    exact hu o (Option.some.inj v)
  have inB : ∀ b, Cell cl b → ∃ o, H b = some (Pin o) ∧ B.get? b = some o := fun b z => by
    obtain ⟨o, y⟩ := hd b z
    exact ⟨o, y, ub.keep b o (pin_at hk y) (off_c z) (nf b z)⟩
  have nca : ¬ Cell cl a := fun z => by
    obtain ⟨o, _, y⟩ := inB a z
    rw [fl.2.1] at y
    cases y
  refine ⟨a, B, back cl H H', c, d, e, fl, fun b v y => ?_, ⟨fun b o y n hb => ub.keep b o y (by rw [off_n (nc b n)]; exact n) hb, ub.slot, fun b o y n => ?_, ub.there, fun b xs y => ?_, fun b o v y => ?_, fun b ps y => ?_⟩, by rw [back_n nca]; exact na, os, bare, q lo⟩
  · by_cases z : Cell cl b
    · rw [back_c z] at y
      obtain ⟨o, y2, g⟩ := inB b z
      rw [y2] at y
      cases y
      exact ⟨g, ⟨o, g⟩⟩
    · rw [back_n z] at y
      have st : ∀ d v, H' d = some v → back cl H H' d = some v := fun d v q => by
        have : ¬ Cell cl d := fun z => by
          rw [lo d z] at q
          cases q
        rw [back_n this]
        exact q
      exact (ok b v y).stay (fun _ _ _ q => q) (fun d q => st d _ q) fun d xs q => st d _ q
  · rw [back_n (nc b n)]
    exact ub.free b o y (by rw [off_n (nc b n)]; exact n)
  · have z := ap b _ (fun o y => pin_tup y.symm) y
    rw [back_n z]
    exact ub.tups b xs (by rw [off_n z]; exact y)
  · by_cases z : Cell cl b
    · rw [back_c z]
      exact y
    · rw [back_n z]
      exact ub.frzs b o v (by rw [off_n z]; exact y)
  · have z := ap b _ (fun o y => pin_tbl y.symm) y
    rw [back_n z]
    exact ub.tbls b ps (by rw [off_n z]; exact y)
theorem cr_back {Q : VK} {E : XK} {r : Result} (hd : Held cl H) (hk : HOk P w H s.heap) (nf : ∀ b, Cell cl b → b ∉ frs outer) (x : CR (L2.CX P w) outer P w (off cl H) s (fun v H' => Loose cl H' → Q v (back cl H H')) (fun c d H' => Loose cl H' → E c d (back cl H H')) r s') : CR (L2.CX P w) outer P w H s Q E r s' := by
  cases r with
  | error e => exact cx_back hd hk nf x
  | ok fl =>
    cases fl with
    | ret u =>
      obtain ⟨v, H', os, bare, un, ok, rv, q⟩ := x
      exact ⟨v, back cl H H', os, bare, un_back hd hk nf un, hok_back hd hk nf un ok, rv, q (loose_un hk hd un)⟩
    | next => exact x
    | brk => exact x
    | cont => exact x
end
/-! ### what a lambda does where it is called -/
/-- f, called without arguments where R holds, keeps tl -/
structure Act (P : Program) (w : World) (K : PySem.W.Frag) (mg : Str → Option Value) (base : Heap) (k : Nat) (f : Addr) (R : Hp → Prop) (tl : Hp → VK → XK → Prop) : Prop where
  same : ∀ H H' : Hp, (∀ b o, H b = some o → H' b = some o) → R H → R H'
  fn : ∀ (s : Shared) (H : Hp), R H → HOk P w H s.heap → PySem.W.FnAt f s.heap
  run : ∀ (A : Around) (outer : List Env) (s : Shared) (H : Hp) (Q : VK) (E : XK), Room k A → Env0 P w K mg base A outer s H → R H → tl H Q E → codeAny (model P w) A (.call (.ref f) ⟨[], []⟩) (CR (L2.CX P w) outer P w H s Q E) s
/-- the lambda that stands at f -/
def IsLam (H : Hp) (f : Addr) (q : Str) (params : Arguments) (body : Expr) (scope : Scope) (clos : List (Str × Addr)) : Prop :=
  ∃ (c' : Addr) (pm ctv : Value), H f = some (Pin (PySem.W.kla_obj "<lambda>" q params body scope clos pm c' ctv)) ∧ H c' = some (CodeO c' q)
theorem IsLam.ext {H H' : Hp} {f : Addr} {q : Str} {params : Arguments} {body : Expr} {scope : Scope} {clos : List (Str × Addr)} (h : IsLam H f q params body scope clos) (e : ExtN H H') : IsLam H' f q params body scope clos := by
  obtain ⟨c', pm, ctv, h1, h2⟩ := h
  exact ⟨c', pm, ctv, e _ _ h1 (fun ps z => nomatch z), e _ _ h2 (fun ps z => LamX.codeO_ne ps z)⟩
/-- what a frame's cells hold, told at a call: H ahead, G with the cells -/
structure Caught (X : Cx) (σ : L2.St) (H G : Hp) : Prop where
  len : σ.length = X.N.length
  has : ∀ y, X.env.kindOf y = some .cell ∨ X.env.kindOf y = some .free → ∃ c, X.env.cells.lookup y = some c
  inj : ∀ x y c, X.env.cells.lookup x = some c → X.env.cells.lookup y = some c → x = y
  lo : Loose X.env.cells H
  same : ∀ b, ¬ Cell X.env.cells b → G b = H b
  held : ∀ b, Cell X.env.cells b → ∃ o v, G b = some (Pin o) ∧ o.data = .cell v
  val : ∀ (i : Nat) (y : Str) (v : V), X.N[i]? = some y → σ[i]? = some (some v) → X.env.kindOf y = some .cell ∨ X.env.kindOf y = some .free → ∃ c o u, X.env.cells.lookup y = some c ∧ G c = some (Pin o) ∧ o.data = .cell (some u) ∧ RelV v u
theorem Caught.some {X : Cx} {σ : L2.St} {H G : Hp} (c : Caught X σ H G) {b : Addr} {o : HO} (e : H b = some o) : G b = some o := by
  rw [c.same b fun z => by rw [c.lo b z] at e; cases e]
  exact e
theorem Caught.hd {X : Cx} {σ : L2.St} {H G : Hp} (c : Caught X σ H G) : Held X.env.cells G := fun b z => by
  obtain ⟨o, _, e, _⟩ := c.held b z
  exact ⟨o, e⟩
open Classical in
theorem caught_of {X : Cx} {pins : List (Addr × Obj)} {σ : L2.St} {H : Hp} {s : Shared} (I : Inv X pins σ H s) : ∃ G, Up X.env.cells H G s.heap ∧ Caught X σ H G := by
  have lo : Loose X.env.cells H := fun b ⟨y, e⟩ => I.freeC y b e
  have at_ : ∀ b, Cell X.env.cells b → ∃ o v, s.heap.get? b = some o ∧ o.data = .cell v := fun b ⟨y, e⟩ => by
    obtain ⟨v, o, h1, h2⟩ := I.cell y b e
    exact ⟨o, v, h1, h2⟩
  refine ⟨fun b => if Cell X.env.cells b then (s.heap.get? b).map Pin else H b, ⟨lo, fun b c => if_neg c, fun b c => ?_⟩, ⟨I.len, fun y hy => I.ok.has y hy, I.ok.inj, lo, fun b c => if_neg c, fun b c => ?_, fun i y v h1 h2 h3 => ?_⟩⟩
  · obtain ⟨o, v, h1, h2⟩ := at_ b c
    refine ⟨o, h1, ?_⟩
    show (if Cell X.env.cells b then (s.heap.get? b).map Pin else H b) = _
    rw [if_pos c, h1]
    rfl
  · obtain ⟨o, v, h1, h2⟩ := at_ b c
    refine ⟨o, v, ?_, h2⟩
    show (if Cell X.env.cells b then (s.heap.get? b).map Pin else H b) = _
    rw [if_pos c, h1]
    rfl
  · obtain ⟨m, _, hl⟩ := I.loc
    have hv : Vis X.env.scope y := h3.elim (fun k => .inr (.inl k)) fun k => .inr (.inr k)
    obtain ⟨u, r, q⟩ := hl i y v h1 h2 hv
    rcases q with ⟨k, _⟩ | ⟨_, c, e, o, ho, hd⟩
    · rcases h3 with z | z <;> rw [z] at k <;> cases k
    · refine ⟨c, o, u, e, ?_, hd, r⟩
      show (if Cell X.env.cells c then (s.heap.get? c).map Pin else H c) = _
      rw [if_pos ⟨y, e⟩, ho]
      rfl
/-- the lambda's own frame is entered -/
theorem lam_in {X : Cx} {σ : L2.St} {H G HZ : Hp} {A : Around} {outer : List Env} {E : XK} {scope : Scope} {f c' : Addr} {h₁ : Heap} {tk : Nat} {s1 : Shared} (U : Caught X σ H G) (L : LamS X.env.scope scope) (e0 : Env0 X.prog X.w X.K X.mg X.base A outer s1 (off X.env.cells HZ)) (hd : A.handled = none)
    (hz : ∀ b, Cell X.env.cells b → ∃ o, G b = some (Pin o) ∧ s1.heap.get? b = some o) (hns : h₁.Ns s1.heap.objs.size fun y => ([] : List (Str × Value)).reverse.lookup y) (kp : ∀ b o, s1.heap.get? b = some o → h₁.get? b = some o) :
    Inv (lamCx X A outer s1 (off X.env.cells HZ) E scope f c') [] σ (off X.env.cells HZ) { s1 with heap := h₁, toks := tk } := by
  have has : ∀ y ∈ scope.names, y.2 = .free → ∃ c, X.env.cells.lookup y.1 = some c := fun y hy e => U.has _ (L.free y hy e)
  have cm : ∀ {y c}, (cloFrom X.env.cells scope.names []).lookup y = some c → X.env.cells.lookup y = some c := fun {y c} e => by
    rcases cloFrom_mem (PySem.mem_of_lookup e) with z | ⟨h1, h2⟩
    · cases z
    · obtain ⟨c1, hc⟩ := has _ h1 rfl
      have hc : X.env.cells.lookup y = some c1 := hc
      rw [hc] at h2
      rw [h2]
      exact hc
  have look : ∀ {y}, scope.names.lookup y = some .free → ∃ c, (cloFrom X.env.cells scope.names []).lookup y = some c := fun {y} hl =>
    mem_lookup (cloFrom_has (cells := X.env.cells) (acc := []) (PySem.mem_of_lookup hl))
  have isC : ∀ {y c}, X.env.cells.lookup y = some c → ∃ v, h₁.IsCell c v := fun {y c} e => by
    obtain ⟨o, v, g, d⟩ := U.held c ⟨y, e⟩
    obtain ⟨o', g', k⟩ := hz c ⟨y, e⟩
    rw [g] at g'
    have : o = o' := by injection g' with g'; injection g'
    subst this
    exact ⟨v, o, kp _ _ k, d⟩
  have noex : ∀ b : Addr, b ∉ (lamCx X A outer s1 (off X.env.cells HZ) E scope f c').ex := fun b z => nomatch (show b ∈ ([] : List Addr) from z)
  refine ⟨⟨e0.mod, L.kind, rfl, rfl, Nat.le_refl _, fun y z c e1 e2 => U.inj y z c (cm e1) (cm e2), fun y hy => ?_, fun y c z _ => Bool.noConfusion (show false = true from z), fun _ => hd, Around.frames_deeper e0.frames, .inr ⟨rfl, rfl⟩, fun b z => absurd z (noex b), e0.bs, e0.bsz, fun b _ _ => noex b,
      fun b z => absurd z (noex b), e0.funs, e0.frf⟩,
    rfl, e0.bare, Un.kept kp, ⟨_, hns, fun i y v e1 e2 e3 => ?_⟩, fun y c e => isC (cm e), e0.hok.fresh (Nat.le_refl _), fun y c e => off_c ⟨y, cm e⟩, fun q hq => absurd (show q ∈ ([] : List (Addr × Obj)) ++ [] from hq) (by simp), e0.hok.kept kp, U.len⟩
  · have hy : scope.names.lookup y = some .cell ∨ scope.names.lookup y = some .free := hy
    rcases hy with hy | hy
    · exact absurd rfl (L.own _ (PySem.mem_of_lookup hy)).2
    · exact look hy
  · have e3 : Vis scope y := e3
    rcases e3 with k | k | k
    · exact absurd rfl (L.own _ (PySem.mem_of_lookup k)).1
    · exact absurd rfl (L.own _ (PySem.mem_of_lookup k)).2
    · obtain ⟨c, o, u, h1, h2, h3, r⟩ := U.val i y v e1 e2 (L.free _ (PySem.mem_of_lookup k) rfl)
      obtain ⟨c2, z⟩ := look k
      have := cm z
      rw [h1] at this
      cases this
      obtain ⟨o', g', kk⟩ := hz c ⟨y, h1⟩
      rw [h2] at g'
      have : o = o' := by injection g' with g'; injection g'
      subst this
      exact ⟨u, r, .inr ⟨.inr k, c, z, o, kp _ _ kk, h3⟩⟩
/-- what the lambda at f does, wherever it is called while the frame's cells are known -/
theorem lam_act {X : Cx} {σ : L2.St} {H G : Hp} {params : Arguments} {body : Expr} {scope : Scope} {f : Addr} {k : Nat} {t : XK → TE} (U : Caught X σ H G) (L : LamS X.env.scope scope) (hl : IsLam G f (X.env.qual ++ "<lambda>") params body scope (cloFrom X.env.cells scope.names []))
    (hbind : ∀ (q : Str) (cl : List (Str × Addr)) (pm cv ctv : Value), bindArgs (PySem.W.kla_fn "<lambda>" q params body scope cl pm cv ctv) ⟨[], []⟩ = pure [])
    (hbody : ∀ (A : Around) (outer : List Env) (s : Shared) (H : Hp) (E : XK) (c' : Addr), Room k (A.deeper (lamEnv X scope s.heap.objs.size f c')) → PE (lamCx X A outer s H E scope f c') body (t E)) :
    ∃ R : Hp → Prop, R G ∧ Act X.prog X.w X.K X.mg X.base (k + 1) f R (fun H Q E => t (fun c d H' => Loose X.env.cells H' → E c d (back X.env.cells H H')) σ (off X.env.cells H) (fun v H' => Loose X.env.cells H' → Q v (back X.env.cells H H'))) := by
  obtain ⟨c', pm, ctv, h1, h2⟩ := hl
  refine ⟨fun HZ => HZ f = G f ∧ HZ c' = G c' ∧ ∀ b, Cell X.env.cells b → HZ b = G b, ⟨rfl, rfl, fun _ _ => rfl⟩, ⟨fun H H' e ⟨r1, r2, r3⟩ => ⟨?_, ?_, fun b c => ?_⟩, fun s H ⟨r1, _, _⟩ ok => ?_, fun A outer s HZ Q E hr e0 ⟨r1, r2, r3⟩ ht => ?_⟩⟩
  · rw [h1] at r1 ⊢
    exact e _ _ r1
  · rw [h2] at r2 ⊢
    exact e _ _ r2
  · obtain ⟨o, z⟩ := U.hd b c
    have r3 := r3 b c
    rw [z] at r3 ⊢
    exact e _ _ r3
  · rw [h1] at r1
    exact ⟨_, _, _, _, pin_at ok r1⟩
  have hd : Held X.env.cells HZ := fun b c => by
    rw [r3 b c]
    exact U.hd b c
  have nf : ∀ b, Cell X.env.cells b → b ∉ frs outer := fun b c z => by
    obtain ⟨o, y⟩ := hd b c
    rw [e0.frf b z] at y
    cases y
  rw [h1] at r1
  rw [h2] at r2
  have of1 := pin_at e0.hok r1
  obtain ⟨⟨oc, vs, tt, hoc, hdc, hvc⟩, _, _⟩ := e0.hok c' _ r2
  have e1 := env_off hd e0
  have lim : s.heap.NoLimit := e0.mod.nolimit.keeps fun b o e => (e0.bs b o e).1
  refine codeAny_mono (R := CR (L2.CX X.prog X.w) outer X.prog X.w (off X.env.cells HZ) s (fun v H' => Loose X.env.cells H' → Q v (back X.env.cells HZ H')) (fun c d H' => Loose X.env.cells H' → E c d (back X.env.cells HZ H'))) ?_ fun r s' hq => cr_back hd e0.hok nf hq
  refine PySem.W.kla_callFunE hr.depth of1 rfl L.co L.gen rfl ⟨c', oc, vs, tt, rfl, hoc, hdc, hvc⟩ ?_
  rw [hbind]
  refine wpAny_pure (wpAny_newFunctionEnv (fun y hy => (L.own y hy).2) (fun y hy => absurd hy (by simp)) (fun h₁ hns hsb => ⟨lim.fresh _ hsb, ?_⟩) L.kind)
  show codeAny _ _ (.expr body (lamEnv X scope s.heap.objs.size f c')) _ _
  have kp : ∀ b o, s.heap.get? b = some o → h₁.get? b = some o := fun b o e => hsb.extBut b o (Nat.ne_of_lt (Heap.lt_size e)) (Heap.get?_push_of_some _ e)
  have J := lam_in (E := fun c d H' => Loose X.env.cells H' → E c d (back X.env.cells HZ H')) (scope := scope) (f := f) (c' := c') (tk := s.toks + ([] : List (Str × Value)).length) U L e1 hr.hd (fun b c => by
    obtain ⟨o, z⟩ := U.hd b c
    exact ⟨o, z, pin_at e0.hok ((r3 b c).trans z)⟩) hns kp
  refine PySem.W.kla_codeExpr (wpAny_mono ((hbody _ _ s (off X.env.cells HZ) _ c' (hr.deeper _)).run [] _ _ (off X.env.cells HZ) _ J ht) (fun v s' hq => ?_) fun e s' hq => hq)
  obtain ⟨w', H', J', rv, q⟩ := hq
  exact ⟨w', H', J'.os, J'.bare, J'.base, J'.hok, rv, q⟩
theorem caught_same {X : Cx} {σ : L2.St} {H G H' : Hp} (c : Caught X σ H G) (s : ∀ b o, G b = some o → H' b = some o) : ∀ b o, H b = some o → off X.env.cells H' b = some o := fun b o e => by
  rw [off_n fun z => by rw [c.lo b z] at e; cases e]
  exact s b o (c.some e)
theorem back_same {cl : List (Str × Addr)} {H H' : Hp} (s : ∀ b o, off cl H b = some o → H' b = some o) : ∀ b o, H b = some o → back cl H H' b = some o := fun b o e => by
  by_cases c : Cell cl b
  · rw [back_c c]
    exact e
  · rw [back_n c]
    exact s b o (by rw [off_n c]; exact e)
theorem back_at {cl : List (Str × Addr)} {H H' : Hp} (lo : Loose cl H') {b : Addr} {o : HO} (e : H' b = some o) : back cl H H' b = some o := by
  rw [back_n fun c => by rw [lo b c] at e; cases e]
  exact e
end LM
set_option Elab.async false
set_option maxRecDepth 100000
set_option maxHeartbeats 4000000
namespace LM
open PySem PySem.Spec PyProof.Rows L2
open LamX (ExtN TabS TabB CodeO LamS lamCx lamEnv)
/-! ### a lambda is made -/
def tLam (P : Addr) (q : Str) (params : Arguments) (body : Expr) (scope : Scope) (clos : List (Str × Addr)) : TE := fun _ H Q => TabS H P q ∧
  ∀ (f : Addr) (H1 : Hp), ExtN H H1 → TabS H1 P q → IsLam H1 f q params body scope clos → H f = none → Q (.ref f) H1
section
variable {X : Cx}
theorem pe_lam {c P : Addr} {params : Arguments} {body : Expr} {scope : Scope} {pos : Pos} (TB : TabB X.base X.mg c P) (hcode : X.env.code = .ref c) (L : LamS X.env.scope scope) (hdef : defaultsOf params X.env = ([], [])) :
    PE X (.Lambda params body scope pos) (tLam P (X.env.qual ++ "<lambda>") params body scope (cloFrom X.env.cells scope.names [])) := by
  refine ⟨fun pins s σ H Q I ⟨hT, h⟩ => ?_⟩
  obtain ⟨ps, hP, ht, ha⟩ := id hT
  refine PySem.W.kla_eval hdef ?_
  have hP' : s.heap.get? P = some { cls := .none, data := .fields ps } := I.hok P _ hP
  cases hc : codeAmong pos ps.toList with
  | none =>
    refine PySem.W.kla_makeFunction (mg := X.mg) (c := c) (P := P) (ps := ps) (closure_ok (L.has I.ok)) I.ok.glob (I.mod.glob.keeps I.bk) hcode (TB.code.keeps I.bk) hP' ht hc TB.gP (TB.bm.keeps I.bk) fun c' ctv g tk hx hge hlt hrec htb => ?_
    obtain ⟨c2, oc, vs, t, e2, hoc, hd, hv⟩ := hrec
    cases e2
    have nC : H c' = none := I.hok.fresh hge
    have I1 := LamX.inv_table (t' := tk) (q := X.env.qual ++ "<lambda>") (more := #[rawInt pos.line, rawInt pos.col, .ref c']) I hP (fun b o hb e => hx b o hb e) htb hge ⟨oc, vs, t, hoc, hd, hv⟩
    have I2 := I1.laid (a := g.objs.size) (o := Pin (PySem.W.kla_obj "<lambda>" (X.env.qual ++ "<lambda>") params body scope (cloFrom X.env.cells scope.names []) ((X.mg "__name__").getD .none) c' ctv)) (t' := tk) (fun b u e => Heap.get?_push_of_some (h := g) _ e) (Nat.le_refl _) ⟨Heap.get?_push_size _ rfl, ⟨_, Heap.get?_push_size _ rfl⟩⟩
    have nF : H g.objs.size = none := I.hok.fresh (Nat.le_trans hge (Nat.le_of_lt hlt))
    have n1 : g.objs.size ≠ c' := Nat.ne_of_gt hlt
    have n2 : P ≠ g.objs.size := ne_of_none hP nF
    have n3 : P ≠ c' := ne_of_none hP nC
    have hE : ExtN H (upd (upd (upd H P (.tbl (ps ++ #[rawInt pos.line, rawInt pos.col, .ref c']))) c' (CodeO c' (X.env.qual ++ "<lambda>"))) g.objs.size (Pin (PySem.W.kla_obj "<lambda>" (X.env.qual ++ "<lambda>") params body scope (cloFrom X.env.cells scope.names []) ((X.mg "__name__").getD .none) c' ctv))) := fun b o e n => by
      rw [upd_ne (ne_of_none e nF), upd_ne (ne_of_none e nC), upd_ne fun z => n ps (Option.some.inj (e.symm.trans (by rw [z]; exact hP)))]
      exact e
    have hC2 : (upd (upd (upd H P (.tbl (ps ++ #[rawInt pos.line, rawInt pos.col, .ref c']))) c' (CodeO c' (X.env.qual ++ "<lambda>"))) g.objs.size (Pin (PySem.W.kla_obj "<lambda>" (X.env.qual ++ "<lambda>") params body scope (cloFrom X.env.cells scope.names []) ((X.mg "__name__").getD .none) c' ctv))) c' = some (CodeO c' (X.env.qual ++ "<lambda>")) := by
      rw [upd_ne (Ne.symm n1), upd_same]
    refine ⟨.ref g.objs.size, _, I2, rfl, h _ _ hE ⟨_, by rw [upd_ne n2, upd_ne n3, upd_same], ?_, fun p' cv hcv => ?_⟩ ⟨c', _, ctv, upd_same, hC2⟩ nF⟩
    · simp only [Array.toList_append]
      exact PySem.TriplesOk_snoc _ _ _ _ ht
    · simp only [Array.toList_append] at hcv
      rcases LamX.among_app _ ht hcv with z | z
      · obtain ⟨c0, y1, y2⟩ := ha p' cv z
        exact ⟨c0, y1, hE _ _ y2 (fun ps => LamX.codeO_ne ps)⟩
      · exact ⟨c', z, hC2⟩
  | some cv =>
    obtain ⟨c', rfl, hco⟩ := ha pos cv hc
    refine PySem.W.kla_makeFunctionHit (mg := X.mg) (c := c) (P := P) (ps := ps) (closure_ok (L.has I.ok)) I.ok.glob (I.mod.glob.keeps I.bk) hcode (TB.code.keeps I.bk) hP' ht hc (TB.bm.keeps I.bk) fun ctv g tk hx hsz => ?_
    have I1 : Inv X pins σ H { s with heap := g, toks := tk } := I.kept hx
    have I2 := I1.laid (a := g.objs.size) (o := Pin (PySem.W.kla_obj "<lambda>" (X.env.qual ++ "<lambda>") params body scope (cloFrom X.env.cells scope.names []) ((X.mg "__name__").getD .none) c' ctv)) (t' := tk) (fun b u e => Heap.get?_push_of_some (h := g) _ e) (Nat.le_refl _) ⟨Heap.get?_push_size _ rfl, ⟨_, Heap.get?_push_size _ rfl⟩⟩
    have nF : H g.objs.size = none := I.hok.fresh hsz
    have hE : ∀ b o, H b = some o → (upd H g.objs.size (Pin (PySem.W.kla_obj "<lambda>" (X.env.qual ++ "<lambda>") params body scope (cloFrom X.env.cells scope.names []) ((X.mg "__name__").getD .none) c' ctv))) b = some o := fun b o e => by
      rw [upd_ne (ne_of_none e nF)]
      exact e
    exact ⟨.ref g.objs.size, _, I2, rfl, h _ _ (ExtN.of hE) (hT.ext hE) ⟨c', _, ctv, upd_same, hE _ _ hco⟩ nF⟩
theorem IsLam.up {X : Cx} {σ : L2.St} {H G : Hp} {f : Addr} {q : Str} {params : Arguments} {body : Expr} {scope : Scope} {clos : List (Str × Addr)} (h : IsLam H f q params body scope clos) (c : Caught X σ H G) : IsLam G f q params body scope clos := by
  obtain ⟨c', pm, ctv, h1, h2⟩ := h
  exact ⟨c', pm, ctv, c.some h1, c.some h2⟩
/-! ### a def is called, this frame's cells being known meanwhile -/
def tCallP (X : Cx) (sp : Sp) (t : TA) : TE := fun σ H Q => t σ H fun vs H1 => ∀ G, Caught X σ H1 G → sp vs G (fun v H' => Q v (off X.env.cells H')) C8.E0
theorem cells_apart {pins : List (Addr × Obj)} {σ : L2.St} {H : Hp} {s : Shared} (I : Inv X pins σ H s) (hfn : ∀ y, X.fn y = true) : (∀ b, Cell X.env.cells b → X.base.get? b = none) ∧ ∀ b, Cell X.env.cells b → b ∉ frs X.stack := by
  have ab : ∀ b, Cell X.env.cells b → X.s_0.heap.objs.size ≤ b := fun b ⟨y, e⟩ => I.ok.cab y b (hfn y) e
  refine ⟨fun b c => Heap.get?_none_of_le (Nat.le_trans I.ok.bsz (ab b c)), fun b c hm => ?_⟩
  rcases List.mem_cons.mp (I.stkSub b hm) with z | z
  · obtain ⟨y, e⟩ := c
    exact I.cne y b e z
  · obtain ⟨_, o, ho, _⟩ := I.ok.funs.mem z
    exact absurd (Nat.lt_of_lt_of_le (Heap.lt_size ho) (ab b c)) (Nat.lt_irrefl _)
section
variable {CX : CXT} {k j : Nat} {ps : List Str} {sp : Sp} {E : XK} {x : Str} {p pos : Pos} {e : Expr} {es : List Expr} {t : TA} {to : TE}
theorem pe_cP (c : RS.Cal X.prog X.w X.K X.mg X.base C8.CX0 k x ps sp) (hr : Room j X.A) (hk : k ≤ j) (hfn : ∀ y, X.fn y = true) (hg : Gl X x) (ha : PA X (e :: es) t) (hdb : (x == ("__debug__" : Str)) = false := by decide)
    (he : starEach (e :: es) X.env = (false, eval e X.env) :: starEach es X.env := by rfl) (hpl : (backTo pos (starEach es X.env)).any (·.1) = false := by rfl) :
    PE X (.Call (.Name x p) (e :: es) [] pos) (tCallP X sp t) := by
  obtain ⟨f, fd, F, hm, kp, hb⟩ := c.ex
  refine ⟨fun pins s σ H Q I h => ?_⟩
  refine wpAny_Call_Name_kw (ld_glob I hg hm ?_ hdb)
  refine PySem.W.callWith_K (h₀ := X.base) I.ok.mod.kin kp (thn (ha.run pos pins s σ H _ I h) fun us s1 ⟨vs, H1, I1, r, q⟩ => ⟨I1.kIn, ?_⟩) he hpl
  obtain ⟨G, up, ca⟩ := caught_of I1
  obtain ⟨nb, nf⟩ := cells_apart I1 hfn
  have q := q G ca
  have hl : us.length = ps.length := by rw [← r.length]; exact F.len _ _ _ _ q
  have b := hb s1 us I1.kIn (by rw [List.append_nil]; exact hl)
  rw [List.append_nil] at b
  refine wpAny_call (codeAny_mono (F.run X.A X.stack s1 G ⟨us, []⟩ us vs _ _ (hr.mono hk) (env_up up nb nf I1.env0) b r q) fun r s' hq => ?_)
  cases r with
  | error e => exact False.elim hq
  | ok fl =>
    cases fl with
    | ret u => exact I1.after (end_up up hq)
    | next => exact False.elim hq
    | brk => exact False.elim hq
    | cont => exact False.elim hq
/-! ### what was handed in is called -/
def tAct (P : Program) (w : World) (K : PySem.W.Frag) (mg : Str → Option Value) (base : Heap) (k : Nat) (E : L2.St → XK) (to : TE) : TE := fun σ H Q => to σ H fun x H1 => ∃ (f : Addr) (R : Hp → Prop) (tl : Hp → VK → XK → Prop), x = .ref f ∧ Act P w K mg base k f R tl ∧ R H1 ∧ tl H1 Q (E σ)
theorem pe_act {P : Program} {w : World} {K : PySem.W.Frag} {mg : Str → Option Value} {base : Heap} {a : Str} {p1 p2 : Pos} {E : L2.St → XK} (eP : X.prog = P) (ew : X.w = w) (eK : X.K = K) (eg : X.mg = mg) (eb : X.base = base) (hx : ∀ σ, PassesAt (L2.CX X.prog X.w) X σ (E σ)) (hr : Room j X.A) (hk : k ≤ j) (ho : PE X (.Name a p1) to) : PE X (.Call (.Name a p1) [] [] p2) (tAct P w K mg base k E to) := by
  subst eP ew eK eg eb
  refine ⟨fun pins s σ H Q I h => ?_⟩
  refine wpAny_Call_Name_kw (thn (ho.run pins s σ H _ I h) fun u s1 ⟨v, H1, I1, r1, f, R, tl, ev, A, hR, q⟩ => ?_)
  subst ev
  obtain rfl : u = Value.ref f := r1
  refine PySem.W.callWith_F0 (first := []) (A.fn s1 H1 hR I1.hok) ?_
  refine wpAny_call (codeAny_mono (A.run X.A X.stack s1 H1 Q (E σ) (hr.mono hk) I1.env0 hR q) fun r s' hq => ?_)
  cases r with
  | error e => exact hx σ pins H1 s1 e s' I1 hq
  | ok fl =>
    cases fl with
    | ret u => exact I1.after hq
    | next => exact False.elim hq
    | brk => exact False.elim hq
    | cont => exact False.elim hq
end
end
end LM
set_option Elab.async false
set_option maxRecDepth 100000
namespace RS
open PySem PySem.Spec PyProof.Rows L2 GX
theorem sameNew {H H1 : Hp} {a : Addr} {o : HO} (s : Same H H1) (h : H1 a = none) : Same H (upd H1 a o) := fun b u e => by
  rw [upd_ne (ne_of_none (s _ _ e) h)]
  exact s _ _ e
end RS
set_option Elab.async false
set_option maxRecDepth 100000
set_option maxHeartbeats 4000000
namespace RS
open PySem PySem.Spec PyProof.Rows L2 GX
theorem catA_any {K : PySem.W.Frag} {H : Hp} {a b : Addr} {xs ys : List V} {Q : VK} (ha : SqT K H a xs) (hb : SqT K H b ys) (hz : xs.length + ys.length ≤ sizeLine) (q : ∀ p H', Same H H' → SqT K H' p (xs ++ ys) → Q (.ref p) H') : rCatA K (.ref a) (.ref b) H Q :=
  ⟨a, b, xs, ys, rfl, rfl, ha, hb, hz, fun e => q b H (Same.refl H) (by rw [e]; exact hb), fun _ e => q a H (Same.refl H) (by rw [e, List.append_nil]; exact ha), fun _ _ p hp => q p _ (sameNew (Same.refl H) hp) (SqT.of upd_same)⟩
theorem slA_any {K : PySem.W.Frag} {H : Hp} {a : Addr} {xs : List V} {lo hi : Option Int} {Q : VK} (ha : SqT K H a xs) (q : ∀ p H', Same H H' → SqT K H' p (cutV xs lo hi) → Q (.ref p) H') : rSlA K (.ref a) lo hi H Q :=
  ⟨a, xs, rfl, ha, fun ⟨e1, e2⟩ => q a H (Same.refl H) (by
    have : cutV xs lo hi = xs := by
      unfold cutV
      rw [e1, e2, List.drop_zero, Nat.sub_zero, List.take_length]
    rw [this]
    exact ha), fun _ p hp => q p _ (sameNew (Same.refl H) hp) (SqT.of upd_same)⟩
end RS
set_option Elab.async false
set_option maxRecDepth 100000
set_option maxHeartbeats 4000000
namespace RS
open PySem PySem.Spec PyProof.Rows L2 GX LM
/-! ### what plans may not be made of -/
/-- an error class without fields -/
structure PlE (K : PySem.W.Frag) (mg : Str → Option Value) (nm : Str) (C : Addr) : Prop where
  x : PySem.W.excIn K C [.type "ValueError", .type "Exception", .type "BaseException", .type "object"] "ValueError.__new__" = true
  g : mg nm = some (.ref C)
  k : PySem.W.keepIn K (.ref C) = true
  b : PySem.W.subIn K (.ref C) (.type "BaseException") = some true
  t : PySem.W.typeIn K (.ref C) = some (.type "type")
def okLen (z : Int) : Bool := decide (1 ≤ z) && decide (z ≤ 1000000)
def intsD (zs : List Int) : PyData := .list (zs.map .int)
def OkLz (zs : List Int) : Prop := 1 ≤ zs.length ∧ zs.length ≤ 40 ∧ ∀ z ∈ zs, okLen z = true
section
variable {P : Program} {w : World} {K : PySem.W.Frag} {mg : Str → Option Value} {base : Heap}
def spLenE (K : PySem.W.Frag) (CL p : Addr) : Sp := fun vs H _ E => ∃ (vl : V) (zs : List Int), vs = [vl] ∧ Dp K H vl (intsD zs) ∧ zs.length ≤ 1000 ∧ ¬ OkLz zs ∧ Tab H p ∧ ∀ H', Same H H' → E (.ref CL) none H'
theorem check_lengthsE_ok {c p CL : Addr} (D : DefAt K mg "check_lengths" s_check_lengths c) (T : Txt K mg) (TB : GxR.TabB base mg c p) (X : PlE K mg "BadLengths" CL) (cN : Cal P w K mg base CX0 1 "is_number" ["value"] (spNum K)) : Cal P w K mg base (L2.CX P w) 3 "check_lengths" ["lengths"] (spLenE K CL p) := by
  have sc := scCheckLengths
  obtain ⟨tA, hA⟩ := T.lengths
  obtain ⟨tB, hB⟩ := T.length
  refine def_ok D sc (fun vs H Q E h => ?_) (fun _ _ _ _ _ _ us hl => match us, hl with | [_], _ => rfl) (fun f A outer s H vs Q E hr h => ?_)
  · obtain ⟨vl, ls, rfl, _⟩ := h
    rfl
  · obtain ⟨vl, zs, rfl, hl, lz, bad, ht, k⟩ := h
    refine ⟨_, (pss_cons (ps_if ((pw_or (pt_not (pt_val (pe_callB call_isiD (by rfl) T.isinstance (by decide +kernel) (pa_cons (pv 0) (pa_cons (pe_bltn (v := V.ty "list") (u := Value.type "list") (by rfl) T.list_ (by decide +kernel) rfl) pa_nil))))) (pw_or1 (pt_not (pt_chain op_le op_le pe_int (pe_callB call_lenD (by rfl) T.len PySem.boot_len (pa_cons (pv 0) pa_nil)) (pe_glob (v := V.int 40) (by rfl) hA ⟨_, rfl⟩))))).pt) (pss_one (ps_raise rfl (takes_of rfl rfl rfl rfl) (L2.pmk_own PySem.F.excBase_ValueError X.x X.g X.k (raises_own X.b X.t) (by rfl)))) pss_nil) (pss_one (ps_if (pt_not (pt_val (pe_all (own := [("length", 1)])  hr rfl T.all TB rfl rfl sc.nd (blkOk_by (N := ["lengths", "length"]) (sc := defScope s_check_lengths) (own := [("length", 1)]) (by decide +kernel)) (by decide +kernel) rfl rfl (pi_list (pv 0)) (fun _ _ _ _ _ _ _ => (pg_name (i := 1) sc.nd rfl (Or.inl rfl))) (fun _ _ _ _ _ _ _ hr => pe_and (pe_c cN hr (by decide) (by rfl) pass0 (pa_cons (pv 1) pa_nil)) (pe_one (pe_chain op_le op_le pe_int (pv 1) (pe_glob (v := V.int 1000000) (by rfl) hB ⟨_, rfl⟩))))))) (pss_one (ps_raise rfl (takes_of rfl rfl rfl rfl) (L2.pmk_own PySem.F.excBase_ValueError X.x X.g X.k (raises_own X.b X.t) (by rfl)))) pss_nil))), ?_⟩
    refine ⟨_, rfl, _, _, _, rfl, by simp, hl, _, rfl, ?_⟩
    refine iteF ⟨_, rfl, _, _, (zs.map PyData.int).length, rfl, hl, rfl, _, _, rfl, rfl, _, rfl, ?_⟩
    rw [List.length_map]
    by_cases c1 : 1 ≤ zs.length
    · rw [show decide ((1 : Int) ≤ (zs.length : Nat)) = true from decide_eq_true (by omega)]
      refine iteT ⟨_, _, rfl, rfl, _, rfl, ?_⟩
      by_cases c2 : zs.length ≤ 40
      · rw [show decide (((zs.length : Nat) : Int) ≤ 40) = true from decide_eq_true (by omega)]
        refine iteF ?_
        cases hl with
        | @lst a xs _ hS hI =>
          refine ⟨_, rfl, a, rfl, ⟨xs, hS⟩, ht, ?_⟩
          have lx : xs.length = zs.length := by rw [dpLen hI, List.length_map]
          refine all_by xs.length (fun i H' => Same H H' ∧ ∀ z ∈ zs.take i, okLen z = true) ⟨Same.refl H, fun z h => nomatch h⟩ (fun i H' hi ⟨sm, hz⟩ => ?_) (fun H' ⟨sm, hz⟩ => ?_)
          · refine ⟨⟨xs, xs[i], sm.seq hS, List.getElem?_eq_getElem hi⟩, fun y H2 ⟨e, hy⟩ => ?_⟩
            have ey := hy xs (sm.seq hS)
            obtain ⟨d, ed, hd⟩ := dpGet hI ey
            obtain ⟨n, en, rfl⟩ : ∃ n, zs[i]? = some n ∧ d = PyData.int n := by
              rw [List.getElem?_map] at ed
              cases q : zs[i]? with
              | none => rw [q] at ed; cases ed
              | some b => rw [q] at ed; exact ⟨b, rfl, (Option.some.inj ed).symm⟩
            cases hd
            subst e
            refine ⟨rfl, _, rfl, _, _, rfl, .int n, _, rfl, ?_⟩
            have hn : isNum (.int n) = true := by simp [isNum, isI, isT, tyN]
            rw [hn]
            refine iteT ⟨_, rfl, _, _, rfl, rfl, _, rfl, ?_⟩
            by_cases d1 : 1 ≤ n
            · rw [decide_eq_true d1]
              refine iteT ⟨_, _, rfl, rfl, _, rfl, ?_⟩
              by_cases d2 : n ≤ 1000000
              · rw [decide_eq_true d2]
                refine ⟨fun _ => .mk hi ⟨sm, fun z hz' => ?_⟩, fun z => Bool.noConfusion z⟩
                rw [List.take_add_one, en] at hz'
                rcases List.mem_append.mp hz' with h | h
                · exact hz z h
                · rw [show z = n by simpa using h]
                  unfold okLen
                  rw [decide_eq_true d1, decide_eq_true d2]
                  rfl
              · rw [decide_eq_false d2]
                exact ⟨fun z => Bool.noConfusion z, fun _ => ⟨_, rfl, iteT (k _ sm)⟩⟩
            · rw [decide_eq_false d1]
              exact iteF ⟨false, rfl, fun z => Bool.noConfusion z, fun _ => ⟨_, rfl, iteT (k _ sm)⟩⟩
          · refine absurd ⟨c1, c2, fun z h => hz z ?_⟩ bad
            rw [lx, List.take_length]
            exact h
      · rw [show decide (((zs.length : Nat) : Int) ≤ 40) = false from decide_eq_false (by omega)]
        exact iteT (k _ (Same.refl H))
    · rw [show decide ((1 : Int) ≤ (zs.length : Nat)) = false from decide_eq_false (by omega)]
      exact iteF ⟨_, rfl, iteT (k _ (Same.refl H))⟩
def spWaysE (CM : Addr) : Sp := fun vs H _ E => ∃ (n : Int), vs = [.int n] ∧ (n < 2 ∨ 6 < n) ∧ E (.ref CM) none H
theorem check_waysE_ok {c CM : Addr} (D : DefAt K mg "check_ways" s_check_ways c) (T : Txt K mg) (X : PlE K mg "BadRoom" CM) (cN : Cal P w K mg base CX0 1 "is_number" ["value"] (spNum K)) : Cal P w K mg base (L2.CX P w) 2 "check_ways" ["ways"] (spWaysE CM) := by
  have sc := scCheckWays
  obtain ⟨tA, hA⟩ := T.leastw
  obtain ⟨tB, hB⟩ := T.mostw
  refine def_ok D sc (fun vs H Q E h => ?_) (fun _ _ _ _ _ _ us hl => match us, hl with | [_], _ => rfl) (fun f A outer s H vs Q E hr h => ?_)
  · obtain ⟨n, rfl, _⟩ := h
    rfl
  · obtain ⟨n, rfl, h1, k⟩ := h
    refine ⟨_, (pss_one (ps_if ((pw_or (pt_not (pt_val (pe_c cN hr (by decide) (by rfl) pass0 (pa_cons (pv 0) pa_nil)))) (pw_or1 (pt_not (pt_chain op_le op_le (pe_glob (v := V.int 2) (by rfl) hA ⟨_, rfl⟩) (pv 0) (pe_glob (v := V.int 6) (by rfl) hB ⟨_, rfl⟩))))).pt) (pss_one (ps_raise rfl (takes_of rfl rfl rfl rfl) (L2.pmk_own PySem.F.excBase_ValueError X.x X.g X.k (raises_own X.b X.t) (by rfl)))) pss_nil)), ?_⟩
    refine ⟨_, rfl, _, _, rfl, .int n, _, rfl, ?_⟩
    have hn : isNum (.int n) = true := by simp [isNum, isI, isT, tyN]
    rw [hn]
    refine iteF ⟨_, rfl, _, _, rfl, rfl, _, rfl, ?_⟩
    by_cases c1 : 2 ≤ n
    · rw [decide_eq_true c1]
      refine iteT ⟨_, _, rfl, rfl, _, rfl, ?_⟩
      rw [decide_eq_false (show ¬ n ≤ 6 by omega)]
      exact iteT k
    · rw [decide_eq_false c1]
      exact iteF ⟨_, rfl, iteT k⟩
/-- lengths that may not be, or good ones and ways that may not be -/
def spMergE (K : PySem.W.Frag) (CL CM p : Addr) : Sp := fun vs H _ E => ∃ (vl : V) (n : Int), vs = [vl, .int n] ∧ Tab H p ∧
  ((∃ zs : List Int, Dp K H vl (intsD zs) ∧ zs.length ≤ 1000 ∧ ¬ OkLz zs ∧ ∀ H', Same H H' → E (.ref CL) none H') ∨ (∃ ls : List Nat, Dp K H vl (lensD ls) ∧ OkLens ls ∧ (n < 2 ∨ 6 < n) ∧ ∀ H', Same H H' → E (.ref CM) none H'))
end
end RS
set_option Elab.async false
set_option maxRecDepth 100000
set_option maxHeartbeats 4000000
namespace RS
open PySem PySem.Spec PyProof.Rows L2 GX LM
/-! ### any nest of tuples and numbers -/
mutual
def anyP : PyData → Prop
  | .int _ => True
  | .tuple ds => anyPs ds
  | _ => False
def anyPs : List PyData → Prop
  | [] => True
  | d :: ds => anyP d ∧ anyPs ds
end
mutual
def leafI : PyData → List Int
  | .int i => [i]
  | .tuple ds => leafsI ds
  | _ => []
def leafsI : List PyData → List Int
  | [] => []
  | d :: ds => leafI d ++ leafsI ds
end
mutual
def fitP (n : Nat) : PyData → Bool
  | .tuple ds => decide (2 ≤ ds.length) && decide (ds.length ≤ n) && fitPs n ds
  | _ => true
def fitPs (n : Nat) : List PyData → Bool
  | [] => true
  | d :: ds => fitP n d && fitPs n ds
end
theorem anyPs_iff : ∀ {ds : List PyData}, anyPs ds ↔ ∀ d ∈ ds, anyP d
  | [] => by simp [anyPs]
  | d :: ds => by
    unfold anyPs
    rw [anyPs_iff]
    simp
theorem anyPs_app {xs ys : List PyData} : anyPs (xs ++ ys) ↔ anyPs xs ∧ anyPs ys := by
  rw [anyPs_iff, anyPs_iff, anyPs_iff]
  constructor
  · exact fun h => ⟨fun d hd => h d (List.mem_append_left _ hd), fun d hd => h d (List.mem_append_right _ hd)⟩
  · rintro ⟨h1, h2⟩ d hd
    rcases List.mem_append.mp hd with q | q
    · exact h1 d q
    · exact h2 d q
theorem leafsI_app : ∀ xs ys : List PyData, leafsI (xs ++ ys) = leafsI xs ++ leafsI ys
  | [], _ => rfl
  | d :: xs, ys => by
    show leafI d ++ leafsI (xs ++ ys) = (leafI d ++ leafsI xs) ++ leafsI ys
    rw [leafsI_app xs ys, List.append_assoc]
theorem fitPs_app {n : Nat} : ∀ xs ys : List PyData, fitPs n (xs ++ ys) = (fitPs n xs && fitPs n ys)
  | [], _ => by simp [fitPs]
  | d :: xs, ys => by
    show (fitP n d && fitPs n (xs ++ ys)) = ((fitP n d && fitPs n xs) && fitPs n ys)
    rw [fitPs_app xs ys, Bool.and_assoc]
theorem anyP_cases {d : PyData} (h : anyP d) : (∃ i, d = .int i) ∨ ∃ ds, d = .tuple ds ∧ anyPs ds := by
  cases d with
  | int i => exact .inl ⟨i, rfl⟩
  | tuple ds => exact .inr ⟨ds, rfl, h⟩
  | none => exact h.elim
  | bool _ => exact h.elim
  | str _ => exact h.elim
  | list _ => exact h.elim
  | dict _ => exact h.elim
theorem len_sizePs : ∀ ds : List PyData, ds.length ≤ sizePs ds
  | [] => Nat.le_refl _
  | d :: ds => by
    have h1 := len_sizePs ds
    have h2 : 1 ≤ sizeP d := by cases d <;> simp [sizeP]
    show ds.length + 1 ≤ sizeP d + sizePs ds
    omega
def upto (m : Nat) : List Int := (List.range m).map fun j => ((j : Nat) : Int)
/-- a plan of m runs, at most n at a time -/
def OkG (m n : Nat) (d : PyData) : Prop := fitP n d = true ∧ (leafI d).Perm (upto m)
theorem valV_in {js : List Nat} {i : Nat} (h : i ∈ js) : valV (keysD js) (Sum.inl (i : Int)) = some (V.bl true) := by
  unfold keysD
  induction js with
  | nil => cases h
  | cons j js ih =>
    rw [List.map_cons]
    by_cases e : i = j
    · subst e
      simp [valV]
    · rw [valV_neg]
      · exact ih ((List.mem_cons.mp h).resolve_left e)
      · intro z
        have : (j : Int) = (i : Int) := Sum.inl.inj z
        omega
theorem pigeon : ∀ (m : Nat) (js : List Nat), js.Nodup → (∀ j ∈ js, j < m) → js.length ≤ m ∧ (m ≤ js.length → js.Perm (List.range m))
  | 0, js, _, sub => by
    have : js = [] := List.eq_nil_iff_forall_not_mem.mpr fun j hj => absurd (sub j hj) (by omega)
    subst this
    exact ⟨Nat.le_refl _, fun _ => by simp⟩
  | m + 1, js, nd, sub => by
    by_cases c : m ∈ js
    · have p := List.perm_cons_erase c
      have nd2 : (js.erase m).Nodup := nd.erase m
      obtain ⟨h1, h2⟩ := pigeon m (js.erase m) nd2 fun j hj => by
        have h3 := sub j (List.mem_of_mem_erase hj)
        have h4 : j ≠ m := fun z => by
          rw [z] at hj
          exact nd.not_mem_erase hj
        omega
      have e := p.length_eq
      rw [List.length_cons] at e
      refine ⟨by omega, fun h => ?_⟩
      rw [List.range_succ]
      exact p.trans (((h2 (by omega)).cons m).trans (List.perm_append_comm (l₁ := [m]) (l₂ := List.range m)))
    · obtain ⟨h1, h2⟩ := pigeon m js nd fun j hj => by
        have h3 := sub j hj
        have h4 : j ≠ m := fun z => c (by rw [← z]; exact hj)
        omega
      exact ⟨by omega, fun h => by omega⟩
theorem full_perm {js : List Nat} {m : Nat} (nd : js.Nodup) (sub : ∀ j ∈ js, j < m) (h : m ≤ js.length) : js.Perm (List.range m) := (pigeon m js nd sub).2 h
section
variable {P : Program} {w : World} {K : PySem.W.Frag} {mg : Str → Option Value} {base : Heap}
def spPlanE (K : PySem.W.Frag) (CP : Addr) : Sp := fun vs H _ E => ∃ (vl vp : V) (ls : List Nat) (n : Nat) (d : PyData), vs = [vl, .int (n : Nat), vp] ∧ Dp K H vl (lensD ls) ∧ Dp K H vp d ∧ anyP d ∧ sizeP d ≤ 100000 ∧ ¬ OkG ls.length n d ∧ ls.length ≤ 40 ∧ ∀ H', Same H H' → E (.ref CP) none H'
theorem check_planE_ok {c CP : Addr} (D : DefAt K mg "check_plan" s_check_plan c) (T : Txt K mg) (X : PlE K mg "BadPlan" CP) (cN : Cal P w K mg base CX0 1 "is_number" ["value"] (spNum K)) : Cal P w K mg base (L2.CX P w) 2 "check_plan" ["lengths", "ways", "plan"] (spPlanE K CP) := by
  have sc := scCheckPlan
  obtain ⟨tA, hA⟩ := T.leastw
  refine def_ok D sc (fun vs H Q E h => ?_) (fun _ _ _ _ _ _ us hl => match us, hl with | [_, _, _], _ => rfl) (fun f A outer s H vs Q E hr h => ?_)
  · obtain ⟨vl, vp, ls, n, d, rfl, _⟩ := h
    rfl
  · obtain ⟨vl, vp, ls, n, d, rfl, hl, hp, ok, big, bad, l40, k⟩ := h
    have hu := hr.units
    have sz : (1000000 : Nat) ≤ sizeLine := by decide
    refine ⟨_, (pss_cons (ps_par (i := 3) (j := 4) rfl sc.nd rfl rfl (by decide) rfl rfl (pa_cons pe_dnewK (pa_cons (pe_lst (pa_cons (pv 2) pa_nil)) pa_nil)) (by rfl)) (pss_cons (ps_while (passes_of rfl) (pt_truth (pv 4) (by intro _; rfl)) (pss_cons (ps_set (i := 5) sc.nd rfl (Or.inl rfl) (pe_bm0 PySem.F.plainAttrs_list PySem.F.slot_list_pop PySem.F.type_list_pop mt_pop (pv 4))) (pss_one (ps_if (pt_val (pe_callB call_isiD (by rfl) T.isinstance (by decide +kernel) (pa_cons (pv 5) (pa_cons (pe_bltn (v := V.ty "tuple") (u := Value.type "tuple") (by rfl) T.tuple_ (by decide +kernel) rfl) pa_nil)))) (pss_cons (ps_if (pt_not (pt_chain op_le op_le (pe_glob (v := V.int 2) (by rfl) hA ⟨_, rfl⟩) (pe_callB call_lenD (by rfl) T.len PySem.boot_len (pa_cons (pv 5) pa_nil)) (pv 1))) (pss_one (ps_raise rfl (takes_of rfl rfl rfl rfl) (L2.pmk_own PySem.F.excBase_ValueError X.x X.g X.k (raises_own X.b X.t) (by rfl)))) pss_nil) (pss_one (ps_expr (pe_bm PySem.F.plainAttrs_list PySem.F.slot_list_extend PySem.F.type_list_extend mt_extT (pv 4) (pa_cons (pv 5) pa_nil))))) (pss_one (ps_if ((pw_or (pt_not (pt_val (pe_c cN hr (by decide) (by rfl) pass0 (pa_cons (pv 5) pa_nil)))) (pw_or (pt_not (pt_chain op_le op_lt pe_int (pv 5) (pe_callB call_lenD (by rfl) T.len PySem.boot_len (pa_cons (pv 0) pa_nil)))) (pw_or1 (pt_cmp (pc_din (le64 hu) (pv 5) (pv 3)))))).pt) (pss_one (ps_raise rfl (takes_of rfl rfl rfl rfl) (L2.pmk_own PySem.F.excBase_ValueError X.x X.g X.k (raises_own X.b X.t) (by rfl)))) (pss_one (ps_dput (le64 hu) (pv 3) (pv 5) pe_bl (by rfl))))))))) (pss_one (ps_if (pt_cmpR op_lt (pe_callB len_dic (by rfl) T.len PySem.boot_len (pa_cons (pv 3) pa_nil)) (pe_callB call_lenD (by rfl) T.len PySem.boot_len (pa_cons (pv 0) pa_nil)) (nomark _)) (pss_one (ps_raise rfl (takes_of rfl rfl rfl rfl) (L2.pmk_own PySem.F.excBase_ValueError X.x X.g X.k (raises_own X.b X.t) (by rfl)))) pss_nil)))), ?_⟩
    intro p hp0
    refine ⟨_, rfl, by show 1 ≤ sizeLine; decide, fun q hq => ⟨_, _, rfl, ?_⟩⟩
    refine ⟨fun m σ H' => ∃ (xs : List V) (ds : List PyData) (js : List Nat) (v5 : Option V), σ = [some vl, some (.int (n : Nat)), some vp, some (.ref p), some (.ref q), v5] ∧ Same H H' ∧
      H' p = some (.dK (keysD js)) ∧ H' q = some (.lst xs) ∧ DpAll K H xs ds ∧ anyPs ds ∧ sizePs ds ≤ 100000 ∧ ¬ (fitPs n ds = true ∧ (js.map (fun j => ((j : Nat) : Int)) ++ leafsI ds).Perm (upto ls.length)) ∧ js.Nodup ∧ (∀ j ∈ js, j < ls.length) ∧ m = sizePs ds, ⟨_, [vp], [d], [], none, rfl, fun b o e => ?_, ?_, upd_same, ?_, ⟨ok, trivial⟩, by simpa [sizePs] using big, ?_, List.nodup_nil, (fun _ h => nomatch h), rfl⟩, ?_⟩
    · rw [upd_ne (ne_of_none e (upd_no hq)), upd_ne (ne_of_none e hp0)]
      exact e
    · rw [upd_ne (fun z => by rw [z, upd_same] at hq; cases hq), upd_same]
      rfl
    · exact .cons hp .nil
    · rintro ⟨z1, z2⟩
      exact bad ⟨by simpa [fitPs] using z1, by simpa [leafsI] using z2⟩
    rintro m σ H' ⟨xs, ds, js, v5, rfl, sm, hP, hQ, hd, okd, szd, nb, nd, sub, em⟩
    have npq : p ≠ q := fun z => by rw [z, upd_same] at hq; cases hq
    refine ⟨_, rfl, !xs.isEmpty, .inl ⟨xs, SqL.of hQ, rfl⟩, ?_⟩
    have ljs : js.length ≤ ls.length := (pigeon _ js nd sub).1
    rcases xs.eq_nil_or_concat with rfl | ⟨xs0, y, rfl⟩
    · cases hd
      refine iteF ?_
      have lj : js.length < ls.length := by
        rcases Nat.lt_or_ge js.length ls.length with h | h
        · exact h
        · refine absurd ⟨rfl, ?_⟩ nb
          rw [leafsI, List.append_nil]
          exact (full_perm nd sub h).map _
      refine ⟨_, rfl, p, _, rfl, hP, _, rfl, _, _, (ls.map fun n => PyData.int (n : Nat)).length, rfl, dp_same sm _ hl, rfl, _, _, rfl, rfl, _, rfl, ?_⟩
      refine iteT' (decide_eq_true ?_) (k _ sm)
      show ((keysD js).length : Int) < ((ls.map fun n => PyData.int (n : Nat)).length : Nat)
      unfold keysD
      rw [List.length_map, List.length_map]
      omega
    · rw [List.concat_eq_append] at hQ hd ⊢
      obtain ⟨ds0, e, rfl, hd0, he⟩ := dpAll_snoc hd
      obtain ⟨okd0, oke⟩ := anyPs_app.mp okd
      have oke : anyP e := oke.1
      rw [sizePs_app] at szd
      refine iteT' (by simp) ⟨_, fun _ _ h => h, ?_⟩
      have hQ1 : upd H' q (.lst xs0) q = some (.lst xs0) := upd_same
      have hP1 : upd H' q (.lst xs0) p = some (.dK (keysD js)) := (upd_ne npq).trans hP
      have sm1 : ∀ u, Same H (upd H' q u) := fun u b o e => by
        rw [upd_ne (ne_of_none e (upd_no hq))]
        exact sm b o e
      have he1 := dp_same (sm1 (.lst xs0)) _ he
      refine ⟨_, rfl, .inl ⟨rfl, _, SqL.of hQ⟩, q, _, y, rfl, rfl, hQ, by simp, ?_⟩
      rw [List.dropLast_concat]
      refine ⟨_, rfl, _, _, _, rfl, by simp, he1, _, rfl, ?_⟩
      rcases anyP_cases oke with ⟨i, rfl⟩ | ⟨es, rfl, oks⟩
      · cases he1
        have hn : isNum (.int i) = true := by simp [isNum, isI, isT, tyN]
        refine iteF ⟨_, rfl, _, _, rfl, .int _, _, rfl, ?_⟩
        rw [hn]
        refine iteF ⟨_, rfl, _, _, rfl, rfl, _, rfl, ?_⟩
        by_cases c0 : 0 ≤ i
        · rw [decide_eq_true c0]
          obtain ⟨i, rfl⟩ : ∃ j : Nat, i = (j : Nat) := ⟨i.toNat, by omega⟩
          refine iteT ⟨_, rfl, _, _, (ls.map fun n => PyData.int (n : Nat)).length, rfl, dp_same (sm1 _) _ hl, rfl, _, _, rfl, rfl, _, rfl, ?_⟩
          rw [List.length_map]
          by_cases c1 : i < ls.length
          · rw [show decide (((i : Nat) : Int) < (ls.length : Nat)) = true from decide_eq_true (by omega)]
            refine iteF ⟨_, rfl, _, rfl, p, _, rfl, DGet.k (k := Sum.inl (i : Int)) hP1, _, rfl, ?_⟩
            by_cases c2 : i ∈ js
            · rw [valV_in c2]
              exact iteT (k _ (sm1 _))
            · rw [valV_js c2]
              refine iteF ⟨_, rfl, _, rfl, p, _, rfl, DPut.k (k := Sum.inl (i : Int)) hP1 ?_, ?_⟩
              · show (keysD js).length < sizeLine
                refine small1000 ?_
                unfold keysD
                rw [List.length_map]
                omega
              · refine ⟨_, ?_, xs0, ds0, js ++ [i], _, rfl, fun b o e => ?_, ?_, (upd_ne (Ne.symm npq)).trans hQ1, hd0, okd0, by omega, ?_, ?_, ?_, rfl⟩
                · rw [em, sizePs_app]
                  show sizePs ds0 < sizePs ds0 + (1 + 0)
                  omega
                · rw [upd_ne (ne_of_none e hp0)]
                  exact sm1 _ _ _ e
                · rw [upd_same, putK_new _ (valV_js c2)]
                  unfold keysD
                  rw [List.map_append]
                  rfl
                · rintro ⟨z1, z2⟩
                  refine nb ⟨by rw [fitPs_app, z1]; rfl, List.Perm.trans ?_ z2⟩
                  rw [leafsI_app, List.map_append, List.append_assoc]
                  show (_ ++ (leafsI ds0 ++ ([(i : Int)] ++ []))).Perm (_ ++ ([(i : Int)] ++ leafsI ds0))
                  rw [List.append_nil]
                  exact List.perm_append_comm.append_left _
                · refine List.nodup_append.mpr ⟨nd, by simp, fun a ha b hb => ?_⟩
                  rw [List.mem_singleton.mp hb]
                  exact fun z => c2 (by rw [← z]; exact ha)
                · intro j hj
                  rcases List.mem_append.mp hj with h | h
                  · exact sub j h
                  · rw [List.mem_singleton.mp h]; exact c1
          · rw [show decide (((i : Nat) : Int) < (ls.length : Nat)) = false from decide_eq_false (by omega)]
            exact iteT (k _ (sm1 _))
        · rw [decide_eq_false c0]
          exact iteF ⟨_, rfl, iteT (k _ (sm1 _))⟩
      · refine iteT ⟨_, rfl, _, _, _, rfl, he1, rfl, _, _, rfl, rfl, _, rfl, ?_⟩
        by_cases c1 : 2 ≤ es.length
        · rw [show decide ((2 : Int) ≤ (es.length : Nat)) = true from decide_eq_true (by omega)]
          refine iteT ⟨_, rfl, _, _, rfl, rfl, _, rfl, ?_⟩
          by_cases c2 : es.length ≤ n
          · rw [show decide (((es.length : Nat) : Int) ≤ (n : Nat)) = true from decide_eq_true (by omega)]
            refine iteF ?_
            cases he with
            | @tup a zs _ hS hI =>
              have lz : zs.length = es.length := dpLen hI
              have lx := dpLen hd0
              have szt : sizeP (.tuple es) = 1 + sizePs es := rfl
              have sz1 : sizePs [PyData.tuple es] = 1 + sizePs es + 0 := rfl
              refine ⟨_, rfl, .inl ⟨rfl, _, SqL.of hQ1⟩, _, rfl, q, a, xs0, zs, rfl, rfl, hQ1, sqT_same (sm1 _) hS, ?_, ?_⟩
              · have l1 := len_sizePs ds0
                have l2 := len_sizePs es
                omega
              · refine ⟨_, ?_, xs0 ++ zs, ds0 ++ es, js, _, rfl, fun b o e => ?_, (upd_ne npq).trans hP1, upd_same, dpApp hd0 hI, anyPs_app.mpr ⟨okd0, oks⟩, by rw [sizePs_app]; omega, ?_, nd, sub, rfl⟩
                · rw [em, sizePs_app, sizePs_app]
                  omega
                · rw [upd_ne (ne_of_none e (upd_no hq))]
                  exact sm1 _ _ _ e
                · rintro ⟨z1, z2⟩
                  rw [fitPs_app, Bool.and_eq_true] at z1
                  refine nb ⟨?_, ?_⟩
                  · rw [fitPs_app, z1.1]
                    show (true && (fitP n (.tuple es) && true)) = true
                    unfold fitP
                    rw [decide_eq_true c1, decide_eq_true c2, z1.2]
                    rfl
                  · rw [leafsI_app]
                    rw [leafsI_app] at z2
                    show (_ ++ (leafsI ds0 ++ (leafsI es ++ []))).Perm _
                    rw [List.append_nil]
                    exact z2
          · rw [show decide (((es.length : Nat) : Int) ≤ (n : Nat)) = false from decide_eq_false (by omega)]
            exact iteT (k _ (sm1 _))
        · rw [show decide ((2 : Int) ≤ (es.length : Nat)) = false from decide_eq_false (by omega)]
          exact iteF ⟨_, rfl, iteT (k _ (sm1 _))⟩
end
end RS
set_option Elab.async false
set_option maxRecDepth 100000
set_option maxHeartbeats 4000000
namespace RS
open PySem PySem.Spec PyProof.Rows L2 GX LM
/-! ### error sides alone -/
section
variable {P : Program} {w : World} {K : PySem.W.Frag} {mg : Str → Option Value} {base : Heap}
def MergBad (K : PySem.W.Frag) (CL CM p : Addr) (vl : V) (n : Int) (H : Hp) (E : XK) : Prop := Tab H p ∧
  ((∃ zs : List Int, Dp K H vl (intsD zs) ∧ zs.length ≤ 1000 ∧ ¬ OkLz zs ∧ ∀ H', Same H H' → E (.ref CL) none H') ∨ (∃ ls : List Nat, Dp K H vl (lensD ls) ∧ OkLens ls ∧ (n < 2 ∨ 6 < n) ∧ ∀ H', Same H H' → E (.ref CM) none H'))
def spMergB (K : PySem.W.Frag) (CL CM p : Addr) (m : Nat) : Sp := fun vs H _ E => ∃ (vl : V) (n : Int) (rest : List V), vs = vl :: .int n :: rest ∧ rest.length = m ∧ MergBad K CL CM p vl n H E
theorem check_mergingE_ok {c CL CM p : Addr} (D : DefAt K mg "check_merging" s_check_merging c) (cL : Cal P w K mg base CX0 3 "check_lengths" ["lengths"] (spCheckLengths K p)) (cLE : Cal P w K mg base (L2.CX P w) 3 "check_lengths" ["lengths"] (spLenE K CL p)) (cWE : Cal P w K mg base (L2.CX P w) 2 "check_ways" ["ways"] (spWaysE CM)) :
    Cal P w K mg base (L2.CX P w) 4 "check_merging" ["lengths", "ways"] (spMergB K CL CM p 0) := by
  have sc := scCheckMerging
  refine def_ok D sc (fun vs H Q E h => ?_) (fun _ _ _ _ _ _ us hl => match us, hl with | [_, _], _ => rfl) (fun f A outer s H vs Q E hr h => ?_)
  · obtain ⟨vl, n, rest, rfl, hl, _⟩ := h
    simp [hl]
  · obtain ⟨vl, n, rest, rfl, hl, ht, b⟩ := h
    obtain rfl : rest = [] := List.length_eq_zero_iff.mp hl
    rcases b with ⟨zs, h1, h2, h3, h4⟩ | ⟨ls, h1, h2, h3, h4⟩
    · refine ⟨_, pss_cons (ps_expr (pe_c cLE hr (by decide) (by rfl) (passes_call (takes_of rfl rfl rfl rfl) fun _ _ _ _ h => h) (pa_cons (pv 0) pa_nil))) pss_never, ?_⟩
      exact ⟨_, rfl, vl, zs, rfl, h1, h2, h3, ht, h4⟩
    · refine ⟨_, (pss_cons (ps_expr (pe_c cL hr (by decide) (by rfl) pass0 (pa_cons (pv 0) pa_nil))) (pss_one (ps_expr (pe_c cWE hr (by decide) (by rfl) (passes_call (takes_of rfl rfl rfl rfl) fun _ _ _ _ h => h) (pa_cons (pv 1) pa_nil))))), ?_⟩
      exact ⟨_, rfl, vl, ls, rfl, h1, h2, ht, fun H' sm => ⟨_, rfl, n, rfl, h3, h4 H' sm⟩⟩
theorem sccostE : FnScope ["lengths", "ways", "plan", "moved", "left", "part", "merges", "inner"] ["lengths", "ways", "plan"] (defScope s_cost) := ⟨rfl, rfl, rfl, by decide +kernel, rfl, by decide +kernel, by decide +kernel⟩
theorem costE_ok {c CL CM p : Addr} (D : DefAt K mg "cost" s_cost c) (cM : Cal P w K mg base (L2.CX P w) 4 "check_merging" ["lengths", "ways"] (spMergB K CL CM p 0)) : Cal P w K mg base (L2.CX P w) 5 "cost" ["lengths", "ways", "plan"] (spMergB K CL CM p 1) := by
  have sc := sccostE
  refine def_ok D sc (fun vs H Q E h => ?_) (fun _ _ _ _ _ _ us hl => match us, hl with | [_, _, _], _ => rfl) (fun f A outer s H vs Q E hr h => ?_)
  · obtain ⟨vl, n, rest, rfl, hl, _⟩ := h
    simp [hl]
  · obtain ⟨vl, n, rest, rfl, hl, b⟩ := h
    obtain ⟨r, rfl⟩ : ∃ r, rest = [r] := by
      match rest, hl with
      | [r], _ => exact ⟨r, rfl⟩
    refine ⟨_, pss_cons (ps_expr (pe_c cM hr (by decide) (by rfl) (passes_call (takes_of rfl rfl rfl rfl) fun _ _ _ _ h => h) (pa_cons (pv 0) (pa_cons (pv 1) pa_nil)))) pss_never, ?_⟩
    exact ⟨_, rfl, _, rfl, vl, n, [], rfl, rfl, b⟩
theorem sccheapestE : FnScope ["lengths", "ways", "queue", "moved", "made", "_", "rows", "parts", "at", "length", "part"] ["lengths", "ways"] (defScope s_cheapest) := ⟨rfl, rfl, rfl, by decide +kernel, rfl, by decide +kernel, by decide +kernel⟩
theorem cheapestE_ok {c CL CM p : Addr} (D : DefAt K mg "cheapest" s_cheapest c) (cM : Cal P w K mg base (L2.CX P w) 4 "check_merging" ["lengths", "ways"] (spMergB K CL CM p 0)) : Cal P w K mg base (L2.CX P w) 5 "cheapest" ["lengths", "ways"] (spMergB K CL CM p 0) := by
  have sc := sccheapestE
  refine def_ok D sc (fun vs H Q E h => ?_) (fun _ _ _ _ _ _ us hl => match us, hl with | [_, _], _ => rfl) (fun f A outer s H vs Q E hr h => ?_)
  · obtain ⟨vl, n, rest, rfl, hl, _⟩ := h
    simp [hl]
  · obtain ⟨vl, n, rest, rfl, hl, b⟩ := h
    obtain rfl : rest = [] := List.length_eq_zero_iff.mp hl
    refine ⟨_, pss_cons (ps_expr (pe_c cM hr (by decide) (by rfl) (passes_call (takes_of rfl rfl rfl rfl) fun _ _ _ _ h => h) (pa_cons (pv 0) (pa_cons (pv 1) pa_nil)))) pss_never, ?_⟩
    exact ⟨_, rfl, _, rfl, vl, n, [], rfl, rfl, b⟩
theorem scneighboursE : FnScope ["lengths", "ways", "stretches"] ["lengths", "ways"] (defScope s_neighbours) := ⟨rfl, rfl, rfl, by decide +kernel, rfl, by decide +kernel, by decide +kernel⟩
theorem neighboursE_ok {c CL CM p : Addr} (D : DefAt K mg "neighbours" s_neighbours c) (cM : Cal P w K mg base (L2.CX P w) 4 "check_merging" ["lengths", "ways"] (spMergB K CL CM p 0)) : Cal P w K mg base (L2.CX P w) 5 "neighbours" ["lengths", "ways"] (spMergB K CL CM p 0) := by
  have sc := scneighboursE
  refine def_ok D sc (fun vs H Q E h => ?_) (fun _ _ _ _ _ _ us hl => match us, hl with | [_, _], _ => rfl) (fun f A outer s H vs Q E hr h => ?_)
  · obtain ⟨vl, n, rest, rfl, hl, _⟩ := h
    simp [hl]
  · obtain ⟨vl, n, rest, rfl, hl, b⟩ := h
    obtain rfl : rest = [] := List.length_eq_zero_iff.mp hl
    refine ⟨_, pss_cons (ps_expr (pe_c cM hr (by decide) (by rfl) (passes_call (takes_of rfl rfl rfl rfl) fun _ _ _ _ h => h) (pa_cons (pv 0) (pa_cons (pv 1) pa_nil)))) pss_never, ?_⟩
    exact ⟨_, rfl, _, rfl, vl, n, [], rfl, rfl, b⟩
theorem scpaperE : FnScope ["lengths", "ways", "stretches", "begin", "end"] ["lengths", "ways"] (defScope s_paper) := ⟨rfl, rfl, rfl, by decide +kernel, rfl, by decide +kernel, by decide +kernel⟩
theorem paperE_ok {c CL CM p : Addr} (D : DefAt K mg "paper" s_paper c) (cM : Cal P w K mg base (L2.CX P w) 4 "check_merging" ["lengths", "ways"] (spMergB K CL CM p 0)) : Cal P w K mg base (L2.CX P w) 5 "paper" ["lengths", "ways"] (spMergB K CL CM p 0) := by
  have sc := scpaperE
  refine def_ok D sc (fun vs H Q E h => ?_) (fun _ _ _ _ _ _ us hl => match us, hl with | [_, _], _ => rfl) (fun f A outer s H vs Q E hr h => ?_)
  · obtain ⟨vl, n, rest, rfl, hl, _⟩ := h
    simp [hl]
  · obtain ⟨vl, n, rest, rfl, hl, b⟩ := h
    obtain rfl : rest = [] := List.length_eq_zero_iff.mp hl
    refine ⟨_, pss_cons (ps_expr (pe_c cM hr (by decide) (by rfl) (passes_call (takes_of rfl rfl rfl rfl) fun _ _ _ _ h => h) (pa_cons (pv 0) (pa_cons (pv 1) pa_nil)))) pss_never, ?_⟩
    exact ⟨_, rfl, _, rfl, vl, n, [], rfl, rfl, b⟩
theorem scboundE : FnScope ["lengths", "ways", "told", "numbers", "stretches", "begin", "end"] ["lengths", "ways", "told"] (defScope s_bound) := ⟨rfl, rfl, rfl, by decide +kernel, rfl, by decide +kernel, by decide +kernel⟩
theorem boundE_ok {c CL CM p : Addr} (D : DefAt K mg "bound" s_bound c) (cM : Cal P w K mg base (L2.CX P w) 4 "check_merging" ["lengths", "ways"] (spMergB K CL CM p 0)) : Cal P w K mg base (L2.CX P w) 5 "bound" ["lengths", "ways", "told"] (spMergB K CL CM p 1) := by
  have sc := scboundE
  refine def_ok D sc (fun vs H Q E h => ?_) (fun _ _ _ _ _ _ us hl => match us, hl with | [_, _, _], _ => rfl) (fun f A outer s H vs Q E hr h => ?_)
  · obtain ⟨vl, n, rest, rfl, hl, _⟩ := h
    simp [hl]
  · obtain ⟨vl, n, rest, rfl, hl, b⟩ := h
    obtain ⟨r, rfl⟩ : ∃ r, rest = [r] := by
      match rest, hl with
      | [r], _ => exact ⟨r, rfl⟩
    refine ⟨_, pss_cons (ps_expr (pe_c cM hr (by decide) (by rfl) (passes_call (takes_of rfl rfl rfl rfl) fun _ _ _ _ h => h) (pa_cons (pv 0) (pa_cons (pv 1) pa_nil)))) pss_never, ?_⟩
    exact ⟨_, rfl, _, rfl, vl, n, [], rfl, rfl, b⟩
theorem scwritten_planE : FnScope ["lengths", "ways", "plan"] ["lengths", "ways", "plan"] (defScope s_written_plan) := ⟨rfl, rfl, rfl, by decide +kernel, rfl, by decide +kernel, by decide +kernel⟩
theorem written_planE_ok {c CL CM p : Addr} (D : DefAt K mg "written_plan" s_written_plan c) (cM : Cal P w K mg base (L2.CX P w) 4 "check_merging" ["lengths", "ways"] (spMergB K CL CM p 0)) : Cal P w K mg base (L2.CX P w) 5 "written_plan" ["lengths", "ways", "plan"] (spMergB K CL CM p 1) := by
  have sc := scwritten_planE
  refine def_ok D sc (fun vs H Q E h => ?_) (fun _ _ _ _ _ _ us hl => match us, hl with | [_, _, _], _ => rfl) (fun f A outer s H vs Q E hr h => ?_)
  · obtain ⟨vl, n, rest, rfl, hl, _⟩ := h
    simp [hl]
  · obtain ⟨vl, n, rest, rfl, hl, b⟩ := h
    obtain ⟨r, rfl⟩ : ∃ r, rest = [r] := by
      match rest, hl with
      | [r], _ => exact ⟨r, rfl⟩
    refine ⟨_, pss_cons (ps_expr (pe_c cM hr (by decide) (by rfl) (passes_call (takes_of rfl rfl rfl rfl) fun _ _ _ _ h => h) (pa_cons (pv 0) (pa_cons (pv 1) pa_nil)))) pss_never, ?_⟩
    exact ⟨_, rfl, _, rfl, vl, n, [], rfl, rfl, b⟩
theorem scread_planE : FnScope ["lengths", "ways", "text", "plan"] ["lengths", "ways", "text"] (defScope s_read_plan) := ⟨rfl, rfl, rfl, by decide +kernel, rfl, by decide +kernel, by decide +kernel⟩
theorem read_planE_ok {c CL CM p : Addr} (D : DefAt K mg "read_plan" s_read_plan c) (cM : Cal P w K mg base (L2.CX P w) 4 "check_merging" ["lengths", "ways"] (spMergB K CL CM p 0)) : Cal P w K mg base (L2.CX P w) 5 "read_plan" ["lengths", "ways", "text"] (spMergB K CL CM p 1) := by
  have sc := scread_planE
  refine def_ok D sc (fun vs H Q E h => ?_) (fun _ _ _ _ _ _ us hl => match us, hl with | [_, _, _], _ => rfl) (fun f A outer s H vs Q E hr h => ?_)
  · obtain ⟨vl, n, rest, rfl, hl, _⟩ := h
    simp [hl]
  · obtain ⟨vl, n, rest, rfl, hl, b⟩ := h
    obtain ⟨r, rfl⟩ : ∃ r, rest = [r] := by
      match rest, hl with
      | [r], _ => exact ⟨r, rfl⟩
    refine ⟨_, pss_cons (ps_expr (pe_c cM hr (by decide) (by rfl) (passes_call (takes_of rfl rfl rfl rfl) fun _ _ _ _ h => h) (pa_cons (pv 0) (pa_cons (pv 1) pa_nil)))) pss_never, ?_⟩
    exact ⟨_, rfl, _, rfl, vl, n, [], rfl, rfl, b⟩
def spPlanB (K : PySem.W.Frag) (CP p : Addr) : Sp := fun vs H _ E => ∃ (vl vp : V) (ls : List Nat) (n : Nat) (d : PyData), vs = [vl, .int (n : Nat), vp] ∧ Dp K H vl (lensD ls) ∧ OkLens ls ∧ 2 ≤ n ∧ n ≤ 6 ∧ Dp K H vp d ∧ anyP d ∧ sizeP d ≤ 100000 ∧ ¬ OkG ls.length n d ∧ Tab H p ∧ ∀ H', Same H H' → E (.ref CP) none H'
theorem costP_ok {c CP p : Addr} (D : DefAt K mg "cost" s_cost c) (cM : Cal P w K mg base CX0 4 "check_merging" ["lengths", "ways"] (spCheckMerging K p)) (cP : Cal P w K mg base (L2.CX P w) 2 "check_plan" ["lengths", "ways", "plan"] (spPlanE K CP)) : Cal P w K mg base (L2.CX P w) 5 "cost" ["lengths", "ways", "plan"] (spPlanB K CP p) := by
  have sc := sccostE
  refine def_ok D sc (fun vs H Q E h => ?_) (fun _ _ _ _ _ _ us hl => match us, hl with | [_, _, _], _ => rfl) (fun f A outer s H vs Q E hr h => ?_)
  · obtain ⟨vl, vp, ls, n, d, rfl, _⟩ := h
    rfl
  · obtain ⟨vl, vp, ls, n, d, rfl, h1, h2, n2, n6, h3, h4, h5, h6, ht, k⟩ := h
    refine ⟨_, pss_cons (ps_expr (pe_c cM hr (by decide) (by rfl) pass0 (pa_cons (pv 0) (pa_cons (pv 1) pa_nil)))) (pss_cons (ps_expr (pe_c cP hr (by decide) (by rfl) (passes_call (takes_of rfl rfl rfl rfl) fun _ _ _ _ h => h) (pa_cons (pv 0) (pa_cons (pv 1) (pa_cons (pv 2) pa_nil))))) pss_never), ?_⟩
    refine ⟨_, rfl, _, rfl, vl, ls, _, rfl, h1, h2, by omega, by omega, ht, fun H1 s1 => ?_⟩
    exact ⟨_, rfl, _, rfl, _, rfl, vl, vp, ls, n, d, rfl, dp_same s1 _ h1, dp_same s1 _ h3, h4, h5, h6, h2.most, fun H2 s2 => k _ (s1.trans s2)⟩
theorem written_planP_ok {c CP p : Addr} (D : DefAt K mg "written_plan" s_written_plan c) (cM : Cal P w K mg base CX0 4 "check_merging" ["lengths", "ways"] (spCheckMerging K p)) (cP : Cal P w K mg base (L2.CX P w) 2 "check_plan" ["lengths", "ways", "plan"] (spPlanE K CP)) : Cal P w K mg base (L2.CX P w) 5 "written_plan" ["lengths", "ways", "plan"] (spPlanB K CP p) := by
  have sc := scwritten_planE
  refine def_ok D sc (fun vs H Q E h => ?_) (fun _ _ _ _ _ _ us hl => match us, hl with | [_, _, _], _ => rfl) (fun f A outer s H vs Q E hr h => ?_)
  · obtain ⟨vl, vp, ls, n, d, rfl, _⟩ := h
    rfl
  · obtain ⟨vl, vp, ls, n, d, rfl, h1, h2, n2, n6, h3, h4, h5, h6, ht, k⟩ := h
    refine ⟨_, pss_cons (ps_expr (pe_c cM hr (by decide) (by rfl) pass0 (pa_cons (pv 0) (pa_cons (pv 1) pa_nil)))) (pss_cons (ps_expr (pe_c cP hr (by decide) (by rfl) (passes_call (takes_of rfl rfl rfl rfl) fun _ _ _ _ h => h) (pa_cons (pv 0) (pa_cons (pv 1) (pa_cons (pv 2) pa_nil))))) pss_never), ?_⟩
    refine ⟨_, rfl, _, rfl, vl, ls, _, rfl, h1, h2, by omega, by omega, ht, fun H1 s1 => ?_⟩
    exact ⟨_, rfl, _, rfl, _, rfl, vl, vp, ls, n, d, rfl, dp_same s1 _ h1, dp_same s1 _ h3, h4, h5, h6, h2.most, fun H2 s2 => k _ (s1.trans s2)⟩
end
end RS
set_option Elab.async false
set_option maxRecDepth 100000
set_option maxHeartbeats 4000000
set_option pp.maxSteps 400
namespace RS
open PySem PySem.Spec PyProof.Rows L2 GX
/-! ### the leaves and the widths of any nest -/
mutual
theorem anyP_lay : ∀ d : PyData, anyP d → d.canLay0 = true
  | .int _, _ => by simp [PyData.canLay0]
  | .tuple ds, h => by
    simp only [PyData.canLay0]
    exact anyPs_lay ds h
  | .none, h => h.elim
  | .bool _, h => h.elim
  | .str _, h => h.elim
  | .list _, h => h.elim
  | .dict _, h => h.elim
theorem anyPs_lay : ∀ ds : List PyData, anyPs ds → PyData.canLayAll0 ds = true
  | [], _ => by simp [PyData.canLayAll0]
  | d :: ds, h => by
    simp only [PyData.canLayAll0, Bool.and_eq_true]
    exact ⟨anyP_lay d h.1, anyPs_lay ds h.2⟩
end
theorem canLayAll7 {ds : List PyData} (h : ∀ d ∈ ds, d.canLay0 = true) : PyData.canLayAll0 ds = true := by
  induction ds with
  | nil => simp [PyData.canLayAll0]
  | cons d ds ih =>
    simp only [PyData.canLayAll0, Bool.and_eq_true]
    exact ⟨h d List.mem_cons_self, ih fun e he => h e (List.mem_cons_of_mem _ he)⟩
theorem depthLe7 {n : Nat} : ∀ {ds : List PyData}, (∀ d ∈ ds, d.depth ≤ n) → PyData.depthAll ds ≤ n
  | [], _ => by simp [PyData.depthAll]
  | d :: ds, h => by
    simp only [PyData.depthAll]
    have h1 := h d List.mem_cons_self
    have h2 := depthLe7 (ds := ds) fun e he => h e (List.mem_cons_of_mem _ he)
    omega
theorem leafsI_take {ds : List PyData} {i : Nat} {d : PyData} (h : ds[i]? = some d) : leafsI (ds.take (i + 1)) = leafsI (ds.take i) ++ leafI d := by
  rw [List.take_add_one, h, leafsI_app]
  show _ ++ (leafI d ++ []) = _
  rw [List.append_nil]
theorem leafsI_le (ds : List PyData) (i : Nat) : (leafsI (ds.take i)).length ≤ (leafsI ds).length := by
  have e : leafsI ds = leafsI (ds.take i) ++ leafsI (ds.drop i) := by rw [← leafsI_app, List.take_append_drop]
  rw [e, List.length_append]
  omega
theorem leafI_part : ∀ {ds : List PyData} {d : PyData}, d ∈ ds → (leafI d).length ≤ (leafsI ds).length
  | e :: ds, d, h => by
    show _ ≤ (leafI e ++ leafsI ds).length
    rw [List.length_append]
    rcases List.mem_cons.mp h with q | q
    · rw [q]
      omega
    · have := leafI_part q
      omega
theorem sizeP_part : ∀ {ds : List PyData} {d : PyData}, d ∈ ds → sizeP d ≤ sizePs ds
  | e :: ds, d, h => by
    show _ ≤ sizeP e + sizePs ds
    rcases List.mem_cons.mp h with q | q
    · rw [q]
      omega
    · have := sizeP_part q
      omega
theorem fitPs_all {n : Nat} : ∀ ds : List PyData, fitPs n ds = (ds.filter fun d => !fitP n d).isEmpty
  | [] => rfl
  | d :: ds => by
    show (fitP n d && fitPs n ds) = _
    rw [fitPs_all ds, List.filter_cons]
    cases fitP n d <;> rfl
section
variable {P : Program} {w : World} {K : PySem.W.Frag} {mg : Str → Option Value} {base : Heap}
theorem scInG : FnScope ["_law_plan_here", "_law_found", "_law_part"] ["_law_plan_here"] (defScope s__law_in) := ⟨rfl, rfl, rfl, by decide +kernel, rfl, by decide +kernel, by decide +kernel⟩
def spInG (K : PySem.W.Frag) (n : Nat) : Sp := fun vs H Q _ => ∃ (v : V) (d : PyData), vs = [v] ∧ Dp K H v d ∧ anyP d ∧ (leafI d).length ≤ 900 ∧ d.depth ≤ n ∧ ∀ H' a, Same H H' → H a = none → H' a = some (.lst ((leafI d).map V.int)) → Q (.ref a) H'
theorem inG_none {c : Addr} (D : DefAt K mg "_law_in" s__law_in c) : Cal P w K mg base CX0 1 "_law_in" ["_law_plan_here"] (fun _ _ _ _ => False) :=
  def_ok0 D scInG (fun vs H Q E h => h.elim) (fun _ _ _ _ _ _ us hl => match us, hl with | [_], _ => rfl) (fun f A outer s H vs Q E hr h => h.elim)
theorem inG_step {c : Addr} (D : DefAt K mg "_law_in" s__law_in c) (T : Txt K mg) {j : Nat} (n : Nat) {sp : Sp} (hj : 1 ≤ j) (cR : Cal P w K mg base CX0 j "_law_in" ["_law_plan_here"] sp)
    (hsp : ∀ (v : V) (d : PyData) (H : Hp) (Q : VK) (E : XK), Dp K H v d → anyP d → (leafI d).length ≤ 900 → d.depth + 1 ≤ n → (∀ H' a, Same H H' → H a = none → H' a = some (.lst ((leafI d).map V.int)) → Q (.ref a) H') → sp [v] H Q E) : Cal P w K mg base CX0 (j + 1) "_law_in" ["_law_plan_here"] (spInG K n) := by
  have sc := scInG
  refine def_ok0 D sc (fun vs H Q E h => ?_) (fun _ _ _ _ _ _ us hl => match us, hl with | [_], _ => rfl) (fun f A outer s H vs Q E hr h => ?_)
  · obtain ⟨v, d, rfl, _⟩ := h
    rfl
  · obtain ⟨v, d, rfl, hd, ok, l40, hn, k⟩ := h
    refine ⟨_, (pss_cons (ps_if (pt_not (pt_val (pe_callB call_isiD (by rfl) T.isinstance (by decide +kernel) (pa_cons (pv 0) (pa_cons (pe_bltn (v := V.ty "tuple") (u := Value.type "tuple") (by rfl) T.tuple_ (by decide +kernel) rfl) pa_nil))))) (pss_one (ps_ret (pe_lst (pa_cons (pv 0) pa_nil)))) pss_nil) (pss_cons (ps_set (i := 1) sc.nd rfl (Or.inl rfl) (pe_lst pa_nil)) (pss_cons (ps_for PassesOwn.never rfl (pi_tup (pv 0)) (pg_name (i := 2) sc.nd rfl (Or.inl rfl)) (pss_one (ps_expr (pe_bm PySem.F.plainAttrs_list PySem.F.slot_list_extend PySem.F.type_list_extend mt_extend (pv 1) (pa_cons (pe_c cR hr (by omega) (by rfl) pass0 (pa_cons (pv 2) pa_nil)) pa_nil))))) (pss_one (ps_ret (pv 1)))))), ?_⟩
    refine ⟨_, rfl, _, _, _, rfl, by simp, hd, _, rfl, ?_⟩
    rcases anyP_cases ok with ⟨i, rfl⟩ | ⟨ds, rfl, oks⟩
    · cases hd
      refine iteT ⟨_, rfl, by show 1 ≤ sizeLine; decide, fun a ha => k _ a (fun b o e => ?_) ha ?_⟩
      · rw [upd_ne (ne_of_none e ha)]
        exact e
      · rw [upd_same]
        rfl
    · refine iteF ?_
      cases hd with
      | @tup a xs _ hS hI =>
        have l40' : (leafsI ds).length ≤ 900 := l40
        have each : ∀ d ∈ ds, anyP d ∧ (leafI d).length ≤ 900 := fun d hd => ⟨anyPs_iff.mp oks d hd, Nat.le_trans (leafI_part hd) l40'⟩
        have hdep : ∀ d ∈ ds, d.depth + 1 ≤ n := fun d hd => by
          have a : PyData.depthAll ds + 1 ≤ n := by simpa only [PyData.depth] using hn
          have := depth_mem hd
          omega
        have lx : xs.length = ds.length := dpLen hI
        refine ⟨Nat.zero_le _, fun F hF0 => ?_⟩
        have s0 : Same H (upd H F (.lst [])) := fun b o e => by
          rw [upd_ne (ne_of_none e hF0)]
          exact e
        refine ⟨_, rfl, a, rfl, ⟨_, sqT_same s0 hS⟩, for_tup (K := K) (a := a) (xs := xs) (fun i σ H' => ∃ (v2 : Option V), σ = [some (.ref a), some (.ref F), v2] ∧ Same H H' ∧ H' F = some (.lst ((leafsI (ds.take i)).map V.int)))
          ⟨none, rfl, s0, upd_same⟩ (fun i σ H' _ ⟨_, _, sm, _⟩ => sqT_same sm hS) ?_ ?_⟩
        · rintro i x σ H1 hx ⟨v2, rfl, sm, hF⟩
          obtain ⟨e, ee, he⟩ := dpGet hI hx
          have em := List.mem_of_getElem? ee
          refine ⟨_, rfl, .inl ⟨rfl, _, SqL.of hF⟩, _, rfl, hsp x e H1 _ _ (dp_same sm _ he) (each e em).1 (each e em).2 (hdep e em) fun H2 G s2 hG hG2 => ?_⟩
          have wl := leafsI_le ds (i + 1)
          have et := leafsI_take ee
          have hF2 := s2 _ _ hF
          refine ⟨F, G, _, _, rfl, rfl, hF2, hG2, ?_, _, rfl, fun b o q => ?_, ?_⟩
          · rw [et, List.length_append] at wl
            rw [List.length_map, List.length_map]
            exact Nat.le_of_lt (small1000 (by omega))
          · rw [upd_ne (ne_of_none q hF0)]
            exact s2 _ _ (sm _ _ q)
          · rw [upd_same, et, List.map_append]
        · rintro σ H1 ⟨v2, rfl, sm, hF⟩
          rw [lx, List.take_length] at hF
          exact ⟨_, rfl, k _ F sm hF0 hF⟩
theorem inG_ok {c : Addr} (D : DefAt K mg "_law_in" s__law_in c) (T : Txt K mg) : ∀ n : Nat, Cal P w K mg base CX0 (n + 2) "_law_in" ["_law_plan_here"] (spInG K n)
  | 0 => inG_step D T 0 (Nat.le_refl _) (inG_none D) (fun _ _ _ _ _ _ _ _ h _ => by omega)
  | n + 1 => inG_step D T (n + 1) (by omega) (inG_ok D T n) (fun v d H Q E h1 h2 h4 h5 q => ⟨v, d, rfl, h1, h2, h4, by omega, q⟩)
theorem scFitG : FnScope ["_law_plan_here", "_law_ways", "_law_bad_here", "_law_part"] ["_law_plan_here", "_law_ways"] (defScope s__law_fits) := ⟨rfl, rfl, rfl, by decide +kernel, rfl, by decide +kernel, by decide +kernel⟩
def spFitG (K : PySem.W.Frag) (n : Nat) : Sp := fun vs H Q _ => ∃ (v : V) (d : PyData) (m : Nat), vs = [v, .int (m : Nat)] ∧ Dp K H v d ∧ anyP d ∧ sizeP d ≤ 900 ∧ d.depth ≤ n ∧ ∀ H', Same H H' → Q (.bl (fitP m d)) H'
theorem fitG_none {c : Addr} (D : DefAt K mg "_law_fits" s__law_fits c) : Cal P w K mg base CX0 1 "_law_fits" ["_law_plan_here", "_law_ways"] (fun _ _ _ _ => False) :=
  def_ok0 D scFitG (fun vs H Q E h => h.elim) (fun _ _ _ _ _ _ us hl => match us, hl with | [_, _], _ => rfl) (fun f A outer s H vs Q E hr h => h.elim)
theorem fitG_step {c : Addr} (D : DefAt K mg "_law_fits" s__law_fits c) (T : Txt K mg) {j : Nat} (n : Nat) (hn60 : n ≤ 60) {sp : Sp} (hj : 1 ≤ j) (cR : Cal P w K mg base CX0 j "_law_fits" ["_law_plan_here", "_law_ways"] sp)
    (hsp : ∀ (v : V) (d : PyData) (m : Nat) (H : Hp) (Q : VK) (E : XK), Dp K H v d → anyP d → sizeP d ≤ 900 → d.depth + 1 ≤ n → (∀ H', Same H H' → Q (.bl (fitP m d)) H') → sp [v, .int (m : Nat)] H Q E) : Cal P w K mg base CX0 (j + 1) "_law_fits" ["_law_plan_here", "_law_ways"] (spFitG K n) := by
  have sc := scFitG
  refine def_ok0 D sc (fun vs H Q E h => ?_) (fun _ _ _ _ _ _ us hl => match us, hl with | [_, _], _ => rfl) (fun f A outer s H vs Q E hr h => ?_)
  · obtain ⟨v, d, m, rfl, _⟩ := h
    rfl
  · obtain ⟨v, d, m, rfl, hd, ok, sz, hn, k⟩ := h
    have hu := hr.units
    refine ⟨_, (pss_cons (ps_if (pt_not (pt_val (pe_callB call_isiD (by rfl) T.isinstance (by decide +kernel) (pa_cons (pv 0) (pa_cons (pe_bltn (v := V.ty "tuple") (u := Value.type "tuple") (by rfl) T.tuple_ (by decide +kernel) rfl) pa_nil))))) (pss_one (ps_ret pe_bl)) pss_nil) (pss_cons (ps_setLc (own := [("_law_part", 3)]) (tt := _) rfl sc.nd (i := 2) rfl rfl (by rfl) (pi_tup (pv 0)) (blkOk_by (N := ["_law_plan_here", "_law_ways", "_law_bad_here", "_law_part"]) (sc := defScope s__law_fits) (own := [("_law_part", 3)]) (by decide +kernel)) (fun _ _ _ _ _ => (pg_name (i := 3) sc.nd rfl (Or.inl rfl))) (fun _ _ _ _ _ => pts_one (pt_not (pt_val (pe_c cR hr (by omega) (by rfl) pass0 (pa_cons (pv 3) (pa_cons (pv 1) pa_nil)))))) (fun _ _ _ _ _ => pv 3)) (pss_one (ps_ret (pe_and (pe_chain op_le op_le pe_int (pe_callB call_lenD (by rfl) T.len PySem.boot_len (pa_cons (pv 0) pa_nil)) (pv 1)) (pe_one (pe_cmpR (op_eqD hu) (pv 2) (pe_lst pa_nil) (nomark _)))))))), ?_⟩
    refine ⟨_, rfl, _, _, _, rfl, by simp, hd, _, rfl, ?_⟩
    rcases anyP_cases ok with ⟨i, rfl⟩ | ⟨ds, rfl, oks⟩
    · cases hd
      exact iteT (k H (Same.refl H))
    · refine iteF ?_
      have hdt := hd
      cases hd with
      | @tup a xs _ hS hI =>
        have dall : PyData.depthAll ds + 1 ≤ n := by simpa only [PyData.depth] using hn
        have hdep : ∀ d ∈ ds, d.depth + 1 ≤ n := fun d hd => by
          have := depth_mem hd
          omega
        have szt : sizeP (.tuple ds) = 1 + sizePs ds := rfl
        have szd : ∀ d ∈ ds, sizeP d ≤ 900 := fun d hd => by have := sizeP_part hd; omega
        have lds := len_sizePs ds
        have lx : xs.length = ds.length := dpLen hI
        refine ⟨_, rfl, a, rfl, ⟨_, hS⟩, fun DD hD => ?_⟩
        refine lc_tup (K := K) (a := a) (xs := xs) (fun j H' => Same H H' ∧ ∃ ys : List V, H' DD = some (.lst ys) ∧ DpAll K H ys ((ds.take j).filter fun d => !fitP m d)) ⟨fun b o e => by rw [upd_ne (ne_of_none e hD)]; exact e, [], upd_same, .nil⟩ (fun j H4 _ h => sqT_same h.1 hS) ?_ ?_
        · rintro j x H4 hx ⟨sm, ys, hl4, dy⟩
          obtain ⟨e, ee, he⟩ := dpGet hI hx
          have em := List.mem_of_getElem? ee
          refine ⟨rfl, _, rfl, _, rfl, hsp x e m H4 _ _ (dp_same sm _ he) (anyPs_iff.mp oks e em) (szd e em) (hdep e em) fun H5 s5 => ?_⟩
          refine ⟨_, rfl, ?_⟩
          have et : (ds.take (j + 1)).filter (fun d => !fitP m d) = (ds.take j).filter (fun d => !fitP m d) ++ [e].filter (fun d => !fitP m d) := by
            rw [List.take_add_one, ee, List.filter_append]
            rfl
          cases hf : fitP m e with
          | true =>
            refine iteF ⟨sm.trans s5, ys, s5 _ _ hl4, ?_⟩
            rw [et, List.filter_cons, hf]
            simpa using dy
          | false =>
            have ly : ys.length ≤ 900 := by
              rw [dpLen dy]
              have h1 := List.length_filter_le (fun d => !fitP m d) (ds.take j)
              have h2 : (ds.take j).length ≤ ds.length := by rw [List.length_take]; exact Nat.min_le_right _ _
              omega
            refine iteT ⟨_, rfl, ys, s5 _ _ hl4, small1000 (by omega), fun b o q => (upd_ne (ne_of_none q hD)).trans ((sm.trans s5) b o q), _, upd_same, ?_⟩
            rw [et, List.filter_cons, hf]
            exact dpApp dy (.cons he .nil)
        · rintro H4 ⟨sm, ys, hl4, dy⟩
          rw [lx, List.take_length] at dy
          dsimp only [gName]
          refine ⟨_, rfl, _, _, ds.length, rfl, dp_same sm _ hdt, rfl, _, _, rfl, rfl, _, rfl, ?_⟩
          have ef : fitP m (.tuple ds) = (decide (2 ≤ ds.length) && decide (ds.length ≤ m) && fitPs m ds) := by rw [fitP]
          rw [ef] at k
          by_cases c1 : 2 ≤ ds.length
          · rw [show decide ((2 : Int) ≤ (ds.length : Nat)) = true from decide_eq_true (by omega)]
            rw [decide_eq_true c1] at k
            refine iteT ⟨_, rfl, _, _, rfl, rfl, _, rfl, ?_⟩
            by_cases c2 : ds.length ≤ m
            · rw [show decide (((ds.length : Nat) : Int) ≤ (m : Nat)) = true from decide_eq_true (by omega)]
              rw [decide_eq_true c2] at k
              refine iteT ⟨_, rfl, Nat.zero_le _, fun E2 hE2 => ?_⟩
              have s6 : Same H4 (upd H4 E2 (.lst [])) := fun b o e => by
                rw [upd_ne (ne_of_none e hE2)]
                exact e
              refine ⟨.list _, .list [], .lst (s6.seq (SqL.of hl4)) (dpAll_same (sm.trans s6) _ dy), .lst (SqL.of upd_same) .nil, ?_, by decide +kernel, ?_⟩
              · unfold SeqAt.shaped
                rw [Bool.and_eq_true]
                refine ⟨?_, decide_eq_true ?_⟩
                · simp only [PyData.canLay0]
                  exact canLayAll7 fun d hd => anyP_lay d (anyPs_iff.mp oks d ((List.mem_filter.mp hd).1))
                · simp only [PyData.depth]
                  have := depthLe7 (n := n) (ds := ds.filter fun d => !fitP m d) fun d hd => by
                    have := hdep d ((List.mem_filter.mp hd).1)
                    omega
                  omega
              · rw [eqv_nil, ← fitPs_all]
                have := k _ (sm.trans s6)
                simpa using this
            · rw [show decide (((ds.length : Nat) : Int) ≤ (m : Nat)) = false from decide_eq_false (by omega)]
              rw [decide_eq_false c2] at k
              exact iteF (by simpa using k _ sm)
          · rw [show decide ((2 : Int) ≤ (ds.length : Nat)) = false from decide_eq_false (by omega)]
            rw [decide_eq_false c1] at k
            exact iteF ⟨_, rfl, iteF (by simpa using k _ sm)⟩
theorem fitG_ok {c : Addr} (D : DefAt K mg "_law_fits" s__law_fits c) (T : Txt K mg) : ∀ n : Nat, n ≤ 60 → Cal P w K mg base CX0 (n + 2) "_law_fits" ["_law_plan_here", "_law_ways"] (spFitG K n)
  | 0, _ => fitG_step D T 0 (by omega) (Nat.le_refl _) (fitG_none D) (fun _ _ _ _ _ _ _ _ _ h _ => by omega)
  | n + 1, h => fitG_step D T (n + 1) h (by omega) (fitG_ok D T n (by omega)) (fun v d m H Q E h1 h2 h3 h5 q => ⟨v, d, m, rfl, h1, h2, h3, by omega, q⟩)
end
end RS
set_option Elab.async false
set_option maxRecDepth 100000
set_option maxHeartbeats 4000000
namespace RS
open PySem PySem.Spec PyProof.Rows L2 GX
theorem BoxAt.nb {H : Hp} {B L a : Addr} (h : BoxAt H B L) (ha : H a = none) : a ≠ B ∧ a ≠ L := by
  obtain ⟨_, ⟨s, hb⟩, ⟨ms, hl⟩⟩ := h
  exact ⟨fun z => (by rw [z, hb] at ha; cases ha), fun z => (by rw [z, hl] at ha; cases ha)⟩
theorem BoxAt.upd_ {H : Hp} {B L a : Addr} {o : HO} (h : BoxAt H B L) (nB : a ≠ B) (nL : a ≠ L) : BoxAt (upd H a o) B L := by
  obtain ⟨n, ⟨s, hb⟩, ⟨ms, hl⟩⟩ := h
  exact ⟨n, ⟨s, (upd_ne (Ne.symm nB)).trans hb⟩, ⟨ms, (upd_ne (Ne.symm nL)).trans hl⟩⟩
theorem SameX.new {B L a : Addr} {H H' : Hp} {o : HO} (s : SameX B L H H') (ha : H a = none) : SameX B L H (upd H' a o) := fun b u h1 h2 e => by
  rw [upd_ne (ne_of_none e ha)]
  exact s b u h1 h2 e
theorem SameX.free {B L a : Addr} {H H' : Hp} (s : SameX B L H H') (_b : BoxAt H B L) (ha : H' a = none) (b' : BoxAt H' B L) : H a = none := by
  cases e : H a with
  | none => rfl
  | some o =>
    obtain ⟨n1, n2⟩ := b'.nb ha
    rw [s a o n1 n2 e] at ha
    cases ha
theorem ix_listC {X : Cx} {K : PySem.W.Frag} (e : X.K = K) : IxR X (rIxL K) := by
  subst e
  exact ix_list
theorem ix_tupC {X : Cx} {K : PySem.W.Frag} (e : X.K = K) : IxR X (rIxT K) := by
  subst e
  exact ix_tup
theorem ixDC {X : Cx} {K : PySem.W.Frag} (e : X.K = K) : IxR X (fun x y H Q => ∃ d ds i d', Dp K H x d ∧ itemsD d = some ds ∧ y = .int i ∧ atI ds i = some d' ∧ ∀ v, Dp K H v d' → Q v H) := by
  subst e
  exact ixD
/-- what has no list of its own stays -/
theorem sqT_x {K : PySem.W.Frag} {H H' : Hp} {B L a : Addr} {xs : List V} (b : BoxAt H B L) (s : SameX B L H H') (h : SqT K H a xs) : SqT K H' a xs := by
  obtain ⟨_, ⟨st, hb⟩, ⟨ms, hl⟩⟩ := b
  rcases h with (h | ⟨o, h⟩) | h
  · exact .inl (.inl (s a _ (fun z => by rw [z, hb] at h; cases h) (fun z => by rw [z, hl] at h; cases h) h))
  · exact .inl (.inr ⟨o, s a _ (fun z => by rw [z, hb] at h; cases h) (fun z => by rw [z, hl] at h; cases h) h⟩)
  · exact .inr h
mutual
theorem dp_x {K : PySem.W.Frag} {H H' : Hp} {B L : Addr} (b : BoxAt H B L) (s : SameX B L H H') : ∀ (d : PyData) {v : V}, noL d = true → Dp K H v d → Dp K H' v d
  | .none, _, _, .non => .non
  | .bool x, _, _, .bl _ => .bl x
  | .int i, _, _, .int _ => .int i
  | .str x, _, _, .str _ => .str x
  | .list ds, _, h, _ => by cases h
  | .tuple ds, _, h, .tup q hs => .tup (sqT_x b s q) (dpAll_x b s ds h hs)
  | .dict _, _, h, _ => by cases h
theorem dpAll_x {K : PySem.W.Frag} {H H' : Hp} {B L : Addr} (b : BoxAt H B L) (s : SameX B L H H') : ∀ (ds : List PyData) {vs : List V}, noLs ds = true → DpAll K H vs ds → DpAll K H' vs ds
  | [], _, _, .nil => .nil
  | d :: ds, _, h, .cons q hs => by
    unfold noLs at h
    rw [Bool.and_eq_true] at h
    exact .cons (dp_x b s d h.1 q) (dpAll_x b s ds h.2 hs)
end
end RS
set_option Elab.async false
set_option maxRecDepth 100000
set_option maxHeartbeats 4000000
namespace RS
open PySem PySem.Spec PyProof.Rows L2 GX
/-! ### odd nests of tuples and numbers -/
mutual
theorem okP_any {w : Nat} : ∀ d : PyData, okP w d → anyP d
  | .int _, _ => trivial
  | .tuple ds, h => by
    unfold okP at h
    exact okPs_any ds h.2.2
  | .none, h => by simp [okP] at h
  | .bool _, h => by simp [okP] at h
  | .str _, h => by simp [okP] at h
  | .list _, h => by simp [okP] at h
  | .dict _, h => by simp [okP] at h
theorem okPs_any {w : Nat} : ∀ ds : List PyData, okPs w ds → anyPs ds
  | [], _ => trivial
  | d :: ds, h => by
    unfold okPs at h
    exact ⟨okP_any d h.1, okPs_any ds h.2⟩
end
mutual
theorem okP_size {w : Nat} : ∀ d : PyData, okP w d → sizeP d + 1 ≤ 2 * (leaf d).length
  | .int _, _ => by simp [sizeP, leaf]
  | .tuple ds, h => by
    unfold okP at h
    have := okPs_size ds h.2.2
    show 1 + sizePs ds + 1 ≤ 2 * (leafs ds).length
    omega
  | .none, h => by simp [okP] at h
  | .bool _, h => by simp [okP] at h
  | .str _, h => by simp [okP] at h
  | .list _, h => by simp [okP] at h
  | .dict _, h => by simp [okP] at h
theorem okPs_size {w : Nat} : ∀ ds : List PyData, okPs w ds → sizePs ds + ds.length ≤ 2 * (leafs ds).length
  | [], _ => by simp [sizePs, leafs]
  | d :: ds, h => by
    unfold okPs at h
    have h1 := okP_size d h.1
    have h2 := okPs_size ds h.2
    show sizeP d + sizePs ds + (ds.length + 1) ≤ 2 * (leaf d ++ leafs ds).length
    rw [List.length_append]
    omega
end
mutual
theorem leafI_size : ∀ d : PyData, (leafI d).length ≤ sizeP d
  | .int _ => by simp [sizeP, leafI]
  | .tuple ds => by
    have := leafsI_size ds
    show (leafsI ds).length ≤ 1 + sizePs ds
    omega
  | .none => by simp [sizeP, leafI]
  | .bool _ => by simp [sizeP, leafI]
  | .str _ => by simp [sizeP, leafI]
  | .list _ => by simp [sizeP, leafI]
  | .dict _ => by simp [sizeP, leafI]
theorem leafsI_size : ∀ ds : List PyData, (leafsI ds).length ≤ sizePs ds
  | [] => by simp [sizePs, leafsI]
  | d :: ds => by
    have h1 := leafI_size d
    have h2 := leafsI_size ds
    show (leafI d ++ leafsI ds).length ≤ sizeP d + sizePs ds
    rw [List.length_append]
    omega
end
mutual
theorem anyP_noL : ∀ d : PyData, anyP d → noL d = true
  | .int _, _ => rfl
  | .tuple ds, h => by
    show noLs ds = true
    exact anyPs_noL ds h
  | .none, h => h.elim
  | .bool _, h => h.elim
  | .str _, h => h.elim
  | .list _, h => h.elim
  | .dict _, h => h.elim
theorem anyPs_noL : ∀ ds : List PyData, anyPs ds → noLs ds = true
  | [], _ => rfl
  | d :: ds, h => by
    unfold noLs
    rw [anyP_noL d h.1, anyPs_noL ds h.2]
    rfl
end
/-- a nest, not too big -/
def OddV (K : PySem.W.Frag) (H : Hp) (v : V) : Prop := ∃ d : PyData, Dp K H v d ∧ anyP d ∧ sizeP d ≤ 400 ∧ d.depth ≤ 45
theorem OddV.same {K : PySem.W.Frag} {H H' : Hp} {v : V} (h : OddV K H v) (s : Same H H') : OddV K H' v := by
  obtain ⟨d, h1, h2⟩ := h
  exact ⟨d, dp_same s _ h1, h2⟩
theorem OddV.x {K : PySem.W.Frag} {H H' : Hp} {B L : Addr} {v : V} (h : OddV K H v) (b : BoxAt H B L) (s : SameX B L H H') : OddV K H' v := by
  obtain ⟨d, h1, h2⟩ := h
  exact ⟨d, dp_x b s _ (anyP_noL d h2.1) h1, h2⟩
theorem odd_int {K : PySem.W.Frag} {H : Hp} {i : Int} : OddV K H (.int i) := ⟨.int i, .int i, trivial, by show (1 : Nat) ≤ 400; decide, by simp [PyData.depth]⟩
/-- nests of at most so much together -/
structure OddL (K : PySem.W.Frag) (H : Hp) (vs : List V) (z e : Nat) (ds : List PyData) : Prop where
  d : DpAll K H vs ds
  a : anyPs ds
  s : sizePs ds ≤ z
  p : PyData.depthAll ds ≤ e
theorem OddL.same {K : PySem.W.Frag} {H H' : Hp} {vs : List V} {z e : Nat} {ds : List PyData} (h : OddL K H vs z e ds) (s : Same H H') : OddL K H' vs z e ds := ⟨dpAll_same s _ h.d, h.a, h.s, h.p⟩
theorem odd_tup {K : PySem.W.Frag} {H : Hp} {t : Addr} {vs : List V} {z e : Nat} {ds : List PyData} (h : SqT K H t vs) (o : OddL K H vs z e ds) (hz : z ≤ 399) (he : e ≤ 44) : OddV K H (.ref t) :=
  ⟨.tuple ds, .tup h o.d, o.a, by have := o.s; show 1 + sizePs ds ≤ 400; omega, by have := o.p; simp only [PyData.depth]; omega⟩
theorem sub_any {ds' ds : List PyData} (s : ds'.Sublist ds) (h : anyPs ds) : anyPs ds' := anyPs_iff.mpr fun d hd => anyPs_iff.mp h d (s.subset hd)
theorem sub_size {ds' ds : List PyData} (s : ds'.Sublist ds) : sizePs ds' ≤ sizePs ds := by
  induction s with
  | slnil => exact Nat.le_refl _
  | @cons l1 l2 a _ ih => show _ ≤ sizeP a + sizePs l2; omega
  | @cons_cons l1 l2 a _ ih => show sizeP a + sizePs l1 ≤ sizeP a + sizePs l2; omega
theorem sub_depth {ds' ds : List PyData} (s : ds'.Sublist ds) : PyData.depthAll ds' ≤ PyData.depthAll ds := depthLe7 fun _ hd => depth_mem (s.subset hd)
theorem dpAll_drop7 {K : PySem.W.Frag} {H : Hp} : ∀ {xs : List V} {ds : List PyData}, DpAll K H xs ds → ∀ k : Nat, DpAll K H (xs.drop k) (ds.drop k)
  | _, _, h, 0 => h
  | _, _, .nil, k + 1 => .nil
  | _, _, .cons _ t, k + 1 => dpAll_drop7 t k
theorem dpAll_take7 {K : PySem.W.Frag} {H : Hp} : ∀ {xs : List V} {ds : List PyData}, DpAll K H xs ds → ∀ k : Nat, DpAll K H (xs.take k) (ds.take k)
  | _, _, _, 0 => .nil
  | _, _, .nil, k + 1 => .nil
  | _, _, .cons h t, k + 1 => .cons h (dpAll_take7 t k)
theorem dpAll_cut {K : PySem.W.Frag} {H : Hp} {xs : List V} {ds : List PyData} {lo hi : Option Int} (h : DpAll K H xs ds) : ∃ ds', DpAll K H (cutV xs lo hi) ds' ∧ ds'.Sublist ds := by
  unfold cutV
  exact ⟨_, dpAll_take7 (dpAll_drop7 h _) _, (List.take_sublist _ _).trans (List.drop_sublist _ _)⟩
theorem oddL_cut {K : PySem.W.Frag} {H : Hp} {xs : List V} {z e : Nat} {ds : List PyData} {lo hi : Option Int} (h : OddL K H xs z e ds) : ∃ ds', OddL K H (cutV xs lo hi) z e ds' := by
  obtain ⟨ds', h1, h2⟩ := dpAll_cut (lo := lo) (hi := hi) h.d
  exact ⟨ds', h1, sub_any h2 h.a, Nat.le_trans (sub_size h2) h.s, Nat.le_trans (sub_depth h2) h.p⟩
theorem odd_perm_uniq {l l' : List Int} (p : l.Perm l') (s : l.Pairwise (· ≤ ·)) (s' : l'.Pairwise (· ≤ ·)) : l = l' := p.eq_of_pairwise (le := (· ≤ ·)) (fun a b _ _ h1 h2 => Int.le_antisymm h1 h2) s s'
theorem upto_sorted (m : Nat) : (upto m).Pairwise (· ≤ ·) := by
  unfold upto
  exact List.pairwise_map.mpr (List.pairwise_lt_range.imp fun h => by omega)
theorem eqv_intsD : ∀ l l' : List Int, PyData.eqvAll (l.map .int) (l'.map .int) = decide (l = l')
  | [], [] => by simp [PyData.eqvAll]
  | [], _ :: _ => by simp [PyData.eqvAll]
  | _ :: _, [] => by simp [PyData.eqvAll]
  | x :: l, y :: l' => by
    simp only [List.map_cons, PyData.eqvAll, eqv_intsD l l', PyData.eqv]
    by_cases h : x = y
    · subst h; simp
    · simp [h]
/-- a plan alone in a tuple is none -/
theorem single_bad {m n : Nat} {d : PyData} : ¬ OkG m n (.tuple [d]) := fun z => by
  have := z.1
  rw [fitP] at this
  simp at this
theorem new_any7 {H : Hp} {o : HO} {Q : V → Hp → Prop} (q : ∀ p H', Same H H' → H p = none → H' p = some o → Q (.ref p) H') : ∀ p, H p = none → Q (.ref p) (upd H p o) := fun p hp => q p _ (sameNew (Same.refl H) hp) hp upd_same
theorem cat_any7 {H : Hp} {a b : Addr} {xs ys : List V} {Q : VK} (ha : H a = some (.lst xs)) (hb : H b = some (.lst ys)) (hz : xs.length + ys.length ≤ sizeLine) (q : ∀ p H', Same H H' → H p = none → H' p = some (.lst (xs ++ ys)) → Q (.ref p) H') : rCat (.ref a) (.ref b) H Q :=
  ⟨a, b, xs, ys, rfl, rfl, ha, hb, hz, fun p hp => q p _ (sameNew (Same.refl H) hp) hp upd_same⟩
theorem seq_join7 {A U : TS} {D : Ends} {σ : L2.St} {H : Hp} (N : L2.St → Hp → Prop) (fin : ∀ σ' H', N σ' H' → U D σ' H') (h : ∀ nx : L2.St → Hp → Prop, (∀ σ' H', N σ' H' → nx σ' H') → A { D with nx := nx } σ H) : tSeq A U D σ H := h _ fin
theorem te_join {t : TE} {σ : L2.St} {H : Hp} {Q : VK} (N : V → Hp → Prop) (fin : ∀ v H', N v H' → Q v H') (h : ∀ Q' : VK, (∀ v H', N v H' → Q' v H') → t σ H Q') : t σ H Q := h Q fin
theorem oddL_int {K : PySem.W.Frag} {H : Hp} {i : Int} : OddL K H [.int i] 1 0 [.int i] := ⟨.cons (.int i) .nil, ⟨trivial, trivial⟩, by simp [sizePs, sizeP], by simp [PyData.depthAll, PyData.depth]⟩
theorem oddL_app {K : PySem.W.Frag} {H : Hp} {vs vs' : List V} {z e z' e' : Nat} {ds ds' : List PyData} (h : OddL K H vs z e ds) (h' : OddL K H vs' z' e' ds') : OddL K H (vs ++ vs') (z + z') (max e e') (ds ++ ds') :=
  ⟨dpApp h.d h'.d, anyPs_app.mpr ⟨h.a, h'.a⟩, by rw [sizePs_app]; have := h.s; have := h'.s; omega, depthLe7 fun d hd => by
    rcases List.mem_append.mp hd with q | q
    · exact Nat.le_trans (depth_mem q) (Nat.le_trans h.p (Nat.le_max_left _ _))
    · exact Nat.le_trans (depth_mem q) (Nat.le_trans h'.p (Nat.le_max_right _ _))⟩
theorem oddL_tup {K : PySem.W.Frag} {H : Hp} {t : Addr} {vs : List V} {z e : Nat} {ds : List PyData} (h : SqT K H t vs) (o : OddL K H vs z e ds) : OddL K H [.ref t] (z + 1) (e + 1) [.tuple ds] :=
  ⟨.cons (.tup h o.d) .nil, ⟨o.a, trivial⟩, by have := o.s; show 1 + sizePs ds + 0 ≤ z + 1; omega, by have := o.p; simp only [PyData.depthAll, PyData.depth]; omega⟩
theorem oddL_ints {K : PySem.W.Frag} {H : Hp} : ∀ is : List Int, OddL K H (is.map V.int) is.length 0 (is.map PyData.int)
  | [] => ⟨.nil, trivial, Nat.le_refl _, by simp [PyData.depthAll]⟩
  | i :: is => by
    have h := oddL_ints (K := K) (H := H) is
    exact ⟨.cons (.int i) h.d, ⟨trivial, h.a⟩, by have := h.s; show 1 + sizePs (is.map PyData.int) ≤ is.length + 1; omega, by have := h.p; simp only [List.map_cons, PyData.depthAll, PyData.depth]; omega⟩
theorem oddL_get {K : PySem.W.Frag} {H : Hp} {vs : List V} {z e : Nat} {ds : List PyData} {i : Nat} {v : V} (h : OddL K H vs z e ds) (hv : vs[i]? = some v) : ∃ d, OddL K H [v] z e [d] := by
  obtain ⟨d, ed, hd⟩ := dpGet h.d hv
  have m := List.mem_of_getElem? ed
  exact ⟨d, .cons hd .nil, ⟨anyPs_iff.mp h.a d m, trivial⟩, by have := sizeP_part m; have := h.s; show sizeP d + 0 ≤ z; omega, by have := depth_mem m; have := h.p; simp only [PyData.depthAll]; omega⟩
theorem oddL_v {K : PySem.W.Frag} {H : Hp} {v : V} {z e : Nat} {ds : List PyData} (h : OddL K H [v] z e ds) (hz : z ≤ 400) (he : e ≤ 45) : OddV K H v := by
  obtain ⟨d1, d2, d3, d4⟩ := h
  cases d1 with
  | cons h1 h2 =>
    cases h2
    exact ⟨_, h1, d2.1, Nat.le_trans (sizeP_part List.mem_cons_self) (Nat.le_trans d3 hz), Nat.le_trans (depth_mem List.mem_cons_self) (Nat.le_trans d4 he)⟩
theorem rg_ints (a b : Int) : ∃ is : List Int, rgV a b = is.map V.int ∧ is.length = (b - a).toNat := ⟨(List.range (b - a).toNat).map fun i => a + (i : Nat), by unfold rgV; rw [List.map_map]; rfl, by rw [List.length_map, List.length_range]⟩
theorem rg_upto (m : Nat) : rgV 0 (m : Nat) = (upto m).map V.int := by
  unfold rgV upto
  rw [List.map_map, Int.sub_zero, Int.toNat_natCast]
  refine List.map_congr_left fun j _ => ?_
  show V.int (0 + (j : Nat)) = V.int (j : Nat)
  rw [Int.zero_add]
end RS
set_option Elab.async false
set_option maxRecDepth 100000
set_option maxHeartbeats 8000000
set_option pp.maxSteps 400
namespace RS
open PySem PySem.Spec PyProof.Rows L2 GX
section
variable {P : Program} {w : World} {K : PySem.W.Frag} {mg : Str → Option Value} {base : Heap}
theorem scBadP : FnScope ["_law_box", "_law_many", "_law_ways", "_law_plan_here", "_law_some", "_law_wide", "_law_odd", "_law_good"] ["_law_box", "_law_many", "_law_ways", "_law_plan_here"] (defScope s__law_bad) := ⟨rfl, rfl, rfl, by decide +kernel, rfl, by decide +kernel, by decide +kernel⟩
def spBadP (K : PySem.W.Frag) : Sp := fun vs H Q _ => ∃ (B L : Addr) (vp : V) (m n : Nat) (d : PyData), vs = [.ref B, .int (m : Nat), .int (n : Nat), vp] ∧ BoxAt H B L ∧ Dp K H vp d ∧ OkPlan m n d ∧ 1 ≤ m ∧ m ≤ 40 ∧ 2 ≤ n ∧ n ≤ 6 ∧
  ∀ (H' : Hp) (v : V) (d' : PyData), SameX B L H H' → BoxAt H' B L → Dp K H' v d' → anyP d' → sizeP d' ≤ 900 → ¬ OkG m n d' → Q v H'
theorem badP_ok {c : Addr} (D : DefAt K mg "_law_bad" s__law_bad c) (T : Txt K mg) (cT : Cal P w K mg base CX0 1 "_law_take" ["_law_box", "_law_many"] spTake) (cI : Cal P w K mg base CX0 52 "_law_in" ["_law_plan_here"] (spInG K 50)) (cF : Cal P w K mg base CX0 52 "_law_fits" ["_law_plan_here", "_law_ways"] (spFitG K 50)) :
    Cal P w K mg base CX0 53 "_law_bad" ["_law_box", "_law_many", "_law_ways", "_law_plan_here"] (spBadP K) := by
  have sc := scBadP
  refine def_ok0 D sc (fun vs H Q E h => ?_) (fun _ _ _ _ _ _ us hl => match us, hl with | [_, _, _, _], _ => rfl) (fun f A outer s H vs Q E hr h => ?_)
  · obtain ⟨B, L, vp, m, n, d, rfl, _⟩ := h
    rfl
  · obtain ⟨B, L, vp, m, n, d, rfl, hb, hp, okp, m1, m40, n2, n6, k⟩ := h
    have hu := hr.units
    refine ⟨_, (pss_cons (ps_set (i := 4) sc.nd rfl (Or.inl rfl) (pe_lst (pa_cons (pe_tup (pa_cons (pv 3) (pa_cons (pv 1) pa_nil))) (pa_cons (pe_tup (pa_cons (pv 3) (pa_cons pe_int pa_nil))) (pa_cons (pe_tup (pa_cons (pv 3) (pa_cons (pe_un un_neg pe_int) pa_nil))) (pa_cons (pe_tup (pa_cons (pv 3) pa_nil)) pa_nil)))))) (pss_cons (ps_set (i := 4) sc.nd rfl (Or.inl rfl) (pe_op op_cat (pv 4) (pe_lst (pa_cons (pe_tup (pa_cons (pv 3) (pa_cons (pe_tup pa_nil) pa_nil))) (pa_cons (pv 1) (pa_cons (pe_un un_neg pe_int) pa_nil)))))) (pss_cons (ps_set (i := 5) sc.nd rfl (Or.inl rfl) (pe_callTy call_tuple_of (by rfl) T.tuple_ (by decide +kernel) (pa_cons (pe_op op_cat (pe_listRg rfl (by rfl) T.list_ (prg_1 (by rfl) T.range (pv 1))) (pe_listRg rfl (by rfl) T.list_ (prg_2 (by rfl) T.range (pv 1) (pe_op op_add (pv 2) pe_int)))) pa_nil))) (pss_cons (ps_set (i := 4) sc.nd rfl (Or.inl rfl) (pe_op op_cat (pv 4) (pe_lst (pa_cons (pe_op op_repT (pe_tup (pa_cons pe_int pa_nil)) (pe_op op_add (pv 2) pe_int)) (pa_cons (pe_ifExp (pt_cmpR op_le (pv 1) (pv 2) (nomark _)) (pv 5) (pe_tup (pa_cons (pv 3) pa_nil))) pa_nil))))) (pss_cons (ps_if (pt_val (pe_callB call_isiD (by rfl) T.isinstance (by decide +kernel) (pa_cons (pv 3) (pa_cons (pe_bltn (v := V.ty "tuple") (u := Value.type "tuple") (by rfl) T.tuple_ (by decide +kernel) rfl) pa_nil)))) (pss_cons (ps_set (i := 4) sc.nd rfl (Or.inl rfl) (pe_op op_cat (pv 4) (pe_lst (pa_cons (pe_ix ix_tup (pv 3) pe_int (fun _ _ => rfl)) (pa_cons (pe_slice sl_tupA (pv 3) po_none (po_some (pe_un un_neg pe_int))) (pa_cons (pe_op op_catA (pv 3) (pe_slice sl_tupA (pv 3) po_none (po_some pe_int))) pa_nil)))))) (pss_one (ps_set (i := 4) sc.nd rfl (Or.inl rfl) (pe_op op_cat (pv 4) (pe_lst (pa_cons (pe_tup (pa_cons (pe_slice sl_tupA (pv 3) (po_some pe_int) po_none) (pa_cons (pe_ix ix_tup (pv 3) pe_int (fun _ _ => rfl)) (pa_cons pe_int pa_nil)))) (pa_cons (pe_tup (pa_cons (pe_slice sl_tupA (pv 3) po_none (po_some pe_int)) (pa_cons (pe_slice sl_tupA (pv 3) (po_some pe_int) po_none) pa_nil))) pa_nil))))))) pss_nil) (pss_cons (ps_set (i := 6) sc.nd rfl (Or.inl rfl) (pe_ix ix_list (pv 4) (pe_c cT hr (by decide) (by rfl) pass0 (pa_cons (pv 0) (pa_cons (pe_callB call_len_seq (by rfl) T.len PySem.boot_len (pa_cons (pv 4) pa_nil)) pa_nil))) (fun _ _ => rfl))) (pss_cons (ps_set (i := 7) sc.nd rfl (Or.inl rfl) (pe_cmpR (op_eqD hu) (pe_callB cr_sortedI (by rfl) T.sorted (by decide +kernel) (pa_cons (pe_c cI hr (by decide) (by rfl) pass0 (pa_cons (pv 6) pa_nil)) pa_nil)) (pe_listRg rfl (by rfl) T.list_ (prg_1 (by rfl) T.range (pv 1))) (nomark _))) (pss_one (ps_ret (pe_ifExp (pw_and (pt_truth (pv 7) (by intro _; rfl)) (pw_and1 (pt_val (pe_c cF hr (by decide) (by rfl) pass0 (pa_cons (pv 6) (pa_cons (pv 2) pa_nil)))))).pt (pe_tup (pa_cons (pv 3) pa_nil)) (pv 6))))))))))), ?_⟩
    have big : (1000000 : Nat) ≤ sizeLine := by decide
    have dd := okp.depth
    have ll : (leaf d).length = m := by rw [okp.all.length_eq, List.length_range]
    have szd : sizeP d + 1 ≤ 2 * m := by rw [← ll]; exact okP_size d okp.ok
    have anyd := okP_any d okp.ok
    have oP : ∀ {H' : Hp}, Same H H' → OddL K H' [vp] 79 39 [d] := fun {H'} s => ⟨.cons (dp_same s _ hp) .nil, ⟨anyd, trivial⟩, by show sizeP d + 0 ≤ 79; omega, by simp only [PyData.depthAll]; omega⟩
    have pt : ∀ {H' : Hp} {t : Addr} {u : V} {z e : Nat} {du : PyData}, Same H H' → H' t = some (.tup [vp, u]) → OddL K H' [u] z e [du] → z ≤ 300 → e ≤ 44 → OddV K H' (.ref t) := fun {H' t u z e du} s ht o hz he => odd_tup (vs := [vp] ++ [u]) (SqT.of ht) (oddL_app (oP s) o) (by omega) (by omega)
    have pt1 : ∀ {H' : Hp} {t : Addr}, Same H H' → H' t = some (.tup [vp]) → OddV K H' (.ref t) := fun {H' t} s ht => odd_tup (SqT.of ht) (oP s) (by omega) (by omega)
    refine ⟨_, rfl, _, rfl, by show 2 ≤ sizeLine; decide, fun t1 nt1 => ?_⟩
    have s1 := sameNew (o := .tup [vp, .int (m : Nat)]) (Same.refl H) nt1
    have ht1 : upd H t1 (.tup [vp, .int (m : Nat)]) t1 = some (.tup [vp, .int (m : Nat)]) := upd_same
    generalize upd H t1 (.tup [vp, .int (m : Nat)]) = H1 at s1 ht1 ⊢
    refine ⟨_, rfl, by show 2 ≤ sizeLine; decide, fun t2 nt2 => ?_⟩
    have s2 := sameNew (o := .tup [vp, .int 0]) (Same.refl H1) nt2
    have ht2 : upd H1 t2 (.tup [vp, .int 0]) t2 = some (.tup [vp, .int 0]) := upd_same
    generalize upd H1 t2 (.tup [vp, .int 0]) = H2 at s2 ht2 ⊢
    refine ⟨_, rfl, 1, rfl, by show 2 ≤ sizeLine; decide, fun t3 nt3 => ?_⟩
    have s3 := sameNew (o := .tup [vp, .int (-1)]) (Same.refl H2) nt3
    have ht3 : upd H2 t3 (.tup [vp, .int (-1)]) t3 = some (.tup [vp, .int (-1)]) := upd_same
    generalize upd H2 t3 (.tup [vp, .int (-1)]) = H3 at s3 ht3 ⊢
    refine ⟨_, rfl, by show 1 ≤ sizeLine; decide, fun t4 nt4 => ?_⟩
    have s4 := sameNew (o := .tup [vp]) (Same.refl H3) nt4
    have ht4 : upd H3 t4 (.tup [vp]) t4 = some (.tup [vp]) := upd_same
    generalize upd H3 t4 (.tup [vp]) = H4 at s4 ht4 ⊢
    refine ⟨by show 4 ≤ sizeLine; decide, fun S1 nS1 => ?_⟩
    have s5 := sameNew (o := .lst [.ref t1, .ref t2, .ref t3, .ref t4]) (Same.refl H4) nS1
    have hS1 : upd H4 S1 (.lst [.ref t1, .ref t2, .ref t3, .ref t4]) S1 = some (.lst [.ref t1, .ref t2, .ref t3, .ref t4]) := upd_same
    generalize upd H4 S1 (.lst [.ref t1, .ref t2, .ref t3, .ref t4]) = H5 at s5 hS1 ⊢
    have e4 := s4.trans s5
    have e3 := s3.trans e4
    have e2 := s2.trans e3
    have e1 := s1.trans e2
    have o1 : ∀ v ∈ [V.ref t1, .ref t2, .ref t3, .ref t4], OddV K H5 v := fun v hv => by
      simp only [List.mem_cons, List.not_mem_nil, or_false] at hv
      rcases hv with e | e | e | e <;> rw [e]
      · exact (pt s1 ht1 oddL_int (by decide) (by decide)).same e2
      · exact (pt (s1.trans s2) ht2 oddL_int (by decide) (by decide)).same e3
      · exact (pt ((s1.trans s2).trans s3) ht3 oddL_int (by decide) (by decide)).same e4
      · exact (pt1 (((s1.trans s2).trans s3).trans s4) ht4).same s5
    -- three more
    refine ⟨_, rfl, _, rfl, by show 0 ≤ sizeLine; decide, fun t5 nt5 => ?_⟩
    have s6 := sameNew (o := .tup []) (Same.refl H5) nt5
    have ht5 : upd H5 t5 (.tup []) t5 = some (.tup []) := upd_same
    generalize upd H5 t5 (.tup []) = H6 at s6 ht5 ⊢
    refine ⟨by show 2 ≤ sizeLine; decide, fun t6 nt6 => ?_⟩
    have s7 := sameNew (o := .tup [vp, .ref t5]) (Same.refl H6) nt6
    have ht6 : upd H6 t6 (.tup [vp, .ref t5]) t6 = some (.tup [vp, .ref t5]) := upd_same
    generalize upd H6 t6 (.tup [vp, .ref t5]) = H7 at s7 ht6 ⊢
    refine ⟨_, rfl, 1, rfl, by show 3 ≤ sizeLine; decide, fun l1 nl1 => ?_⟩
    have s8 := sameNew (o := .lst [.ref t6, .int (m : Nat), .int (-1)]) (Same.refl H7) nl1
    have hl1 : upd H7 l1 (.lst [.ref t6, .int (m : Nat), .int (-1)]) l1 = some (.lst [.ref t6, .int (m : Nat), .int (-1)]) := upd_same
    generalize upd H7 l1 (.lst [.ref t6, .int (m : Nat), .int (-1)]) = H8 at s8 hl1 ⊢
    have f68 := (s6.trans s7).trans s8
    refine cat_any7 (f68 _ _ hS1) hl1 (by show 4 + 3 ≤ sizeLine; decide) fun S2 H9 s9 nS2 hS2 => ?_
    have e9 := (e1.trans f68).trans s9
    have o2 : ∀ v ∈ [V.ref t1, .ref t2, .ref t3, .ref t4] ++ [V.ref t6, .int (m : Nat), .int (-1)], OddV K H9 v := fun v hv => by
      rcases List.mem_append.mp hv with h | h
      · exact (o1 v h).same (f68.trans s9)
      · simp only [List.mem_cons, List.not_mem_nil, or_false] at h
        rcases h with e | e | e <;> rw [e]
        · have ot : OddL K H7 [.ref t5] 1 1 [.tuple []] := oddL_tup (z := 0) (e := 0) (SqT.of (s7 _ _ ht5)) ⟨.nil, trivial, Nat.le_refl _, by simp [PyData.depthAll]⟩
          exact (pt ((e1.trans s6).trans s7) ht6 ot (by decide) (by decide)).same (s8.trans s9)
        · exact odd_int
        · exact odd_int
    -- a wide one
    refine ⟨_, rfl, _, rfl, .of_le (by decide) (by omega) (by decide) (by omega), fun r1 nr1 => ?_⟩
    have s10 := sameNew (o := .lst (rgV 0 (m : Nat))) (Same.refl H9) nr1
    have hr1 : upd H9 r1 (.lst (rgV 0 (m : Nat))) r1 = some (.lst (rgV 0 (m : Nat))) := upd_same
    generalize upd H9 r1 (.lst (rgV 0 (m : Nat))) = H10 at s10 hr1 ⊢
    refine ⟨_, rfl, _, rfl, _, _, rfl, rfl, _, _, rfl, rfl, .of_le (by omega) (by omega) (by omega) (by omega), fun r2 nr2 => ?_⟩
    have s11 := sameNew (o := .lst (rgV (m : Nat) ((n : Nat) + 1))) (Same.refl H10) nr2
    have hr2 : upd H10 r2 (.lst (rgV (m : Nat) ((n : Nat) + 1))) r2 = some (.lst (rgV (m : Nat) ((n : Nat) + 1))) := upd_same
    generalize upd H10 r2 (.lst (rgV (m : Nat) ((n : Nat) + 1))) = H11 at s11 hr2 ⊢
    have f911 := s10.trans s11
    obtain ⟨is1, ei1, li1⟩ := rg_ints 0 (m : Nat)
    obtain ⟨is2, ei2, li2⟩ := rg_ints (m : Nat) ((n : Nat) + 1)
    refine cat_any7 (s11 _ _ hr1) hr2 (by rw [rgV_length, rgV_length]; omega) fun r3 H12 s12 nr3 hr3 => ?_
    rw [ei1, ei2] at hr3
    refine ⟨r3, _, rfl, .inl ⟨SqL.of hr3, fun W nW => ?_⟩⟩
    have s13 := sameNew (o := .tup (is1.map V.int ++ is2.map V.int)) (Same.refl H12) nW
    have hW : upd H12 W (.tup (is1.map V.int ++ is2.map V.int)) W = some (.tup (is1.map V.int ++ is2.map V.int)) := upd_same
    generalize upd H12 W (.tup (is1.map V.int ++ is2.map V.int)) = H13 at s13 hW ⊢
    have f913 := (f911.trans s12).trans s13
    have oW : OddV K H13 (.ref W) := odd_tup (SqT.of hW) (oddL_app (oddL_ints is1) (oddL_ints is2)) (by omega) (by decide)
    -- two more
    refine ⟨_, rfl, by show 1 ≤ sizeLine; decide, fun t7 nt7 => ?_⟩
    have s14 := sameNew (o := .tup [.int 0]) (Same.refl H13) nt7
    have ht7 : upd H13 t7 (.tup [.int 0]) t7 = some (.tup [.int 0]) := upd_same
    generalize upd H13 t7 (.tup [.int 0]) = H14 at s14 ht7 ⊢
    refine ⟨_, rfl, _, _, rfl, rfl, t7, _, [V.int 0], rfl, rfl, SqT.of ht7, by simp, by omega, by omega, by decide, fun t8 nt8 => ?_⟩
    have ez : (List.replicate ((n : Int) + 1).toNat [V.int 0]).flatten = (List.replicate (n + 1) 0).map V.int := by
      rw [show ((n : Int) + 1).toNat = n + 1 by omega]
      generalize n + 1 = q
      induction q with
      | zero => rfl
      | succ q ih => rw [List.replicate_succ, List.flatten_cons, ih, List.replicate_succ]; rfl
    rw [ez]
    have s15 := sameNew (o := .tup ((List.replicate (n + 1) 0).map V.int)) (Same.refl H14) nt8
    have ht8 : upd H14 t8 (.tup ((List.replicate (n + 1) 0).map V.int)) t8 = some (.tup ((List.replicate (n + 1) 0).map V.int)) := upd_same
    generalize upd H14 t8 (.tup ((List.replicate (n + 1) 0).map V.int)) = H15 at s15 ht8 ⊢
    have f915 := (f913.trans s14).trans s15
    have e15 := e9.trans f915
    have o8 : OddV K H15 (.ref t8) := odd_tup (SqT.of ht8) (oddL_ints _) (by rw [List.length_replicate]; omega) (by decide)
    dsimp only
    refine te_join (t := tIf _ _ _) (fun v H' => Same H15 H' ∧ OddV K H' v) ?_ ?_
    · rintro v9 H16 ⟨s16, o9⟩
      refine ⟨by show 2 ≤ sizeLine; decide, fun l2 nl2 => ?_⟩
      have s17 := sameNew (o := .lst [.ref t8, v9]) (Same.refl H16) nl2
      have hl2 : upd H16 l2 (.lst [.ref t8, v9]) l2 = some (.lst [.ref t8, v9]) := upd_same
      generalize upd H16 l2 (.lst [.ref t8, v9]) = H17 at s17 hl2 ⊢
      refine cat_any7 ((f915.trans (s16.trans s17)) _ _ hS2) hl2 (by show 7 + 2 ≤ sizeLine; decide) fun S3 H18 s18 nS3 hS3 => ?_
      have f1618 := s17.trans s18
      have e18 := e15.trans (s16.trans f1618)
      have o3 : ∀ v ∈ ([V.ref t1, .ref t2, .ref t3, .ref t4] ++ [V.ref t6, .int (m : Nat), .int (-1)]) ++ [V.ref t8, v9], OddV K H18 v := fun v hv => by
        rcases List.mem_append.mp hv with h | h
        · exact (o2 v h).same (f915.trans (s16.trans f1618))
        · simp only [List.mem_cons, List.not_mem_nil, or_false] at h
          rcases h with e | e <;> rw [e]
          · exact o8.same (s16.trans f1618)
          · exact o9.same f1618
      dsimp only [gName, List.set]
      refine seq_join7 (fun σ' H' => ∃ (S : Addr) (vs : List V), σ' = [some (.ref B), some (.int (m : Nat)), some (.int (n : Nat)), some vp, some (.ref S), some (.ref W), none, none] ∧ Same H H' ∧ H S = none ∧ H' S = some (.lst vs) ∧ (∀ v ∈ vs, OddV K H' v) ∧ 1 ≤ vs.length ∧ vs.length ≤ 20) ?_ ?_
      · rintro σ' HA ⟨S, vs, rfl, sA, hS0, hS, oS, lv1, lv20⟩
        have bA := hb.same sA
        refine ⟨_, rfl, _, rfl, _, rfl, S, vs, rfl, .inl (SqL.of hS), B, L, _, rfl, bA, by omega, by omega, fun HB wx xB bB w0 w1 => ?_⟩
        obtain ⟨wn, rfl⟩ : ∃ q : Nat, wx = (q : Nat) := ⟨wx.toNat, by omega⟩
        obtain ⟨v, ev⟩ : ∃ v, vs[wn]? = some v := ⟨_, List.getElem?_eq_getElem (by omega)⟩
        have nS : S ≠ B ∧ S ≠ L := hb.nb hS0
        have xHB : SameX B L H HB := (SameX.of sA).trans xB
        obtain ⟨d', hd', any', sz', dp'⟩ := (oS v (List.mem_of_getElem? ev)).x bA xB
        refine ⟨S, _, _, v, rfl, rfl, SqL.of (xB _ _ nS.1 nS.2 hS), atI_nat ev, ?_⟩
        refine ⟨_, rfl, v, d', rfl, hd', any', Nat.le_trans (leafI_size d') (Nat.le_trans sz' (by decide)), by omega, fun HC ia sC nia hia => ?_⟩
        refine ⟨ia, leafI d', rfl, SqL.of hia, fun ns' pz pm srt npz => ?_⟩
        have s2 := sameNew (o := .lst (ns'.map V.int)) (Same.refl HC) npz
        have hpz : upd HC pz (.lst (ns'.map V.int)) pz = some (.lst (ns'.map V.int)) := upd_same
        generalize upd HC pz (.lst (ns'.map V.int)) = HD at s2 hpz ⊢
        refine ⟨_, rfl, _, rfl, .of_le (by decide) (by omega) (by decide) (by omega), fun r5 nr5 => ?_⟩
        have s3 := sameNew (o := .lst (rgV 0 (m : Nat))) (Same.refl HD) nr5
        have hr5 : upd HD r5 (.lst (rgV 0 (m : Nat))) r5 = some (.lst (rgV 0 (m : Nat))) := upd_same
        generalize upd HD r5 (.lst (rgV 0 (m : Nat))) = HE at s3 hr5 ⊢
        rw [rg_upto] at hr5
        have lfd := Nat.le_trans (leafI_size d') sz'
        have xHE : SameX B L H HE := ((xHB.trans (SameX.of sC)).trans (SameX.of s2)).trans (SameX.of s3)
        have bE := ((bB.same sC).same s2).same s3
        have sBE := (sC.trans s2).trans s3
        have shp : ∀ l : List Int, SeqAt.shaped (.list (l.map .int)) = true := fun l => by
          unfold SeqAt.shaped
          rw [Bool.and_eq_true]
          refine ⟨?_, decide_eq_true ?_⟩
          · simp only [PyData.canLay0]
            exact canLayAll7 fun d hd => by
              obtain ⟨i, _, rfl⟩ := List.mem_map.mp hd
              simp [PyData.canLay0]
          · simp only [PyData.depth]
            have := depthLe7 (n := 0) (ds := l.map PyData.int) fun d hd => by
              obtain ⟨i, _, rfl⟩ := List.mem_map.mp hd
              simp [PyData.depth]
            omega
        have dInts : ∀ (l : List Int) {H' : Hp}, DpAll K H' (l.map V.int) (l.map PyData.int) := fun l {H'} => (oddL_ints (K := K) (H := H') l).d
        refine ⟨.list (ns'.map .int), .list ((upto m).map .int), .lst (SqL.of (s3 _ _ hpz)) (dInts _), .lst (SqL.of hr5) (dInts _), shp _, shp _, ?_⟩
        have ee : PyData.eqv (.list (ns'.map .int)) (.list ((upto m).map .int)) = decide (ns' = upto m) := by
          rw [← eqv_intsD]
          simp only [PyData.eqv]
        rw [ee]
        have hdE := dp_same sBE _ hd'
        have own : ∀ {H' : Hp}, Same HE H' → ¬ OkG m n d' → Q v H' := fun {H'} s no => k H' v d' (xHE.trans (SameX.of s)) (bE.same s) (dp_same s _ hdE) any' (by omega) no
        by_cases cg : ns' = upto m
        · rw [decide_eq_true cg]
          refine ⟨_, rfl, true, rfl, ?_⟩
          refine iteT ⟨_, rfl, _, rfl, v, d', n, rfl, hdE, any', by omega, by omega, fun HF sF => ⟨_, rfl, ?_⟩⟩
          cases hf : fitP n d' with
          | true =>
            have hpF : Dp K HF vp d := dp_x hb (xHE.trans (SameX.of sF)) _ (anyP_noL d anyd) hp
            refine iteT ⟨_, rfl, by show 1 ≤ sizeLine; decide, fun t nt => ?_⟩
            have sG := sameNew (o := .tup [vp]) (Same.refl HF) nt
            refine k _ _ (.tuple [d]) (xHE.trans (SameX.of (sF.trans sG))) (bE.same (sF.trans sG)) (.tup (SqT.of upd_same) (.cons (dp_same sG _ hpF) .nil)) ⟨anyd, trivial⟩ ?_ single_bad
            show 1 + (sizeP d + 0) ≤ 900
            omega
          | false => exact iteF ⟨_, rfl, own sF fun z => by rw [z.1] at hf; cases hf⟩
        · rw [decide_eq_false cg]
          exact ⟨_, rfl, false, rfl, iteF (iteF ⟨_, rfl, own (Same.refl _) fun z => cg (odd_perm_uniq (pm.trans z.2) srt (upto_sorted m))⟩)⟩
      · intro nx hnx
        refine ⟨_, rfl, _, _, _, rfl, by simp, dp_same e18 _ hp, _, rfl, ?_⟩
        rcases okP_cases okp.ok with ⟨i, rfl, hi⟩ | ⟨ds, rfl, q1, q2, oks⟩
        · exact iteF (hnx _ _ ⟨S3, _, rfl, e18, (e15.trans (s16.trans s17)).free nS3, hS3, o3, by simp, by simp⟩)
        · refine iteT ?_
          have hpt := hp
          cases hp with
          | @tup a xs _ hT hI =>
          have lx : xs.length = ds.length := dpLen hI
          have oX : ∀ {H' : Hp}, Same H H' → OddL K H' xs 79 39 ds := fun {H'} s => ⟨dpAll_same s _ hI, okPs_any ds oks, by have : sizeP (.tuple ds) = 1 + sizePs ds := rfl; omega, by simp only [PyData.depth] at dd; omega⟩
          have l40 := len_sizePs ds
          have szt : sizeP (.tuple ds) = 1 + sizePs ds := rfl
          obtain ⟨x0, ex0⟩ : ∃ x0, xs[0]? = some x0 := ⟨_, List.getElem?_eq_getElem (by omega)⟩
          have oX0 : ∀ {H' : Hp}, Same H H' → ∃ d0, OddL K H' [x0] 79 39 [d0] := fun {H'} s => oddL_get (oX s) ex0
          refine ⟨_, rfl, _, rfl, a, _, _, x0, rfl, rfl, sqT_same e18 hT, atI_nat (j := 0) ex0, ?_⟩
          dsimp only [tNoPart]
          refine ⟨_, rfl, 1, rfl, _, rfl, ?_⟩
          refine slA_any (lo := none) (hi := some (-1)) (sqT_same e18 hT) fun c1 H19 s19 hc1 => ?_
          have e19 := e18.trans s19
          refine ⟨_, rfl, _, rfl, _, rfl, ?_⟩
          refine slA_any (lo := none) (hi := some 1) (sqT_same e19 hT) fun c2 H20 s20 hc2 => ?_
          have e20 := e19.trans s20
          have lc2 : (cutV xs none (some 1)).length ≤ xs.length := cutV_length _ _ _
          refine catA_any (sqT_same e20 hT) hc2 (by omega) fun c3 H21 s21 hc3 => ?_
          have e21 := e20.trans s21
          refine ⟨by show 3 ≤ sizeLine; decide, fun l3 nl3 => ?_⟩
          have s22 := sameNew (o := .lst [x0, .ref c1, .ref c3]) (Same.refl H21) nl3
          have hl3 : upd H21 l3 (.lst [x0, .ref c1, .ref c3]) l3 = some (.lst [x0, .ref c1, .ref c3]) := upd_same
          generalize upd H21 l3 (.lst [x0, .ref c1, .ref c3]) = H22 at s22 hl3 ⊢
          have f1822 := ((s19.trans s20).trans s21).trans s22
          refine cat_any7 (f1822 _ _ hS3) hl3 (by show 9 + 3 ≤ sizeLine; decide) fun S4 H23 s23 nS4 hS4 => ?_
          have f1823 := f1822.trans s23
          have e23 := e18.trans f1823
          have o4 : ∀ v ∈ (([V.ref t1, .ref t2, .ref t3, .ref t4] ++ [V.ref t6, .int (m : Nat), .int (-1)]) ++ [V.ref t8, v9]) ++ [x0, .ref c1, .ref c3], OddV K H23 v := fun v hv => by
            rcases List.mem_append.mp hv with h | h
            · exact (o3 v h).same f1823
            · simp only [List.mem_cons, List.not_mem_nil, or_false] at h
              rcases h with e | e | e <;> rw [e]
              · obtain ⟨d0, h0⟩ := oX0 e23
                exact oddL_v h0 (by decide) (by decide)
              · obtain ⟨d1, h1⟩ := oddL_cut (lo := none) (hi := some (-1)) (oX e19)
                exact (odd_tup hc1 h1 (by decide) (by decide)).same (((s20.trans s21).trans s22).trans s23)
              · obtain ⟨d1, h1⟩ := oddL_cut (lo := none) (hi := some 1) (oX e21)
                exact (odd_tup hc3 (oddL_app (oX e21) h1) (by decide) (by decide)).same (s22.trans s23)
          -- the last two
          refine ⟨_, rfl, _, rfl, _, rfl, ?_⟩
          dsimp only [tNoPart]
          refine slA_any (lo := some 1) (hi := none) (sqT_same e23 hT) fun c4 H24 s24 hc4 => ?_
          have e24 := e23.trans s24
          refine ⟨_, rfl, a, _, _, x0, rfl, rfl, sqT_same e24 hT, atI_nat (j := 0) ex0, by show 3 ≤ sizeLine; decide, fun t10 nt10 => ?_⟩
          have s25 := sameNew (o := .tup [.ref c4, x0, .int 0]) (Same.refl H24) nt10
          have ht10 : upd H24 t10 (.tup [.ref c4, x0, .int 0]) t10 = some (.tup [.ref c4, x0, .int 0]) := upd_same
          generalize upd H24 t10 (.tup [.ref c4, x0, .int 0]) = H25 at s25 ht10 ⊢
          have e25 := e24.trans s25
          refine ⟨_, rfl, _, rfl, ?_⟩
          refine slA_any (lo := none) (hi := some 1) (sqT_same e25 hT) fun c5 H26 s26 hc5 => ?_
          have e26 := e25.trans s26
          refine ⟨_, rfl, _, rfl, ?_⟩
          dsimp only [tNoPart]
          refine slA_any (lo := some 1) (hi := none) (sqT_same e26 hT) fun c6 H27 s27 hc6 => ?_
          have e27 := e26.trans s27
          refine ⟨by show 2 ≤ sizeLine; decide, fun t11 nt11 => ?_⟩
          have s28 := sameNew (o := .tup [.ref c5, .ref c6]) (Same.refl H27) nt11
          have ht11 : upd H27 t11 (.tup [.ref c5, .ref c6]) t11 = some (.tup [.ref c5, .ref c6]) := upd_same
          generalize upd H27 t11 (.tup [.ref c5, .ref c6]) = H28 at s28 ht11 ⊢
          refine ⟨by show 2 ≤ sizeLine; decide, fun l4 nl4 => ?_⟩
          have s29 := sameNew (o := .lst [.ref t10, .ref t11]) (Same.refl H28) nl4
          have hl4 : upd H28 l4 (.lst [.ref t10, .ref t11]) l4 = some (.lst [.ref t10, .ref t11]) := upd_same
          generalize upd H28 l4 (.lst [.ref t10, .ref t11]) = H29 at s29 hl4 ⊢
          have f2329 := ((((s24.trans s25).trans s26).trans s27).trans s28).trans s29
          refine cat_any7 (f2329 _ _ hS4) hl4 (by show 12 + 2 ≤ sizeLine; decide) fun S5 H30 s30 nS5 hS5 => ?_
          have f2330 := f2329.trans s30
          refine hnx _ _ ⟨S5, _, rfl, e23.trans f2330, (e23.trans f2329).free nS5, hS5, fun v hv => ?_, by simp, by simp⟩
          rcases List.mem_append.mp hv with h | h
          · exact (o4 v h).same f2330
          · simp only [List.mem_cons, List.not_mem_nil, or_false] at h
            rcases h with e | e <;> rw [e]
            · obtain ⟨d1, h1⟩ := oddL_cut (lo := some 1) (hi := none) (oX e24)
              obtain ⟨d0, h0⟩ := oX0 e25
              have h4 := oddL_tup (sqT_same s25 hc4) (h1.same s25)
              have := odd_tup (vs := [V.ref c4] ++ ([x0] ++ [V.int 0])) (SqT.of ht10) (oddL_app h4 (oddL_app h0 oddL_int)) (by decide) (by decide)
              exact this.same ((((s26.trans s27).trans s28).trans s29).trans s30)
            · obtain ⟨d1, h1⟩ := oddL_cut (lo := none) (hi := some 1) (oX e25)
              obtain ⟨d2, h2⟩ := oddL_cut (lo := some 1) (hi := none) (oX e26)
              have h5 := oddL_tup (sqT_same (s27.trans s28) hc5) (h1.same ((s26.trans s27).trans s28))
              have h6 := oddL_tup (sqT_same s28 hc6) (h2.same (s27.trans s28))
              have := odd_tup (vs := [V.ref c5] ++ [V.ref c6]) (SqT.of ht11) (oddL_app h5 h6) (by decide) (by decide)
              exact this.same (s29.trans s30)
    · intro Q' hQ'
      refine ⟨_, rfl, _, rfl, _, _, rfl, rfl, _, rfl, ?_⟩
      by_cases c : m ≤ n
      · refine iteT' (decide_eq_true (by omega)) ⟨_, rfl, hQ' _ _ ⟨Same.refl _, oW.same (s14.trans s15)⟩⟩
      · refine iteF' (decide_eq_false (by omega)) ⟨_, rfl, by show 1 ≤ sizeLine; decide, fun t9 nt9 => ?_⟩
        have s16 := sameNew (o := .tup [vp]) (Same.refl H15) nt9
        have ht9 : upd H15 t9 (.tup [vp]) t9 = some (.tup [vp]) := upd_same
        generalize upd H15 t9 (.tup [vp]) = H16 at s16 ht9 ⊢
        exact hQ' _ _ ⟨s16, pt1 (e15.trans s16) ht9⟩
end
end RS
set_option Elab.async false
set_option maxRecDepth 100000
set_option maxHeartbeats 4000000
namespace LM
open PySem PySem.Spec PyProof.Rows L2
/-! ### defs that are called within an except suite, and raise nothing -/
/-- the handled exception, its class, its dict -/
abbrev SpW := Addr → Value → Option Addr → Sp
structure FnW (P : Program) (w : World) (K : PySem.W.Frag) (mg : Str → Option Value) (base : Heap) (k : Nat) (f : Addr) (fd : FuncData) (ps : List Str) (sp : SpW) : Prop where
  len : ∀ a cls d vs H Q E, sp a cls d vs H Q E → vs.length = ps.length
  run : ∀ (A : Around) (outer : List Env) (s : Shared) (H : Hp) (args : Args) (us : List Value) (vs : List V) (Q : VK) (E : XK) (p : Addr × Obj) (cls : Value) (d : Option Addr), L2H.RoomH k A → L2H.PinOk outer H s p → Zc cls d p.2 → (∃ us, p.2.data = .fields us) → Env0 P w K mg base A outer s H → BindsTo s fd args (ps.zip us) → Vals vs us → sp p.1 cls d vs H Q E →
    codeAny (model P w) A (.call (.ref f) args) (CR C8.CX0 outer P w H s Q E) s
structure CalW (P : Program) (w : World) (K : PySem.W.Frag) (mg : Str → Option Value) (base : Heap) (k : Nat) (x : Str) (ps : List Str) (sp : SpW) : Prop where
  ex : ∃ (f : Addr) (fd : FuncData), FnW P w K mg base k f fd ps sp ∧ mg x = some (.ref f) ∧ PySem.W.keepIn K (.ref f) = true ∧ Binds K fd ps []
section
variable {P : Program} {w : World} {K : PySem.W.Frag} {mg : Str → Option Value} {base : Heap}
theorem def_okW {x : Str} {st : Stmt} {c : Addr} {N ps : List Str} {k : Nat} {sp : SpW} (D : RS.DefAt K mg x st c) (S : FnScope N ps (defScope st)) (len : ∀ a cls d vs H Q E, sp a cls d vs H Q E → vs.length = ps.length)
    (hb : ∀ (kV doc pm : Value) (an : Option Addr) (cdv ct : Value) (us : List Value), us.length = ps.length → bindArgs (PySem.W.fnOf x x (defArgs st) (defBody st) (defScope st) .none kV doc pm an cdv ct) ⟨us, []⟩ = pure (ps.zip us))
    (hbody : ∀ (f : Addr) (A : Around) (outer : List Env) (s : Shared) (H : Hp) (vs : List V) (Q : VK) (E : XK) (p : Addr × Obj) (cls : Value) (d : Option Addr), L2H.RoomH k (A.deeper (envOfC x (defScope st) s.heap.objs.size f (.ref c))) → Zc cls d p.2 → (∃ us, p.2.data = .fields us) → sp p.1 cls d vs H Q E →
      ∃ t, PSs (L2H.cxH C8.CX0 P w K mg base N x (defScope st) f (.ref c) A outer s H E p) (defBody st) t ∧ t { nx := fun _ H' => Q .non H', rt := Q } (L2.start N vs) H) :
    CalW P w K mg base (k + 1) x ps sp := by
  obtain ⟨f, oc, od, kV, doc, pm, an, ct, osl, hm, lk, hcd, kp⟩ := D.ex
  refine ⟨f, _, ⟨len, fun A outer s H args us vs Q E p cls d hr hpin hz hf e0 bd r hsp => ?_⟩, hm, kp, .all (hb kV doc pm an (.ref c) ct)⟩
  have hl := len _ _ _ _ _ _ _ hsp
  have KX : K.In s.heap := e0.mod.kin.keeps fun b o e => (e0.bs b o e).1
  have lim : s.heap.NoLimit := e0.mod.nolimit.keeps fun b o e => (e0.bs b o e).1
  have kd : ∀ y ∈ ps.zip us, (defScope st).names.lookup y.1 = some .local ∨ ((defScope st).names.lookup y.1 = some .cell ∧ ((cellsFrom (s.heap.objs.size + 1) (defScope st).names []).lookup y.1).isSome = true) := fun ⟨n, v⟩ hy => by
    rcases S.par n (List.of_mem_zip hy).1 with q | q
    · exact .inl q
    · exact .inr ⟨q, PySem.W.cellsFrom_some _ _ _ (.inl q)⟩
  refine codeAny_call_function hr.depth (KX _ _ lk) rfl S.co S.gen rfl (PySem.W.codeRec_of KX hcd) (bd _ _ _ _ ?_)
  refine wpAny_newFunctionEnv_cells S.kind kd fun env he s1 ic => ?_
  subst he
  refine ⟨lim.keeps ic.toInCall.keep, codeAny_func ?_⟩
  obtain ⟨t, ht, hq⟩ := hbody f A outer s H vs Q E p cls d (hr.deeper _) hz hf hsp
  refine wpAny_mono (ht.run [] s1 (L2.start N vs) H _ (L2H.inv_startH S hpin e0 hl r ic) hq) (fun fl s' hs => ?_) fun e s' hs => hs
  cases fl with
  | ret u =>
    obtain ⟨v, σ', H', J, rv, q⟩ := hs
    exact ⟨v, H', J.os, J.bare, J.base, J.hok, rv, q⟩
  | next =>
    obtain ⟨σ', H', J, q⟩ := hs
    exact ⟨.non, H', J.os, J.bare, J.base, J.hok, rfl, q⟩
  | brk =>
    obtain ⟨_, _, _, q⟩ := hs
    exact False.elim q
  | cont =>
    obtain ⟨_, _, _, q⟩ := hs
    exact False.elim q
end
section
variable {X : Cx} {k j : Nat} {ps : List Str} {sp : SpW} {x : Str} {q pos : Pos} {e : Expr} {es : List Expr} {t : TA}
/-- such a def is called in the suite that handles p -/
def tCallW (sp : SpW) (a : Addr) (cls : Value) (d : Option Addr) (t : TA) : TE := fun σ H Q => t σ H fun vs H1 => sp a cls d vs H1 Q C8.E0
theorem pe_cW {a : Addr} {oe : Obj} {cls : Value} {d : Option Addr} (c : CalW X.prog X.w X.K X.mg X.base k x ps sp) (hr : L2H.RoomH j X.A) (hk : k ≤ j) (hp : (a, oe) ∈ X.pn) (hz : Zc cls d oe) (hf : ∃ us, oe.data = .fields us) (hg : Gl X x) (ha : PA X (e :: es) t) (hdb : (x == ("__debug__" : Str)) = false := by decide)
    (he : starEach (e :: es) X.env = (false, eval e X.env) :: starEach es X.env := by rfl) (hpl : (backTo pos (starEach es X.env)).any (·.1) = false := by rfl) :
    PE X (.Call (.Name x q) (e :: es) [] pos) (tCallW sp a cls d t) := by
  obtain ⟨f, fd, F, hm, kp, hb⟩ := c.ex
  refine ⟨fun pins s σ H Q I h => ?_⟩
  refine wpAny_Call_Name_kw (ld_glob I hg hm ?_ hdb)
  refine PySem.W.callWith_K (h₀ := X.base) I.ok.mod.kin kp (thn (ha.run pos pins s σ H _ I h) fun us s1 ⟨vs, H1, I1, r, q⟩ => ⟨I1.kIn, ?_⟩) he hpl
  have hl : us.length = ps.length := by rw [← r.length]; exact F.len _ _ _ _ _ _ _ q
  have b := hb s1 us I1.kIn (by rw [List.append_nil]; exact hl)
  rw [List.append_nil] at b
  obtain ⟨h1, h2, h3, h4, h5⟩ := I1.pin (a, oe) (List.mem_append_left _ hp)
  have hpin : L2H.PinOk X.stack H1 s1 (a, oe) := ⟨h1, h2, fun hm => (List.mem_cons.mp (I1.stkSub a hm)).elim h3 h4, h5⟩
  refine wpAny_call (codeAny_mono (F.run X.A X.stack s1 H1 ⟨us, []⟩ us vs Q _ (a, oe) cls d (hr.mono hk) hpin hz hf I1.env0 b r q) fun r s' hq => ?_)
  cases r with
  | error e => exact False.elim hq
  | ok fl =>
    cases fl with
    | ret u => exact I1.after hq
    | next => exact False.elim hq
    | brk => exact False.elim hq
    | cont => exact False.elim hq
/-! ### isinstance of the handled exception, with or without a dict -/
def DictAt (d : Option Addr) (H : Hp) : Prop := ∀ dd, d = some dd → ∃ fs, H dd = some (.xd fs)
def rIsW (K : PySem.W.Frag) (D a : Addr) (d : Option Addr) : List V → Hp → VK → Prop := fun xs H Q => ∃ (c : V) (cv : Value) (b : Bool), xs = [.ref a, c] ∧ (∀ u, RelV c u → u = cv) ∧ DictAt d H ∧ PySem.W.kitOne K (.ref D) cv = some b ∧ Q (.bl b) H
theorem call_isW {p : Addr × Obj} {D : Addr} {d : Option Addr} (C : ExcC X.K D) (hp : p ∈ X.pn) (hz : Zc (.ref D) d p.2) (hf : ∃ vs, p.2.data = .fields vs) : CallR X (.builtin "isinstance") (rIsW X.K D p.1 d) := by
  intro pins s σ H xs us Q I r h
  obtain ⟨c, cv, b, rfl, hcv, hd, e, q⟩ := h
  obtain ⟨a, oe⟩ := p
  cases r with
  | cons rx rr =>
    cases rr with
    | cons rt rr =>
      cases rr
      cases rx
      have ec := hcv _ rt
      subst ec
      obtain ⟨hget, _⟩ := I.pin (a, oe) (List.mem_append_left _ hp)
      obtain ⟨vs, hv⟩ := hf
      obtain ⟨cd, hcd, _⟩ := PySem.W.any_some C.hd
      have J : ∃ od : Option Obj, PySem.W.InstAt s.heap a oe D od := by
        obtain ⟨oc, ody, oda, osl⟩ := oe
        obtain ⟨h1, h2⟩ := hz
        dsimp only at h1 h2 hv
        subst h1 h2 hv
        cases ody with
        | none => exact ⟨none, hget, rfl, rfl, trivial⟩
        | some dd =>
          obtain ⟨fs, hfs⟩ := hd dd rfl
          obtain ⟨mA, ⟨o, es, ep, ho, _⟩, _⟩ := (show ObjOk X.prog X.w H s.heap dd (.xd fs) from I.hok dd _ hfs)
          exact ⟨some o, hget, rfl, rfl, ho⟩
      obtain ⟨od, J⟩ := J
      exact PySem.W.kia_one (PySem.W.kitx_exc (od := od) (ox := oe) (by rw [hcd]; rfl) C.hg C.hk C.hs C.ha C.hn C.ht C.hm) I.kIn J e (fun z => nomatch z) fun tk => ⟨.bl b, H, I.kept (t' := tk) fun _ _ z => z, rfl, q⟩
/-- err.f, the class known by the reading -/
def tXfA (K : PySem.W.Frag) (a : Addr) (cls : Value) (d : Option Addr) (f : Str) (te : TE) : TE := fun σ H Q => ∃ C : Addr, XfC K C ∧ PySem.W.findIn K (.ref C) f = some none ∧ tXf a cls d C f te σ H Q
theorem pe_xfA {a : Addr} {oe : Obj} {cls : Value} {d : Option Addr} {pn : List (Addr × Obj)} {e : Expr} {te : TE} {pos : Pos} {n : Str} (hz : Zc cls d oe) (hf : ∃ vs, oe.data = .fields vs) (he : PE (X.suite a ((a, oe) :: pn)) e te) (hb : attributeBase e n X.env (eval e X.env) = eval e X.env := by rfl) :
    PE (X.suite a ((a, oe) :: pn)) (.Attribute e n pos) (tXfA X.K a cls d n te) :=
  ⟨fun pins s σ H Q I ⟨_, T, hno, h⟩ => (pe_xf T hno hz hf he hb).run pins s σ H Q I h⟩
/-! ### list.count, flat items -/
def rCountF (K : PySem.W.Frag) : V → List V → Hp → VK → Prop := fun x xs H Q => ∃ (a : Addr) (ys : List V) (y : V), x = V.ref a ∧ xs = [y] ∧ SqL K H a ys ∧ flatV y = true ∧ ys.all flatV = true ∧ Q (.int ((ys.countP fun z => eqV z y : Nat) : Int)) H
theorem count_flat {y : V} : ∀ {ys : List V} {us : List Value}, Vals ys us → ys.all flatV = true → us.countP (eqU y) = ys.countP fun z => eqV z y
  | _, _, .nil, _ => rfl
  | z :: ys, u :: us, .cons r t, f => by
    rw [List.all_cons, Bool.and_eq_true] at f
    rw [List.countP_cons, List.countP_cons, eqU_of r f.1, count_flat t f.2]
theorem mt_countF : MtR X "list.count" (rCountF X.K) := by
  intro pins s σ H x xs v us Q I rx rxs h
  obtain ⟨a, ys, y, rfl, rfl, hs, fy, fys, q⟩ := h
  cases rx
  cases rxs with
  | cons ry rt =>
    rename_i uy ut
    cases rt
    obtain ⟨its, rv, ⟨⟨cls, dd, data, sl⟩, n, ho, hc, hdn, hd⟩, hlen⟩ := I.list hs
    simp only at hc hd
    subst hc hd
    refine call_meets PySem.F.slot_list_count ⟨_, ho, rfl⟩ PySem.F.entry_list_count (PySem.F.args_list_count_2 _ _) (SeqAt.list_countAt a its.toArray n dd sl uy (eqU y)) ⟨ho, fun u' hu' => mem_eqAt ry fy rv fys u' (by simpa using hu'), ?_⟩
    have ec : its.toArray.toList.countP (eqU y) = ys.countP fun z => eqV z y := count_flat rv fys
    refine ⟨.int ((ys.countP fun z => eqV z y : Nat) : Int), H, I.tok _, ⟨s.toks, ?_⟩, q⟩
    show Value.int ((its.toArray.toList.countP (eqU y) : Nat) : Int) s.toks = _
    rw [ec]
end
end LM
set_option Elab.async false
set_option maxRecDepth 100000
set_option maxHeartbeats 4000000
set_option pp.maxSteps 400
namespace RS
open PySem PySem.Spec PyProof.Rows L2 GX LM
/-! ### the law's reading of errors -/
def nm15 : List Str := ["BadKinds", "BadOrder", "BadRows", "BadRuns", "BadRoom", "BadLengths", "BadPlan", "BadPaper", "BadCount", "BadBlock", "Stopped", "Shut", "NotYet", "Empty", "BadText"]
def ysJ (j : Nat) : List V := (List.range 15).map fun i => V.bl (decide (i = j))
theorem ysJ_ok : ∀ j < 15, (ysJ j).all flatV = true ∧ ((ysJ j).countP fun z => eqV z (.bl true)) = 1 ∧ (ysJ j)[j]? = some (.bl true) ∧ ∀ m < j, (ysJ j)[m]? = some (.bl false) := by decide +kernel
theorem nm15_ok : ∀ j < 15, (nm15.map V.str)[j]? = some (.str (nm15.getD j "")) := by decide +kernel
/-- the classes of the errors -/
structure Cls15 (mg : Str → Option Value) (C : Nat → Addr) : Prop where
  g0 : mg "BadKinds" = some (.ref (C 0))
  g1 : mg "BadOrder" = some (.ref (C 1))
  g2 : mg "BadRows" = some (.ref (C 2))
  g3 : mg "BadRuns" = some (.ref (C 3))
  g4 : mg "BadRoom" = some (.ref (C 4))
  g5 : mg "BadLengths" = some (.ref (C 5))
  g6 : mg "BadPlan" = some (.ref (C 6))
  g7 : mg "BadPaper" = some (.ref (C 7))
  g8 : mg "BadCount" = some (.ref (C 8))
  g9 : mg "BadBlock" = some (.ref (C 9))
  g10 : mg "Stopped" = some (.ref (C 10))
  g11 : mg "Shut" = some (.ref (C 11))
  g12 : mg "NotYet" = some (.ref (C 12))
  g13 : mg "Empty" = some (.ref (C 13))
  g14 : mg "BadText" = some (.ref (C 14))
/-- D is the class j, and none of the others -/
structure Own15 (K : PySem.W.Frag) (C : Nat → Addr) (D : Addr) (j : Nat) : Prop where
  lt : j < 15
  exc : ExcC K D
  one : ∀ i, i < 15 → PySem.W.kitOne K (.ref D) (.ref (C i)) = some (decide (i = j))
  ve : PySem.W.kitOne K (.ref D) (.type "ValueError") = some true
theorem dictAt_same {d : Option Addr} {H H' : Hp} (h : DictAt d H) (s : Same H H') : DictAt d H' := fun dd e => by
  obtain ⟨fs, z⟩ := h dd e
  exact ⟨fs, s _ _ z⟩
section
variable {P : Program} {w : World} {K : PySem.W.Frag} {mg : Str → Option Value} {base : Heap}
theorem scClass : FnScope ["_law_e", nKinds, "_law_words"] ["_law_e"] (defScope sClass) := ⟨rfl, rfl, rfl, by decide +kernel, rfl, by decide +kernel, by decide +kernel⟩
def spClass (K : PySem.W.Frag) (C : Nat → Addr) : SpW := fun a cls d vs H Q _ => ∃ (D : Addr) (j : Nat), vs = [.ref a] ∧ cls = .ref D ∧ Own15 K C D j ∧ DictAt d H ∧ ∀ H', Same H H' → Q (.str (nm15.getD j "")) H'
theorem class_ok {c : Addr} {C : Nat → Addr} (DD : DefAt K mg "_law_class" sClass c) (T : Txt K mg) (G : Cls15 mg C) (hve : mg "ValueError" = none) : CalW P w K mg base 1 "_law_class" ["_law_e"] (spClass K C) := by
  have sc := scClass
  refine def_okW DD sc (fun a cls d vs H Q E h => ?_) (fun _ _ _ _ _ _ us hl => match us, hl with | [_], _ => rfl) (fun f A outer s H vs Q E p cls d hr hz hf h => ?_)
  · obtain ⟨D, j, rfl, _⟩ := h
    rfl
  · obtain ⟨D, j, rfl, rfl, O, hd, k⟩ := h
    refine ⟨_, (pss_cons (ps_set (i := 1) sc.nd rfl (Or.inl rfl) (pe_lst (pa_cons (pe_callB (call_isW O.exc List.mem_cons_self hz hf) (by rfl) T.isinstance (by decide +kernel) (pa_cons (pv 0) (pa_cons (pe_glob (v := V.ref (C 0)) (by rfl) G.g0 rfl) pa_nil))) (pa_cons (pe_callB (call_isW O.exc List.mem_cons_self hz hf) (by rfl) T.isinstance (by decide +kernel) (pa_cons (pv 0) (pa_cons (pe_glob (v := V.ref (C 1)) (by rfl) G.g1 rfl) pa_nil))) (pa_cons (pe_callB (call_isW O.exc List.mem_cons_self hz hf) (by rfl) T.isinstance (by decide +kernel) (pa_cons (pv 0) (pa_cons (pe_glob (v := V.ref (C 2)) (by rfl) G.g2 rfl) pa_nil))) (pa_cons (pe_callB (call_isW O.exc List.mem_cons_self hz hf) (by rfl) T.isinstance (by decide +kernel) (pa_cons (pv 0) (pa_cons (pe_glob (v := V.ref (C 3)) (by rfl) G.g3 rfl) pa_nil))) pa_nil)))))) (pss_cons (ps_set (i := 1) sc.nd rfl (Or.inl rfl) (pe_op op_cat (pv 1) (pe_lst (pa_cons (pe_callB (call_isW O.exc List.mem_cons_self hz hf) (by rfl) T.isinstance (by decide +kernel) (pa_cons (pv 0) (pa_cons (pe_glob (v := V.ref (C 4)) (by rfl) G.g4 rfl) pa_nil))) (pa_cons (pe_callB (call_isW O.exc List.mem_cons_self hz hf) (by rfl) T.isinstance (by decide +kernel) (pa_cons (pv 0) (pa_cons (pe_glob (v := V.ref (C 5)) (by rfl) G.g5 rfl) pa_nil))) (pa_cons (pe_callB (call_isW O.exc List.mem_cons_self hz hf) (by rfl) T.isinstance (by decide +kernel) (pa_cons (pv 0) (pa_cons (pe_glob (v := V.ref (C 6)) (by rfl) G.g6 rfl) pa_nil))) (pa_cons (pe_callB (call_isW O.exc List.mem_cons_self hz hf) (by rfl) T.isinstance (by decide +kernel) (pa_cons (pv 0) (pa_cons (pe_glob (v := V.ref (C 7)) (by rfl) G.g7 rfl) pa_nil))) pa_nil))))))) (pss_cons (ps_set (i := 1) sc.nd rfl (Or.inl rfl) (pe_op op_cat (pv 1) (pe_lst (pa_cons (pe_callB (call_isW O.exc List.mem_cons_self hz hf) (by rfl) T.isinstance (by decide +kernel) (pa_cons (pv 0) (pa_cons (pe_glob (v := V.ref (C 8)) (by rfl) G.g8 rfl) pa_nil))) (pa_cons (pe_callB (call_isW O.exc List.mem_cons_self hz hf) (by rfl) T.isinstance (by decide +kernel) (pa_cons (pv 0) (pa_cons (pe_glob (v := V.ref (C 9)) (by rfl) G.g9 rfl) pa_nil))) (pa_cons (pe_callB (call_isW O.exc List.mem_cons_self hz hf) (by rfl) T.isinstance (by decide +kernel) (pa_cons (pv 0) (pa_cons (pe_glob (v := V.ref (C 10)) (by rfl) G.g10 rfl) pa_nil))) (pa_cons (pe_callB (call_isW O.exc List.mem_cons_self hz hf) (by rfl) T.isinstance (by decide +kernel) (pa_cons (pv 0) (pa_cons (pe_glob (v := V.ref (C 11)) (by rfl) G.g11 rfl) pa_nil))) pa_nil))))))) (pss_cons (ps_set (i := 1) sc.nd rfl (Or.inl rfl) (pe_op op_cat (pv 1) (pe_lst (pa_cons (pe_callB (call_isW O.exc List.mem_cons_self hz hf) (by rfl) T.isinstance (by decide +kernel) (pa_cons (pv 0) (pa_cons (pe_glob (v := V.ref (C 12)) (by rfl) G.g12 rfl) pa_nil))) (pa_cons (pe_callB (call_isW O.exc List.mem_cons_self hz hf) (by rfl) T.isinstance (by decide +kernel) (pa_cons (pv 0) (pa_cons (pe_glob (v := V.ref (C 13)) (by rfl) G.g13 rfl) pa_nil))) (pa_cons (pe_callB (call_isW O.exc List.mem_cons_self hz hf) (by rfl) T.isinstance (by decide +kernel) (pa_cons (pv 0) (pa_cons (pe_glob (v := V.ref (C 14)) (by rfl) G.g14 rfl) pa_nil))) pa_nil)))))) (pss_cons (ps_set (i := 2) sc.nd rfl (Or.inl rfl) (pe_lst (pa_cons pe_str (pa_cons pe_str (pa_cons pe_str (pa_cons pe_str (pa_cons pe_str (pa_cons pe_str (pa_cons pe_str (pa_cons pe_str (pa_cons pe_str pa_nil))))))))))) (pss_cons (ps_set (i := 2) sc.nd rfl (Or.inl rfl) (pe_op op_cat (pv 2) (pe_lst (pa_cons pe_str (pa_cons pe_str (pa_cons pe_str (pa_cons pe_str (pa_cons pe_str (pa_cons pe_str pa_nil))))))))) (pss_one (ps_ret (pe_ifExp (pw_and (pt_cmpR op_eq (pe_bm PySem.F.plainAttrs_list PySem.F.slot_list_count PySem.F.type_list_count mt_countF (pv 1) (pa_cons pe_bl pa_nil)) pe_int (nomark _)) (pw_and1 (pt_val (pe_callB (call_isW O.exc List.mem_cons_self hz hf) (by rfl) T.isinstance (by decide +kernel) (pa_cons (pv 0) (pa_cons (pe_bltn (v := V.ty "ValueError") (u := Value.type "ValueError") (by rfl) hve (by decide +kernel) rfl) pa_nil)))))).pt (pe_ix ix_list (pv 2) (pe_bm PySem.F.plainAttrs_list PySem.F.slot_list_index PySem.F.type_list_index mt_index (pv 1) (pa_cons pe_bl pa_nil)) (fun _ _ => rfl)) pe_str))))))))), ?_⟩
    refine ⟨_, rfl, _, _, _, rfl, (fun _ r => r), hd, O.one 0 (by decide), _, rfl, _, _, _, rfl, (fun _ r => r), hd, O.one 1 (by decide), _, rfl, _, _, _, rfl, (fun _ r => r), hd, O.one 2 (by decide), _, rfl, _, _, _, rfl, (fun _ r => r), hd, O.one 3 (by decide), by show 4 ≤ sizeLine; decide, fun k1 h1 => ?_⟩
    have s1 := sameNew (o := .lst [.bl (decide (0 = j)), .bl (decide (1 = j)), .bl (decide (2 = j)), .bl (decide (3 = j))]) (Same.refl H) h1
    have e1 : upd H k1 (.lst [.bl (decide (0 = j)), .bl (decide (1 = j)), .bl (decide (2 = j)), .bl (decide (3 = j))]) k1 = some (.lst [.bl (decide (0 = j)), .bl (decide (1 = j)), .bl (decide (2 = j)), .bl (decide (3 = j))]) := upd_same
    have hd1 := dictAt_same hd s1
    generalize upd H k1 (.lst [.bl (decide (0 = j)), .bl (decide (1 = j)), .bl (decide (2 = j)), .bl (decide (3 = j))]) = H1 at s1 e1 hd1 ⊢
    refine ⟨_, rfl, _, rfl, _, _, _, rfl, (fun _ r => r), hd1, O.one 4 (by decide), _, rfl, _, _, _, rfl, (fun _ r => r), hd1, O.one 5 (by decide), _, rfl, _, _, _, rfl, (fun _ r => r), hd1, O.one 6 (by decide), _, rfl, _, _, _, rfl, (fun _ r => r), hd1, O.one 7 (by decide), by show 4 ≤ sizeLine; decide, fun m2 hm2 => ?_⟩
    have t2 := sameNew (o := .lst [.bl (decide (4 = j)), .bl (decide (5 = j)), .bl (decide (6 = j)), .bl (decide (7 = j))]) (Same.refl H1) hm2
    have f2 : upd H1 m2 (.lst [.bl (decide (4 = j)), .bl (decide (5 = j)), .bl (decide (6 = j)), .bl (decide (7 = j))]) m2 = some (.lst [.bl (decide (4 = j)), .bl (decide (5 = j)), .bl (decide (6 = j)), .bl (decide (7 = j))]) := upd_same
    have e2' := t2 _ _ e1
    generalize upd H1 m2 (.lst [.bl (decide (4 = j)), .bl (decide (5 = j)), .bl (decide (6 = j)), .bl (decide (7 = j))]) = G2 at t2 f2 e2' ⊢
    refine ⟨k1, m2, _, _, rfl, rfl, e2', f2, by show 8 ≤ sizeLine; decide, fun k2 h2 => ?_⟩
    have s2 := sameNew (o := .lst ([.bl (decide (0 = j)), .bl (decide (1 = j)), .bl (decide (2 = j)), .bl (decide (3 = j))] ++ [.bl (decide (4 = j)), .bl (decide (5 = j)), .bl (decide (6 = j)), .bl (decide (7 = j))])) (s1.trans t2) h2
    have e2 : upd G2 k2 (.lst ([.bl (decide (0 = j)), .bl (decide (1 = j)), .bl (decide (2 = j)), .bl (decide (3 = j))] ++ [.bl (decide (4 = j)), .bl (decide (5 = j)), .bl (decide (6 = j)), .bl (decide (7 = j))])) k2 = some (.lst ([.bl (decide (0 = j)), .bl (decide (1 = j)), .bl (decide (2 = j)), .bl (decide (3 = j))] ++ [.bl (decide (4 = j)), .bl (decide (5 = j)), .bl (decide (6 = j)), .bl (decide (7 = j))])) := upd_same
    have hd2 := dictAt_same hd s2
    generalize upd G2 k2 (.lst ([.bl (decide (0 = j)), .bl (decide (1 = j)), .bl (decide (2 = j)), .bl (decide (3 = j))] ++ [.bl (decide (4 = j)), .bl (decide (5 = j)), .bl (decide (6 = j)), .bl (decide (7 = j))])) = H2 at s2 e2 hd2 ⊢
    refine ⟨_, rfl, _, rfl, _, _, _, rfl, (fun _ r => r), hd2, O.one 8 (by decide), _, rfl, _, _, _, rfl, (fun _ r => r), hd2, O.one 9 (by decide), _, rfl, _, _, _, rfl, (fun _ r => r), hd2, O.one 10 (by decide), _, rfl, _, _, _, rfl, (fun _ r => r), hd2, O.one 11 (by decide), by show 4 ≤ sizeLine; decide, fun m3 hm3 => ?_⟩
    have t3 := sameNew (o := .lst [.bl (decide (8 = j)), .bl (decide (9 = j)), .bl (decide (10 = j)), .bl (decide (11 = j))]) (Same.refl H2) hm3
    have f3 : upd H2 m3 (.lst [.bl (decide (8 = j)), .bl (decide (9 = j)), .bl (decide (10 = j)), .bl (decide (11 = j))]) m3 = some (.lst [.bl (decide (8 = j)), .bl (decide (9 = j)), .bl (decide (10 = j)), .bl (decide (11 = j))]) := upd_same
    have e3' := t3 _ _ e2
    generalize upd H2 m3 (.lst [.bl (decide (8 = j)), .bl (decide (9 = j)), .bl (decide (10 = j)), .bl (decide (11 = j))]) = G3 at t3 f3 e3' ⊢
    refine ⟨k2, m3, _, _, rfl, rfl, e3', f3, by show 12 ≤ sizeLine; decide, fun k3 h3 => ?_⟩
    have s3 := sameNew (o := .lst (([.bl (decide (0 = j)), .bl (decide (1 = j)), .bl (decide (2 = j)), .bl (decide (3 = j))] ++ [.bl (decide (4 = j)), .bl (decide (5 = j)), .bl (decide (6 = j)), .bl (decide (7 = j))]) ++ [.bl (decide (8 = j)), .bl (decide (9 = j)), .bl (decide (10 = j)), .bl (decide (11 = j))])) (s2.trans t3) h3
    have e3 : upd G3 k3 (.lst ([.bl (decide (0 = j)), .bl (decide (1 = j)), .bl (decide (2 = j)), .bl (decide (3 = j))] ++ [.bl (decide (4 = j)), .bl (decide (5 = j)), .bl (decide (6 = j)), .bl (decide (7 = j))] ++ [.bl (decide (8 = j)), .bl (decide (9 = j)), .bl (decide (10 = j)), .bl (decide (11 = j))])) k3 = some (.lst ([.bl (decide (0 = j)), .bl (decide (1 = j)), .bl (decide (2 = j)), .bl (decide (3 = j))] ++ [.bl (decide (4 = j)), .bl (decide (5 = j)), .bl (decide (6 = j)), .bl (decide (7 = j))] ++ [.bl (decide (8 = j)), .bl (decide (9 = j)), .bl (decide (10 = j)), .bl (decide (11 = j))])) := upd_same
    have hd3 := dictAt_same hd s3
    generalize upd G3 k3 (.lst ([.bl (decide (0 = j)), .bl (decide (1 = j)), .bl (decide (2 = j)), .bl (decide (3 = j))] ++ [.bl (decide (4 = j)), .bl (decide (5 = j)), .bl (decide (6 = j)), .bl (decide (7 = j))] ++ [.bl (decide (8 = j)), .bl (decide (9 = j)), .bl (decide (10 = j)), .bl (decide (11 = j))])) = H3 at s3 e3 hd3 ⊢
    refine ⟨_, rfl, _, rfl, _, _, _, rfl, (fun _ r => r), hd3, O.one 12 (by decide), _, rfl, _, _, _, rfl, (fun _ r => r), hd3, O.one 13 (by decide), _, rfl, _, _, _, rfl, (fun _ r => r), hd3, O.one 14 (by decide), by show 3 ≤ sizeLine; decide, fun m4 hm4 => ?_⟩
    have t4 := sameNew (o := .lst [.bl (decide (12 = j)), .bl (decide (13 = j)), .bl (decide (14 = j))]) (Same.refl H3) hm4
    have f4 : upd H3 m4 (.lst [.bl (decide (12 = j)), .bl (decide (13 = j)), .bl (decide (14 = j))]) m4 = some (.lst [.bl (decide (12 = j)), .bl (decide (13 = j)), .bl (decide (14 = j))]) := upd_same
    have e4' := t4 _ _ e3
    generalize upd H3 m4 (.lst [.bl (decide (12 = j)), .bl (decide (13 = j)), .bl (decide (14 = j))]) = G4 at t4 f4 e4' ⊢
    refine ⟨k3, m4, _, _, rfl, rfl, e4', f4, by show 15 ≤ sizeLine; decide, fun k4 h4 => ?_⟩
    have s4 := sameNew (o := .lst (([.bl (decide (0 = j)), .bl (decide (1 = j)), .bl (decide (2 = j)), .bl (decide (3 = j))] ++ [.bl (decide (4 = j)), .bl (decide (5 = j)), .bl (decide (6 = j)), .bl (decide (7 = j))] ++ [.bl (decide (8 = j)), .bl (decide (9 = j)), .bl (decide (10 = j)), .bl (decide (11 = j))]) ++ [.bl (decide (12 = j)), .bl (decide (13 = j)), .bl (decide (14 = j))])) (s3.trans t4) h4
    have e4 : upd G4 k4 (.lst ([.bl (decide (0 = j)), .bl (decide (1 = j)), .bl (decide (2 = j)), .bl (decide (3 = j))] ++ [.bl (decide (4 = j)), .bl (decide (5 = j)), .bl (decide (6 = j)), .bl (decide (7 = j))] ++ [.bl (decide (8 = j)), .bl (decide (9 = j)), .bl (decide (10 = j)), .bl (decide (11 = j))] ++ [.bl (decide (12 = j)), .bl (decide (13 = j)), .bl (decide (14 = j))])) k4 = some (.lst ([.bl (decide (0 = j)), .bl (decide (1 = j)), .bl (decide (2 = j)), .bl (decide (3 = j))] ++ [.bl (decide (4 = j)), .bl (decide (5 = j)), .bl (decide (6 = j)), .bl (decide (7 = j))] ++ [.bl (decide (8 = j)), .bl (decide (9 = j)), .bl (decide (10 = j)), .bl (decide (11 = j))] ++ [.bl (decide (12 = j)), .bl (decide (13 = j)), .bl (decide (14 = j))])) := upd_same
    have hd4 := dictAt_same hd s4
    generalize upd G4 k4 (.lst ([.bl (decide (0 = j)), .bl (decide (1 = j)), .bl (decide (2 = j)), .bl (decide (3 = j))] ++ [.bl (decide (4 = j)), .bl (decide (5 = j)), .bl (decide (6 = j)), .bl (decide (7 = j))] ++ [.bl (decide (8 = j)), .bl (decide (9 = j)), .bl (decide (10 = j)), .bl (decide (11 = j))] ++ [.bl (decide (12 = j)), .bl (decide (13 = j)), .bl (decide (14 = j))])) = H4 at s4 e4 hd4 ⊢
    have e4 : H4 k4 = some (.lst (ysJ j)) := e4
    refine ⟨by show 9 ≤ sizeLine; decide, fun a1 ha1 => ?_⟩
    have u1 := sameNew (o := .lst ((nm15.take 9).map V.str)) (Same.refl H4) ha1
    have g1 : upd H4 a1 (.lst ((nm15.take 9).map V.str)) a1 = some (.lst ((nm15.take 9).map V.str)) := upd_same
    refine ⟨_, rfl, by show 6 ≤ sizeLine; decide, fun a2 ha2 => ?_⟩
    have u2 := sameNew (o := .lst ((nm15.drop 9).map V.str)) (Same.refl (upd H4 a1 (.lst ((nm15.take 9).map V.str)))) ha2
    have g2 : upd (upd H4 a1 (.lst ((nm15.take 9).map V.str))) a2 (.lst ((nm15.drop 9).map V.str)) a2 = some (.lst ((nm15.drop 9).map V.str)) := upd_same
    refine ⟨a1, a2, (nm15.take 9).map V.str, (nm15.drop 9).map V.str, rfl, rfl, u2 _ _ g1, g2, by show 15 ≤ sizeLine; decide, fun a3 ha3 => ?_⟩
    have u3 := sameNew (o := .lst ((nm15.take 9).map V.str ++ (nm15.drop 9).map V.str)) ((s4.trans u1).trans u2) ha3
    have u43 := sameNew (o := .lst ((nm15.take 9).map V.str ++ (nm15.drop 9).map V.str)) (u1.trans u2) ha3
    have g3 : upd (upd (upd H4 a1 (.lst ((nm15.take 9).map V.str))) a2 (.lst ((nm15.drop 9).map V.str))) a3 (.lst ((nm15.take 9).map V.str ++ (nm15.drop 9).map V.str)) a3 = some (.lst (nm15.map V.str)) := upd_same
    have e5 := u43 _ _ e4
    have hd5 := dictAt_same hd u3
    have k5 := k _ u3
    obtain ⟨y1, y2, y3, y4⟩ := ysJ_ok j O.lt
    refine ⟨_, rfl, .inl ⟨rfl, _, SqL.of e5⟩, k4, ysJ j, .bl true, rfl, rfl, SqL.of e5, rfl, y1, ?_⟩
    rw [y2]
    refine ⟨rfl, _, rfl, iteT' rfl ?_⟩
    refine ⟨_, rfl, _, _, _, rfl, (fun _ r => r), hd5, O.ve, _, rfl, iteT ?_⟩
    refine ⟨_, rfl, _, rfl, .inl ⟨rfl, _, SqL.of e5⟩, k4, ysJ j, .bl true, j, .bl true, rfl, rfl, SqL.of e5, rfl, y1, y3, rfl, fun m z hm hz => ?_, ?_⟩
    · rw [y4 m hm] at hz
      cases hz
      rfl
    · exact ⟨a3, _, _, _, rfl, rfl, SqL.of g3, atI_nat (nm15_ok j O.lt), k5⟩
end
end RS
set_option Elab.async false
set_option maxRecDepth 100000
set_option maxHeartbeats 8000000
namespace RS
open PySem PySem.Spec PyProof.Rows L2 GX
section
variable {P : Program} {w : World} {K : PySem.W.Frag} {mg : Str → Option Value} {base : Heap}
theorem scAlike : FnScope ["_law_found", "_law_due", "_law_k"] ["_law_found", "_law_due"] (defScope sAlike) := ⟨rfl, rfl, rfl, by decide +kernel, rfl, by decide +kernel, by decide +kernel⟩
def spAlike (K : PySem.W.Frag) (n : Nat) : Sp := fun vs H Q _ => ∃ (v1 v2 : V) (d : PyData), vs = [v1, v2] ∧ Dp K H v1 d ∧ Dp K H v2 d ∧ few d ∧ d.depth ≤ n ∧ Q (.bl true) H
set_option linter.unusedVariables false in
theorem alike_none {c : Addr} (D : DefAt K mg "_law_alike" sAlike c) : Cal P w K mg base CX0 1 "_law_alike" ["_law_found", "_law_due"] (fun _ _ _ _ => False) :=
  def_ok0 D scAlike (fun vs H Q E h => h.elim) (fun _ _ _ _ _ _ us hl => match us, hl with | [_, _], _ => rfl) (fun f A outer s H vs Q E hr h => h.elim)
theorem alike_step {c : Addr} (D : DefAt K mg "_law_alike" sAlike c) (T : Txt K mg) {j : Nat} (n : Nat) {sp : Sp} (hj : 1 ≤ j) (cR : Cal P w K mg base CX0 j "_law_alike" ["_law_found", "_law_due"] sp)
    (hsp : ∀ (v1 v2 : V) (d : PyData) (H : Hp) (Q : VK) (E : XK), Dp K H v1 d → Dp K H v2 d → few d → d.depth + 1 ≤ n → Q (.bl true) H → sp [v1, v2] H Q E) : Cal P w K mg base CX0 (j + 1) "_law_alike" ["_law_found", "_law_due"] (spAlike K n) := by
  have sc := scAlike
  refine def_ok0 D sc (fun vs H Q E h => ?_) (fun _ _ _ _ _ _ us hl => match us, hl with | [_, _], _ => rfl) (fun f A outer s H vs Q E hr h => ?_)
  · obtain ⟨v1, v2, d, rfl, _⟩ := h
    rfl
  · obtain ⟨v1, v2, d, rfl, h1, h2, hf, hn, k⟩ := h
    refine ⟨_, (pss_cons (ps_if (pt_cmpR op_isN (pv 1) pe_non (nomark _)) (pss_one (ps_ret (pe_cmpR op_isN (pv 0) pe_non (nomark _)))) pss_nil) (pss_cons (ps_if (pt_val (pe_callB call_isiD (by rfl) T.isinstance (by decide +kernel) (pa_cons (pv 1) (pa_cons (pe_bltn (v := V.ty "bool") (u := Value.type "bool") (by rfl) T.bool_ (by decide +kernel) rfl) pa_nil)))) (pss_one (ps_ret (pe_and (pe_callB call_isiD (by rfl) T.isinstance (by decide +kernel) (pa_cons (pv 0) (pa_cons (pe_bltn (v := V.ty "bool") (u := Value.type "bool") (by rfl) T.bool_ (by decide +kernel) rfl) pa_nil))) (pe_one (pe_cmpR op_eq (pv 0) (pv 1) (nomark _)))))) pss_nil) (pss_cons (ps_if (pt_val (pe_callB call_isiD (by rfl) T.isinstance (by decide +kernel) (pa_cons (pv 1) (pa_cons (pe_bltn (v := V.ty "int") (u := Value.type "int") (by rfl) T.int_ (by decide +kernel) rfl) pa_nil)))) (pss_one (ps_ret (pe_and (pe_callB call_isiD (by rfl) T.isinstance (by decide +kernel) (pa_cons (pv 0) (pa_cons (pe_bltn (v := V.ty "int") (u := Value.type "int") (by rfl) T.int_ (by decide +kernel) rfl) pa_nil))) (pe_and (pe_not (pe_callB call_isiD (by rfl) T.isinstance (by decide +kernel) (pa_cons (pv 0) (pa_cons (pe_bltn (v := V.ty "bool") (u := Value.type "bool") (by rfl) T.bool_ (by decide +kernel) rfl) pa_nil)))) (pe_one (pe_cmpR op_eq (pv 0) (pv 1) (nomark _))))))) pss_nil) (pss_cons (ps_if (pt_val (pe_callB call_isiD (by rfl) T.isinstance (by decide +kernel) (pa_cons (pv 1) (pa_cons (pe_bltn (v := V.ty "str") (u := Value.type "str") (by rfl) T.str_ (by decide +kernel) rfl) pa_nil)))) (pss_one (ps_ret (pe_and (pe_callB call_isiD (by rfl) T.isinstance (by decide +kernel) (pa_cons (pv 0) (pa_cons (pe_bltn (v := V.ty "str") (u := Value.type "str") (by rfl) T.str_ (by decide +kernel) rfl) pa_nil))) (pe_one (pe_cmpR op_eq (pv 0) (pv 1) (nomark _)))))) pss_nil) (pss_cons (ps_if ((pw_or (pt_cmpR op_ne (pe_callB call_isiD (by rfl) T.isinstance (by decide +kernel) (pa_cons (pv 1) (pa_cons (pe_bltn (v := V.ty "tuple") (u := Value.type "tuple") (by rfl) T.tuple_ (by decide +kernel) rfl) pa_nil))) (pe_callB call_isiD (by rfl) T.isinstance (by decide +kernel) (pa_cons (pv 0) (pa_cons (pe_bltn (v := V.ty "tuple") (u := Value.type "tuple") (by rfl) T.tuple_ (by decide +kernel) rfl) pa_nil))) (nomark _)) (pw_or1 (pt_cmpR op_ne (pe_callB call_isiD (by rfl) T.isinstance (by decide +kernel) (pa_cons (pv 1) (pa_cons (pe_bltn (v := V.ty "list") (u := Value.type "list") (by rfl) T.list_ (by decide +kernel) rfl) pa_nil))) (pe_callB call_isiD (by rfl) T.isinstance (by decide +kernel) (pa_cons (pv 0) (pa_cons (pe_bltn (v := V.ty "list") (u := Value.type "list") (by rfl) T.list_ (by decide +kernel) rfl) pa_nil))) (nomark _)))).pt) (pss_one (ps_ret pe_bl)) pss_nil) (pss_cons (ps_if (pt_cmpR op_ne (pe_callB call_lenD (by rfl) T.len PySem.boot_len (pa_cons (pv 0) pa_nil)) (pe_callB call_lenD (by rfl) T.len PySem.boot_len (pa_cons (pv 1) pa_nil)) (nomark _)) (pss_one (ps_ret pe_bl)) pss_nil) (pss_cons (ps_for PassesOwn.never rfl (pi_range1 (by rfl) T.range (pa_cons (pe_callB call_lenD (by rfl) T.len PySem.boot_len (pa_cons (pv 1) pa_nil)) pa_nil)) (pg_name (i := 2) sc.nd rfl (Or.inl rfl)) (pss_one (ps_if (pt_not (pt_val (pe_c cR hr (by omega) (by rfl) pass0 (pa_cons (pe_ix ixD (pv 0) (pv 2) (fun _ _ => rfl)) (pa_cons (pe_ix ixD (pv 1) (pv 2) (fun _ _ => rfl)) pa_nil))))) (pss_one (ps_ret pe_bl)) pss_nil))) (pss_one (ps_ret pe_bl))))))))), ?_⟩
    refine ⟨_, rfl, rfl, _, rfl, ?_⟩
    cases h2 with
    | non =>
      cases h1
      exact iteT ⟨_, rfl, rfl, k⟩
    | bl b =>
      cases h1
      refine iteF ⟨_, rfl, _, _, _, rfl, by simp, .bl b, _, rfl, ?_⟩
      refine iteT ⟨_, rfl, _, _, _, rfl, by simp, .bl b, _, rfl, ?_⟩
      refine iteT ⟨_, rfl, _, rfl, rfl, ?_⟩
      have e : decide (V.bl b = V.bl b) = true := decide_eq_true rfl
      rw [e]
      exact k
    | int i =>
      cases h1
      refine iteF ⟨_, rfl, _, _, _, rfl, by simp, .int i, _, rfl, ?_⟩
      refine iteF ⟨_, rfl, _, _, _, rfl, by simp, .int i, _, rfl, ?_⟩
      refine iteT ⟨_, rfl, _, _, _, rfl, by simp, .int i, _, rfl, ?_⟩
      refine iteT ⟨_, rfl, _, _, _, rfl, by simp, .int i, _, rfl, _, rfl, ?_⟩
      refine iteT ⟨_, rfl, _, rfl, rfl, ?_⟩
      have e : decide (V.int i = V.int i) = true := decide_eq_true rfl
      rw [e]
      exact k
    | str x =>
      cases h1
      refine iteF ⟨_, rfl, _, _, _, rfl, by simp, .str x, _, rfl, ?_⟩
      refine iteF ⟨_, rfl, _, _, _, rfl, by simp, .str x, _, rfl, ?_⟩
      refine iteF ⟨_, rfl, _, _, _, rfl, by simp, .str x, _, rfl, ?_⟩
      refine iteT ⟨_, rfl, _, _, _, rfl, by simp, .str x, _, rfl, ?_⟩
      refine iteT ⟨_, rfl, _, rfl, rfl, ?_⟩
      have e : decide (V.str x = V.str x) = true := decide_eq_true rfl
      rw [e]
      exact k
    | @lst a2 x2 ds q2 i2 =>
      have h2 : Dp K H (.ref a2) (.list ds) := .lst q2 i2
      have hds : ds.length ≤ 1000000 ∧ ∀ d ∈ ds, few d := by
        have : ds.length ≤ 1000000 ∧ fews ds := by simpa only [few] using hf
        exact ⟨this.1, fews_iff.mp this.2⟩
      have hdep : ∀ d ∈ ds, d.depth + 1 ≤ n := fun d hd => by
        have a : PyData.depthAll ds + 1 ≤ n := by simpa only [PyData.depth] using hn
        have := depth_mem hd
        omega
      obtain ⟨a1, rfl⟩ : ∃ a1, v1 = .ref a1 := by cases h1; exact ⟨_, rfl⟩
      refine iteF ⟨_, rfl, _, _, _, rfl, by simp, h2, _, rfl, ?_⟩
      refine iteF ⟨_, rfl, _, _, _, rfl, by simp, h2, _, rfl, ?_⟩
      refine iteF ⟨_, rfl, _, _, _, rfl, by simp, h2, _, rfl, ?_⟩
      refine iteF ⟨_, rfl, _, _, _, rfl, by simp, h2, _, rfl, _, _, _, rfl, by simp, h1, rfl, _, rfl, ?_⟩
      refine iteF' (by simp) ⟨_, rfl, _, _, _, rfl, by simp, h2, _, rfl, _, _, _, rfl, by simp, h1, rfl, _, rfl, ?_⟩
      refine iteF' (by simp) ⟨_, rfl, _, _, _, rfl, h1, rfl, _, rfl, _, _, _, rfl, h2, rfl, rfl, _, rfl, ?_⟩
      refine iteF' (by simp) ⟨_, rfl, _, _, _, rfl, h2, rfl, _, rfl, by omega, by omega, ?_⟩
      rw [Int.toNat_natCast]
      refine for_range (fun i σ H' => ∃ v3 : Option V, σ = [some (.ref a1), some (.ref a2), v3] ∧ H' = H) ⟨none, rfl, rfl⟩ ?_ ?_
      · rintro i σ H' hi ⟨v3, rfl, rfl⟩
        simp only [Int.zero_add]
        refine ⟨_, rfl, _, rfl, .list ds, ds, (i : Nat), ds[i], h1, rfl, rfl, atI_nat (List.getElem?_eq_getElem hi), fun w1 hw1 => ?_⟩
        refine ⟨_, rfl, _, rfl, .list ds, ds, (i : Nat), ds[i], h2, rfl, rfl, atI_nat (List.getElem?_eq_getElem hi), fun w2 hw2 => ?_⟩
        refine hsp w1 w2 ds[i] H' _ _ hw1 hw2 (hds.2 _ (List.getElem_mem hi)) (hdep _ (List.getElem_mem hi)) ⟨_, rfl, ?_⟩
        exact iteF ⟨_, rfl, rfl⟩
      · rintro σ H' ⟨v3, rfl, rfl⟩
        exact k
    | @tup a2 x2 ds q2 i2 =>
      have h2 : Dp K H (.ref a2) (.tuple ds) := .tup q2 i2
      have hds : ds.length ≤ 1000000 ∧ ∀ d ∈ ds, few d := by
        have : ds.length ≤ 1000000 ∧ fews ds := by simpa only [few] using hf
        exact ⟨this.1, fews_iff.mp this.2⟩
      have hdep : ∀ d ∈ ds, d.depth + 1 ≤ n := fun d hd => by
        have a : PyData.depthAll ds + 1 ≤ n := by simpa only [PyData.depth] using hn
        have := depth_mem hd
        omega
      obtain ⟨a1, rfl⟩ : ∃ a1, v1 = .ref a1 := by cases h1; exact ⟨_, rfl⟩
      refine iteF ⟨_, rfl, _, _, _, rfl, by simp, h2, _, rfl, ?_⟩
      refine iteF ⟨_, rfl, _, _, _, rfl, by simp, h2, _, rfl, ?_⟩
      refine iteF ⟨_, rfl, _, _, _, rfl, by simp, h2, _, rfl, ?_⟩
      refine iteF ⟨_, rfl, _, _, _, rfl, by simp, h2, _, rfl, _, _, _, rfl, by simp, h1, rfl, _, rfl, ?_⟩
      refine iteF' (by simp) ⟨_, rfl, _, _, _, rfl, by simp, h2, _, rfl, _, _, _, rfl, by simp, h1, rfl, _, rfl, ?_⟩
      refine iteF' (by simp) ⟨_, rfl, _, _, _, rfl, h1, rfl, _, rfl, _, _, _, rfl, h2, rfl, rfl, _, rfl, ?_⟩
      refine iteF' (by simp) ⟨_, rfl, _, _, _, rfl, h2, rfl, _, rfl, by omega, by omega, ?_⟩
      rw [Int.toNat_natCast]
      refine for_range (fun i σ H' => ∃ v3 : Option V, σ = [some (.ref a1), some (.ref a2), v3] ∧ H' = H) ⟨none, rfl, rfl⟩ ?_ ?_
      · rintro i σ H' hi ⟨v3, rfl, rfl⟩
        simp only [Int.zero_add]
        refine ⟨_, rfl, _, rfl, .tuple ds, ds, (i : Nat), ds[i], h1, rfl, rfl, atI_nat (List.getElem?_eq_getElem hi), fun w1 hw1 => ?_⟩
        refine ⟨_, rfl, _, rfl, .tuple ds, ds, (i : Nat), ds[i], h2, rfl, rfl, atI_nat (List.getElem?_eq_getElem hi), fun w2 hw2 => ?_⟩
        refine hsp w1 w2 ds[i] H' _ _ hw1 hw2 (hds.2 _ (List.getElem_mem hi)) (hdep _ (List.getElem_mem hi)) ⟨_, rfl, ?_⟩
        exact iteF ⟨_, rfl, rfl⟩
      · rintro σ H' ⟨v3, rfl, rfl⟩
        exact k
theorem alike_ok {c : Addr} (D : DefAt K mg "_law_alike" sAlike c) (T : Txt K mg) : ∀ n : Nat, Cal P w K mg base CX0 (n + 2) "_law_alike" ["_law_found", "_law_due"] (spAlike K n)
  | 0 => alike_step D T 0 (Nat.le_refl _) (alike_none D) (fun _ _ _ _ _ _ _ _ _ h _ => by omega)
  | n + 1 => alike_step D T (n + 1) (by omega) (alike_ok D T n) (fun v1 v2 d H Q E h1 h2 h3 h4 q => ⟨v1, v2, d, rfl, h1, h2, h3, by omega, q⟩)
end
end RS
set_option Elab.async false
set_option maxRecDepth 100000
set_option maxHeartbeats 4000000
set_option pp.maxSteps 400
namespace RS
open PySem PySem.Spec PyProof.Rows L2 GX LM
theorem in_seqC {X : Cx} {K : PySem.W.Frag} (e : X.K = K) : OpR X (compareOp .In) (rIn K false) := by
  subst e
  exact op_in_seq
/-- what the law tells of an error beside its name -/
def ErrV (K : PySem.W.Frag) (D : Addr) (j : Nat) (d : Option Addr) (H : Hp) (v : Int) : Prop :=
  if j = 3 ∨ j = 2 ∨ j = 14 then XfC K D ∧ PySem.W.findIn K (.ref D) (if j = 3 then ("number" : Str) else "place") = some none ∧ ∃ (dd : Addr) (fs : List (Str × V)), d = some dd ∧ H dd = some (.xd fs) ∧ fs.lookup (if j = 3 then ("number" : Str) else "place") = some (.int v) else v = 0
section
variable {P : Program} {w : World} {K : PySem.W.Frag} {mg : Str → Option Value} {base : Heap}
theorem word_runs : ∀ j < 15, decide (V.str (nm15.getD j "") = V.str "BadRuns") = decide (j = 3) := by decide +kernel
theorem word_place : ∀ j < 15, inV (.str (nm15.getD j "")) [.str "BadRows", .str "BadText"] = decide (j = 2 ∨ j = 14) := by decide +kernel
theorem scTold : FnScope ["_law_work", "_law_e", "_law_word"] ["_law_work"] (defScope sTold) := ⟨rfl, rfl, rfl, by decide +kernel, rfl, by decide +kernel, by decide +kernel⟩
/-- an error of the class j leaves, with the number v -/
def ErrOk (K : PySem.W.Frag) (SE : Addr) (C : Nat → Addr) (Q : V → Hp → Prop) : XK := fun cls d H' => ∃ (D : Addr) (j : Nat) (v : Int), cls = .ref D ∧ Own15 K C D j ∧ PySem.W.exmOne K (.ref D) (.ref SE) = some true ∧ DictAt d H' ∧ ErrV K D j d H' v ∧
  ∀ (H'' : Hp) (t : Addr), Same H' H'' → H'' t = some (.tup [.str (nm15.getD j ""), .int v]) → Q (.ref t) H''
def spTold (P : Program) (w : World) (K : PySem.W.Frag) (mg : Str → Option Value) (base : Heap) (SE : Addr) (C : Nat → Addr) (n : Nat) : Sp := fun vs H Q _ => ∃ (f : Addr) (R : Hp → Prop) (tl : Hp → VK → XK → Prop), vs = [.ref f] ∧ Act P w K mg base n f R tl ∧ R H ∧ ∀ E : XK, (∀ cls d H', ErrOk K SE C Q cls d H' → E cls d H') → tl H Q E
theorem told_ok {c SE : Addr} {C : Nat → Addr} (DD : DefAt K mg "_law_told" sTold c) (n : Nat) (hn : 1 ≤ n) (gS : mg "SortError" = some (.ref SE)) (cC : CalW P w K mg base 1 "_law_class" ["_law_e"] (spClass K C)) : Cal P w K mg base CX0 (n + 1) "_law_told" ["_law_work"] (spTold P w K mg base SE C n) := by
  have sc := scTold
  refine def_ok0 DD sc (fun vs H Q E h => ?_) (fun _ _ _ _ _ _ us hl => match us, hl with | [_], _ => rfl) (fun f A outer s H vs Q E hr h => ?_)
  · obtain ⟨f, R, tl, rfl, _⟩ := h
    rfl
  · obtain ⟨g, R, tl, rfl, act, hR, ht⟩ := h
    refine ⟨_, pss_one (ps_try_as (X := (cxOf CX0 P w K mg base ["_law_work", "_law_e", "_law_word"] "_law_told" (defScope sTold) f (.ref c) A outer s H E).nox) (i := 1) (c := .ref SE) rfl rfl sc.nd rfl rfl ⟨rfl, by decide, .inl gS⟩ LamX.takes0 (fun W pn xe tk _ => pss_one (ps_ret (pe_act (P := P) (w := w) (K := K) (mg := mg) (base := base) rfl rfl rfl rfl rfl (fun σ => passAt tk σ) hr (Nat.le_refl _) (pv 0))))
      (fun a oe cls d pn hz hf => (pss_cons (ps_set (i := 2) sc.nd rfl (Or.inl rfl) (pe_cW (X := Cx.suite (cxOf CX0 P w K mg base ["_law_work", "_law_e", "_law_word"] "_law_told" (defScope sTold) f (.ref c) A outer s H E).nox a ((a, oe) :: pn)) (k := 1) (j := n) cC ⟨hr.dp, hr.un⟩ hn List.mem_cons_self hz hf (by rfl) (pa_cons (pv 1) pa_nil))) (pss_cons (ps_if (pt_cmpR op_eq (pv 2) pe_str (nomark _)) (pss_one (ps_ret (pe_tup (pa_cons (pv 2) (pa_cons (pe_xfA hz hf (pv 1)) pa_nil))))) pss_nil) (pss_one (ps_ret (pe_tup (pa_cons (pv 2) (pa_cons (pe_ifExp (pt_cmpR (in_seqC (K := K) rfl) (pv 2) (pe_tup (pa_cons pe_str (pa_cons pe_str pa_nil))) (by rfl)) (pe_xfA hz hf (pv 1)) pe_int) pa_nil))))))))), ?_⟩
    refine ⟨_, rfl, g, R, tl, rfl, act, hR, ht _ fun cls d H' ⟨D, j, v, ec, O, hm, hd, ev, q⟩ => ?_⟩
    subst ec
    refine ⟨true, hm, fun _ a ha => ?_, fun z => nomatch z⟩
    refine ⟨_, rfl, D, j, rfl, rfl, O, hd, fun H2 s2 => ?_⟩
    refine ⟨_, rfl, rfl, _, rfl, ?_⟩
    rw [word_runs j O.lt]
    unfold ErrV at ev
    by_cases h3 : j = 3
    · subst h3
      rw [if_pos (.inl rfl), if_pos rfl] at ev
      obtain ⟨x1, x2, dd, fs, e1, e2, e3⟩ := ev
      refine iteT' rfl ?_
      exact ⟨_, rfl, D, x1, x2, _, rfl, rfl, rfl, dd, fs, _, e1, s2 _ _ e2, e3, by show 2 ≤ sizeLine; decide, fun t ht => q _ t (sameNew s2 ht) upd_same⟩
    · refine iteF' (decide_eq_false h3) ?_
      refine ⟨_, rfl, _, rfl, by show 2 ≤ sizeLine; decide, fun tt htt => ?_⟩
      have s3 := sameNew (o := .tup [.str "BadRows", .str "BadText"]) s2 htt
      refine ⟨tt, _, rfl, .inr (SqT.of upd_same), rfl, rfl, _, rfl, ?_⟩
      rw [if_neg Bool.false_ne_true, word_place j O.lt]
      by_cases h2 : j = 2 ∨ j = 14
      · rw [if_pos (.inr h2), if_neg h3] at ev
        obtain ⟨x1, x2, dd, fs, e1, e2, e3⟩ := ev
        refine iteT' (decide_eq_true h2) ?_
        exact ⟨D, x1, x2, _, rfl, rfl, rfl, dd, fs, _, e1, s3 _ _ e2, e3, by show 2 ≤ sizeLine; decide, fun t ht => q _ t (sameNew s3 ht) upd_same⟩
      · rw [if_neg fun z => z.elim h3 h2] at ev
        subst ev
        refine iteF' (decide_eq_false h2) ?_
        exact ⟨by show 2 ≤ sizeLine; decide, fun t ht => q _ t (sameNew s3 ht) upd_same⟩
theorem scAll : FnScope ["_law_works", "_law_due", "_law_work"] ["_law_works", "_law_due"] (defScope sAll) := ⟨rfl, rfl, rfl, by decide +kernel, rfl, by decide +kernel, by decide +kernel⟩
/-- f, called now or behind more, tells dd -/
def Works (P : Program) (w : World) (K : PySem.W.Frag) (mg : Str → Option Value) (base : Heap) (SE : Addr) (C : Nat → Addr) (n : Nat) (f : Addr) (H : Hp) (dd : PyData) : Prop :=
  ∀ (H1 : Hp) (Q1 : VK), Same H H1 → (∀ x H2, Same H1 H2 → Dp K H2 x dd → Q1 x H2) → spTold P w K mg base SE C n [.ref f] H1 Q1 E0
def spAll (P : Program) (w : World) (K : PySem.W.Frag) (mg : Str → Option Value) (base : Heap) (SE : Addr) (C : Nat → Addr) (n : Nat) : Sp := fun vs H Q _ => ∃ (L : Addr) (fs : List Addr) (v : V) (dd : PyData), vs = [.ref L, v] ∧ H L = some (.lst (fs.map V.ref)) ∧ fs.length ≤ 20 ∧ Dp K H v dd ∧ few dd ∧ dd.depth ≤ 40 ∧
  (∀ f ∈ fs, Works P w K mg base SE C n f H dd) ∧ ∀ H', Same H H' → Q (.bl true) H'
theorem all_ok {c SE : Addr} {C : Nat → Addr} (DD : DefAt K mg "_law_all" sAll c) (n m : Nat) (h1 : n + 1 ≤ m) (h2 : 42 ≤ m) (cT : Cal P w K mg base CX0 (n + 1) "_law_told" ["_law_work"] (spTold P w K mg base SE C n)) (cA : Cal P w K mg base CX0 42 "_law_alike" ["_law_found", "_law_due"] (spAlike K 40)) :
    Cal P w K mg base CX0 (m + 1) "_law_all" ["_law_works", "_law_due"] (spAll P w K mg base SE C n) := by
  have sc := scAll
  refine def_ok0 DD sc (fun vs H Q E h => ?_) (fun _ _ _ _ _ _ us hl => match us, hl with | [_, _], _ => rfl) (fun f A outer s H vs Q E hr h => ?_)
  · obtain ⟨L, fs, v, dd, rfl, _⟩ := h
    rfl
  · obtain ⟨L, fs, v, dd, rfl, hL, l20, hv, hf, hdp, hw, k⟩ := h
    have hu := hr.units
    refine ⟨_, (pss_one (ps_ret (pe_cmpR (op_eqD hu) (pe_lc (own := [("_law_work", 2)]) (tt := _) rfl sc.nd (pi_list (pv 0)) (blkOk_by (N := ["_law_works", "_law_due", "_law_work"]) (sc := defScope sAll) (own := [("_law_work", 2)]) (by decide +kernel)) (fun _ _ _ _ _ => (pg_name (i := 2) sc.nd rfl (Or.inl rfl))) (fun _ _ _ _ _ => pts_one (pt_not (pt_val (pe_c cA hr h2 (by rfl) pass0 (pa_cons (pe_c cT hr h1 (by rfl) pass0 (pa_cons (pv 2) pa_nil)) (pa_cons (pv 1) pa_nil)))))) (fun _ _ _ _ _ => pv 2)) (pe_lst pa_nil) (nomark _)))), ?_⟩
    refine ⟨_, rfl, L, rfl, ⟨_, SqL.of hL⟩, fun DD hD => ?_⟩
    refine lc_list (K := K) (a := L) (xs := fs.map V.ref) (fun j H' => Same H H' ∧ H' DD = some (.lst [])) ⟨fun b o e => by rw [upd_ne (ne_of_none e hD)]; exact e, upd_same⟩ (fun j H4 _ h => h.1.seq (SqL.of hL)) ?_ ?_
    · rintro j x H4 hx ⟨sm, hl4⟩
      obtain ⟨g, eg, rfl⟩ : ∃ g, fs[j]? = some g ∧ x = V.ref g := by
        rw [List.getElem?_map] at hx
        cases z : fs[j]? with
        | none => rw [z] at hx; cases hx
        | some b => rw [z] at hx; exact ⟨b, rfl, (Option.some.inj hx).symm⟩
      refine ⟨rfl, _, rfl, hw g (List.mem_of_getElem? eg) H4 _ sm fun x H5 s5 hx5 => ?_⟩
      refine ⟨_, rfl, x, v, dd, rfl, hx5, dp_same s5 _ (dp_same sm _ hv), hf, hdp, _, rfl, ?_⟩
      exact iteF ⟨sm.trans s5, s5 _ _ hl4⟩
    · rintro H4 ⟨sm, hl4⟩
      refine ⟨Nat.zero_le _, fun E2 hE2 => ?_⟩
      have s6 := sameNew (o := .lst []) (Same.refl H4) hE2
      refine ⟨.list [], .list [], .lst (s6.seq (SqL.of hl4)) .nil, .lst (SqL.of upd_same) .nil, by decide +kernel, ?_⟩
      refine ⟨by decide +kernel, ?_⟩
      have e : PyData.eqv (.list []) (.list []) = true := by simp [PyData.eqv, PyData.eqvAll]
      rw [e]
      exact k _ (sm.trans s6)
end
end RS
set_option Elab.async false
set_option maxRecDepth 100000
set_option maxHeartbeats 4000000
namespace LM
open PySem PySem.Spec PyProof.Rows L2
open LamX (ExtN TabS TabB CodeO lamCx lamEnv)
/-! ### lambdas with one parameter that has a default -/
/-- the names of such a lambda: its parameter is no name of the maker's -/
structure LamSD (N : List Str) (sc scope : Scope) (p : Str) : Prop where
  kind : scope.kind = .function
  co : scope.isCoroutine = false
  gen : scope.isGenerator = false
  own : ∀ y ∈ scope.names, (y.2 = .local → y.1 ∉ N) ∧ y.2 ≠ .cell
  free : ∀ y ∈ scope.names, y.2 = .free → sc.names.lookup y.1 = some .cell ∨ sc.names.lookup y.1 = some .free
  par : scope.names.lookup p = some .local
def lamSDB (N : List Str) (sc scope : Scope) (p : Str) : Bool :=
  decide (scope.kind = .function) && !scope.isCoroutine && !scope.isGenerator && decide (scope.names.lookup p = some .local) && scope.names.all fun y => (!decide (y.2 = .local) || !decide (y.1 ∈ N)) && !decide (y.2 = .cell) && (!decide (y.2 = .free) || decide (sc.names.lookup y.1 = some .cell) || decide (sc.names.lookup y.1 = some .free))
theorem lamSD_by {N : List Str} {sc scope : Scope} {p : Str} (h : lamSDB N sc scope p = true) : LamSD N sc scope p := by
  unfold lamSDB at h
  simp only [Bool.and_eq_true, Bool.or_eq_true, Bool.not_eq_true', decide_eq_true_eq, decide_eq_false_iff_not, List.all_eq_true] at h
  obtain ⟨⟨⟨⟨h1, h2⟩, h3⟩, h5⟩, h4⟩ := h
  refine ⟨h1, h2, h3, fun y hy => ⟨fun e => ?_, (h4 y hy).1.2⟩, fun y hy e => ?_, h5⟩
  · rcases (h4 y hy).1.1 with z | z
    · exact absurd e z
    · exact z
  · rcases (h4 y hy).2 with (z | z) | z
    · exact absurd e z
    · exact .inl z
    · exact .inr z
theorem LamSD.has {N : List Str} {X : Cx} {scope : Scope} {p : Str} (L : LamSD N X.env.scope scope p) (ok : X.Ok) : ∀ y ∈ scope.names, y.2 = .free → ∃ c, X.env.cells.lookup y.1 = some c := fun y hy e => by
  rcases L.free y hy e with k | k
  · exact ok.has _ (.inl k)
  · exact ok.has _ (.inr k)
/-- the lambda with a default that stands at f -/
def IsLamD (H : Hp) (f : Addr) (q : Str) (params : Arguments) (body : Expr) (scope : Scope) (clos : List (Str × Addr)) : Prop :=
  ∃ (c' T0 : Addr) (u doc pm ctv : Value), H f = some (Pin (PySem.W.kdv_obj "<lambda>" q params (.expr body) scope clos (.ref T0) doc pm c' ctv)) ∧ H T0 = some (Pin (PySem.W.kdv_tup [u])) ∧ H c' = some (CodeO c' q)
theorem IsLamD.ext {H H' : Hp} {f : Addr} {q : Str} {params : Arguments} {body : Expr} {scope : Scope} {clos : List (Str × Addr)} (h : IsLamD H f q params body scope clos) (e : ExtN H H') : IsLamD H' f q params body scope clos := by
  obtain ⟨c', T0, u, doc, pm, ctv, h1, h2, h3⟩ := h
  exact ⟨c', T0, u, doc, pm, ctv, e _ _ h1 (fun ps z => nomatch z), e _ _ h2 (fun ps z => nomatch z), e _ _ h3 (fun ps z => LamX.codeO_ne ps z)⟩
theorem IsLamD.up {X : Cx} {σ : L2.St} {H G : Hp} {f : Addr} {q : Str} {params : Arguments} {body : Expr} {scope : Scope} {clos : List (Str × Addr)} (h : IsLamD H f q params body scope clos) (c : Caught X σ H G) : IsLamD G f q params body scope clos := by
  obtain ⟨c', T0, u, doc, pm, ctv, h1, h2, h3⟩ := h
  exact ⟨c', T0, u, doc, pm, ctv, c.some h1, c.some h2, c.some h3⟩
def tLamD (P : Addr) (q : Str) (params : Arguments) (body : Expr) (scope : Scope) (clos : List (Str × Addr)) : TE := fun _ H Q => TabS H P q ∧
  ∀ (f : Addr) (H1 : Hp), ExtN H H1 → TabS H1 P q → IsLamD H1 f q params body scope clos → H f = none → Q (.ref f) H1
section
variable {X : Cx}
theorem pe_lamD {c P : Addr} {params : Arguments} {body : Expr} {scope : Scope} {pos : Pos} {N : List Str} {p : Str} {e0 : Expr} {z : Int} (TB : TabB X.base X.mg c P) (hcode : X.env.code = .ref c) (L : LamSD N X.env.scope scope p) (hd : params.defaults = [e0]) (hk0 : params.kw_defaults = []) (he : PE X e0 (tC (.int z))) :
    PE X (.Lambda params body scope pos) (tLamD P (X.env.qual ++ "<lambda>") params body scope (cloFrom X.env.cells scope.names [])) := by
  refine ⟨fun pins s0 σ H0 Q I0 ⟨hT0, h0⟩ => ?_⟩
  refine PySem.W.kdv_lam (by rw [hd]; rfl) hk0 ?_
  rw [hd]
  refine PySem.W.kdv_all1 (thn (he.run pins s0 σ H0 (fun v H1 => H1 = H0) I0 rfl) fun u s1 ⟨v, H1, I1, r1, eH⟩ => ?_)
  subst eH
  refine PySem.W.kdv_all0 ?_
  rw [PySem.makeFunction_eq]
  simp only [List.zip_nil_right, List.filterMap_nil, List.isEmpty_nil, List.isEmpty_cons, Bool.false_eq_true, if_true, if_false, pure_bind]
  refine wpAny_bind (wpAny_newTextTuple ?_)
  have nT : H1 s1.heap.objs.size = none := I1.hok.fresh (Nat.le_refl _)
  have I := I1.laid (a := s1.heap.objs.size) (o := Pin (PySem.W.kdv_tup [u])) (t' := s1.toks) (h' := s1.heap.push (PySem.W.kdv_tup [u])) (fun b o e => Heap.get?_push_of_some _ e) (Nat.le_refl _) ⟨Heap.get?_push_size _ rfl, ⟨_, Heap.get?_push_size _ rfl⟩⟩
  have sT : ∀ b o, H1 b = some o → (upd H1 s1.heap.objs.size (Pin (PySem.W.kdv_tup [u]))) b = some o := fun b o e => (upd_ne (ne_of_none e nT)).trans e
  have hT := hT0.ext sT
  have hAt : (upd H1 s1.heap.objs.size (Pin (PySem.W.kdv_tup [u]))) s1.heap.objs.size = some (Pin (PySem.W.kdv_tup [u])) := upd_same
  have h : ∀ (f : Addr) (H2 : Hp), ExtN (upd H1 s1.heap.objs.size (Pin (PySem.W.kdv_tup [u]))) H2 → TabS H2 P (X.env.qual ++ "<lambda>") → IsLamD H2 f (X.env.qual ++ "<lambda>") params body scope (cloFrom X.env.cells scope.names []) → (upd H1 s1.heap.objs.size (Pin (PySem.W.kdv_tup [u]))) f = none → Q (.ref f) H2 := fun f H2 e t l n => h0 f H2 ((ExtN.of sT).trans e) t l (by
    cases q : H1 f with
    | none => rfl
    | some o => rw [sT f o q] at n; cases n)
  show wpAny _ _ (makeTail "<lambda>" (X.env.qual ++ "<lambda>") params (.expr body) scope X.env (.ref s1.heap.objs.size) .none none pos pos.line) _ _ { s1 with heap := s1.heap.push (PySem.W.kdv_tup [u]) }
  generalize eTT : s1.heap.objs.size = TT at hAt hT h I ⊢
  generalize upd H1 TT (Pin (PySem.W.kdv_tup [u])) = H at hAt hT h I ⊢
  generalize es : ({ s1 with heap := s1.heap.push (PySem.W.kdv_tup [u]) } : Shared) = s at I ⊢
  clear nT sT
  obtain ⟨ps, hP, ht, ha⟩ := id hT
  have hP' : s.heap.get? P = some { cls := .none, data := .fields ps } := I.hok P _ hP
  cases hc : codeAmong pos ps.toList with
  | none =>
    refine PySem.W.kdv_makeTail (mg := X.mg) (c := c) (P := P) (ps := ps) (closure_ok (L.has I.ok)) I.ok.glob (I.mod.glob.keeps I.bk) hcode (TB.code.keeps I.bk) hP' ht hc TB.gP (TB.bm.keeps I.bk) fun c' ctv doc g tk hx hge hlt hrec htb => ?_
    obtain ⟨c2, oc, vs, t, e2, hoc, hd, hv⟩ := hrec
    cases e2
    have nC : H c' = none := I.hok.fresh hge
    have I1 := LamX.inv_table (t' := tk) (q := X.env.qual ++ "<lambda>") (more := #[rawInt pos.line, rawInt pos.col, .ref c']) I hP (fun b o hb e => hx b o hb e) htb hge ⟨oc, vs, t, hoc, hd, hv⟩
    have I2 := I1.laid (a := g.objs.size) (o := Pin (PySem.W.kdv_obj "<lambda>" (X.env.qual ++ "<lambda>") params (.expr body) scope (cloFrom X.env.cells scope.names []) (.ref TT) doc ((X.mg "__name__").getD .none) c' ctv)) (t' := tk) (fun b u e => Heap.get?_push_of_some (h := g) _ e) (Nat.le_refl _) ⟨Heap.get?_push_size _ rfl, ⟨_, Heap.get?_push_size _ rfl⟩⟩
    have nF : H g.objs.size = none := I.hok.fresh (Nat.le_trans hge (Nat.le_of_lt hlt))
    have n1 : g.objs.size ≠ c' := Nat.ne_of_gt hlt
    have n2 : P ≠ g.objs.size := ne_of_none hP nF
    have n3 : P ≠ c' := ne_of_none hP nC
    have hE : ExtN H (upd (upd (upd H P (.tbl (ps ++ #[rawInt pos.line, rawInt pos.col, .ref c']))) c' (CodeO c' (X.env.qual ++ "<lambda>"))) g.objs.size (Pin (PySem.W.kdv_obj "<lambda>" (X.env.qual ++ "<lambda>") params (.expr body) scope (cloFrom X.env.cells scope.names []) (.ref TT) doc ((X.mg "__name__").getD .none) c' ctv))) := fun b o e n => by
      rw [upd_ne (ne_of_none e nF), upd_ne (ne_of_none e nC), upd_ne fun z => n ps (Option.some.inj (e.symm.trans (by rw [z]; exact hP)))]
      exact e
    have hC2 : (upd (upd (upd H P (.tbl (ps ++ #[rawInt pos.line, rawInt pos.col, .ref c']))) c' (CodeO c' (X.env.qual ++ "<lambda>"))) g.objs.size (Pin (PySem.W.kdv_obj "<lambda>" (X.env.qual ++ "<lambda>") params (.expr body) scope (cloFrom X.env.cells scope.names []) (.ref TT) doc ((X.mg "__name__").getD .none) c' ctv))) c' = some (CodeO c' (X.env.qual ++ "<lambda>")) := by
      rw [upd_ne (Ne.symm n1), upd_same]
    refine ⟨.ref g.objs.size, _, I2, rfl, h _ _ hE ⟨_, by rw [upd_ne n2, upd_ne n3, upd_same], ?_, fun p' cv hcv => ?_⟩ ⟨c', TT, u, doc, _, ctv, upd_same, hE _ _ hAt (fun ps z => nomatch z), hC2⟩ nF⟩
    · simp only [Array.toList_append]
      exact PySem.TriplesOk_snoc _ _ _ _ ht
    · simp only [Array.toList_append] at hcv
      rcases LamX.among_app _ ht hcv with z | z
      · obtain ⟨c0, y1, y2⟩ := ha p' cv z
        exact ⟨c0, y1, hE _ _ y2 (fun ps => LamX.codeO_ne ps)⟩
      · exact ⟨c', z, hC2⟩
  | some cv =>
    obtain ⟨c', rfl, hco⟩ := ha pos cv hc
    refine PySem.W.kdv_makeTailHit (mg := X.mg) (c := c) (P := P) (ps := ps) (closure_ok (L.has I.ok)) I.ok.glob (I.mod.glob.keeps I.bk) hcode (TB.code.keeps I.bk) hP' ht hc (TB.bm.keeps I.bk) fun ctv doc g tk hx hsz => ?_
    have I1 : Inv X pins σ H { s with heap := g, toks := tk } := I.kept hx
    have I2 := I1.laid (a := g.objs.size) (o := Pin (PySem.W.kdv_obj "<lambda>" (X.env.qual ++ "<lambda>") params (.expr body) scope (cloFrom X.env.cells scope.names []) (.ref TT) doc ((X.mg "__name__").getD .none) c' ctv)) (t' := tk) (fun b u e => Heap.get?_push_of_some (h := g) _ e) (Nat.le_refl _) ⟨Heap.get?_push_size _ rfl, ⟨_, Heap.get?_push_size _ rfl⟩⟩
    have nF : H g.objs.size = none := I.hok.fresh hsz
    have hE : ∀ b o, H b = some o → (upd H g.objs.size (Pin (PySem.W.kdv_obj "<lambda>" (X.env.qual ++ "<lambda>") params (.expr body) scope (cloFrom X.env.cells scope.names []) (.ref TT) doc ((X.mg "__name__").getD .none) c' ctv))) b = some o := fun b o e => by
      rw [upd_ne (ne_of_none e nF)]
      exact e
    exact ⟨.ref g.objs.size, _, I2, rfl, h _ _ (ExtN.of hE) (hT.ext hE) ⟨c', TT, u, doc, _, ctv, upd_same, hE _ _ hAt, hE _ _ hco⟩ nF⟩
/-- the lambda's own frame is entered -/
theorem lam_inD {σ : L2.St} {H G HZ : Hp} {A : Around} {outer : List Env} {E : XK} {scope : Scope} {p : Str} {f c' : Addr} {h₁ : Heap} {tk : Nat} {s1 : Shared} {m : Str → Option Value} (U : Caught X σ H G) (L : LamSD X.N X.env.scope scope p) (e0 : Env0 X.prog X.w X.K X.mg X.base A outer s1 (off X.env.cells HZ)) (hd : A.handled = none)
    (hz : ∀ b, Cell X.env.cells b → ∃ o, G b = some (Pin o) ∧ s1.heap.get? b = some o) (hns : h₁.Ns s1.heap.objs.size m) (kp : ∀ b o, s1.heap.get? b = some o → h₁.get? b = some o) :
    Inv (lamCx X A outer s1 (off X.env.cells HZ) E scope f c') [] σ (off X.env.cells HZ) { s1 with heap := h₁, toks := tk } := by
  have has : ∀ y ∈ scope.names, y.2 = .free → ∃ c, X.env.cells.lookup y.1 = some c := fun y hy e => U.has _ (L.free y hy e)
  have cm : ∀ {y c}, (cloFrom X.env.cells scope.names []).lookup y = some c → X.env.cells.lookup y = some c := fun {y c} e => by
    rcases cloFrom_mem (PySem.mem_of_lookup e) with z | ⟨h1, h2⟩
    · cases z
    · obtain ⟨c1, hc⟩ := has _ h1 rfl
      have hc : X.env.cells.lookup y = some c1 := hc
      rw [hc] at h2
      rw [h2]
      exact hc
  have look : ∀ {y}, scope.names.lookup y = some .free → ∃ c, (cloFrom X.env.cells scope.names []).lookup y = some c := fun {y} hl =>
    mem_lookup (cloFrom_has (cells := X.env.cells) (acc := []) (PySem.mem_of_lookup hl))
  have isC : ∀ {y c}, X.env.cells.lookup y = some c → ∃ v, h₁.IsCell c v := fun {y c} e => by
    obtain ⟨o, v, g, d⟩ := U.held c ⟨y, e⟩
    obtain ⟨o', g', k⟩ := hz c ⟨y, e⟩
    rw [g] at g'
    have : o = o' := by injection g' with g'; injection g'
    subst this
    exact ⟨v, o, kp _ _ k, d⟩
  have noex : ∀ b : Addr, b ∉ (lamCx X A outer s1 (off X.env.cells HZ) E scope f c').ex := fun b z => nomatch (show b ∈ ([] : List Addr) from z)
  refine ⟨⟨e0.mod, L.kind, rfl, rfl, Nat.le_refl _, fun y z c e1 e2 => U.inj y z c (cm e1) (cm e2), fun y hy => ?_, fun y c z _ => Bool.noConfusion (show false = true from z), fun _ => hd, Around.frames_deeper e0.frames, .inr ⟨rfl, rfl⟩, fun b z => absurd z (noex b), e0.bs, e0.bsz, fun b _ _ => noex b,
      fun b z => absurd z (noex b), e0.funs, e0.frf⟩,
    rfl, e0.bare, Un.kept kp, ⟨_, hns, fun i y v e1 e2 e3 => ?_⟩, fun y c e => isC (cm e), e0.hok.fresh (Nat.le_refl _), fun y c e => off_c ⟨y, cm e⟩, fun q hq => absurd (show q ∈ ([] : List (Addr × Obj)) ++ [] from hq) (by simp), e0.hok.kept kp, U.len⟩
  · have hy : scope.names.lookup y = some .cell ∨ scope.names.lookup y = some .free := hy
    rcases hy with hy | hy
    · exact absurd rfl (L.own _ (PySem.mem_of_lookup hy)).2
    · exact look hy
  · have e3 : Vis scope y := e3
    rcases e3 with k | k | k
    · exact absurd (List.mem_of_getElem? (show X.N[i]? = some y from e1)) ((L.own _ (PySem.mem_of_lookup k)).1 rfl)
    · exact absurd rfl (L.own _ (PySem.mem_of_lookup k)).2
    · obtain ⟨c, o, u, h1, h2, h3, r⟩ := U.val i y v e1 e2 (L.free _ (PySem.mem_of_lookup k) rfl)
      obtain ⟨c2, z⟩ := look k
      have := cm z
      rw [h1] at this
      cases this
      obtain ⟨o', g', kk⟩ := hz c ⟨y, h1⟩
      rw [h2] at g'
      have : o = o' := by injection g' with g'; injection g'
      subst this
      exact ⟨u, r, .inr ⟨.inr k, c, z, o, kp _ _ kk, h3⟩⟩
/-- what such a lambda does where it is called -/
theorem lam_actD {σ : L2.St} {H G : Hp} {params : Arguments} {body : Expr} {scope : Scope} {p : Str} {f : Addr} {k : Nat} {t : XK → TE} (U : Caught X σ H G) (L : LamSD X.N X.env.scope scope p) (hl : IsLamD G f (X.env.qual ++ "<lambda>") params body scope (cloFrom X.env.cells scope.names []))
    (hbind : ∀ (s : Shared) (q : Str) (cl : List (Str × Addr)) (T0 : Addr) (u doc pm cv ctv : Value), s.heap.get? T0 = some (PySem.W.kdv_tup [u]) → BindsTo s (PySem.W.kdv_fn "<lambda>" q params (.expr body) scope cl (.ref T0) doc pm cv ctv) ⟨[], []⟩ [(p, u)])
    (hbody : ∀ (A : Around) (outer : List Env) (s : Shared) (H : Hp) (E : XK) (c' : Addr), Room k (A.deeper (lamEnv X scope s.heap.objs.size f c')) → PE (lamCx X A outer s H E scope f c') body (t E)) :
    ∃ R : Hp → Prop, R G ∧ Act X.prog X.w X.K X.mg X.base (k + 1) f R (fun H Q E => t (fun c d H' => Loose X.env.cells H' → E c d (back X.env.cells H H')) σ (off X.env.cells H) (fun v H' => Loose X.env.cells H' → Q v (back X.env.cells H H'))) := by
  obtain ⟨c', T0, u, doc, pm, ctv, h1, h0, h2⟩ := hl
  refine ⟨fun HZ => HZ f = G f ∧ HZ T0 = G T0 ∧ HZ c' = G c' ∧ ∀ b, Cell X.env.cells b → HZ b = G b, ⟨rfl, rfl, rfl, fun _ _ => rfl⟩, ⟨fun H H' e ⟨r1, r0, r2, r3⟩ => ⟨?_, ?_, ?_, fun b c => ?_⟩, fun s H ⟨r1, _, _, _⟩ ok => ?_, fun A outer s HZ Q E hr e0 ⟨r1, r0, r2, r3⟩ ht => ?_⟩⟩
  · rw [h1] at r1 ⊢
    exact e _ _ r1
  · rw [h0] at r0 ⊢
    exact e _ _ r0
  · rw [h2] at r2 ⊢
    exact e _ _ r2
  · obtain ⟨o, z⟩ := U.hd b c
    have r3 := r3 b c
    rw [z] at r3 ⊢
    exact e _ _ r3
  · rw [h1] at r1
    exact ⟨_, _, _, _, pin_at ok r1⟩
  have hd : Held X.env.cells HZ := fun b c => by
    rw [r3 b c]
    exact U.hd b c
  have nf : ∀ b, Cell X.env.cells b → b ∉ frs outer := fun b c z => by
    obtain ⟨o, y⟩ := hd b c
    rw [e0.frf b z] at y
    cases y
  rw [h1] at r1
  rw [h0] at r0
  rw [h2] at r2
  have of1 := pin_at e0.hok r1
  have of0 := pin_at e0.hok r0
  obtain ⟨⟨oc, vs, tt, hoc, hdc, hvc⟩, _, _⟩ := e0.hok c' _ r2
  have e1 := env_off hd e0
  have lim : s.heap.NoLimit := e0.mod.nolimit.keeps fun b o e => (e0.bs b o e).1
  refine codeAny_mono (R := CR (L2.CX X.prog X.w) outer X.prog X.w (off X.env.cells HZ) s (fun v H' => Loose X.env.cells H' → Q v (back X.env.cells HZ H')) (fun c d H' => Loose X.env.cells H' → E c d (back X.env.cells HZ H'))) ?_ fun r s' hq => cr_back hd e0.hok nf hq
  refine PySem.W.kla_callFunE hr.depth of1 rfl L.co L.gen rfl ⟨c', oc, vs, tt, rfl, hoc, hdc, hvc⟩ ?_
  refine hbind s _ _ T0 u _ _ _ _ of0 _ _ _ _ ?_
  refine wpAny_newFunctionEnv (fun y hy => (L.own y hy).2) (fun y hy => ?_) (fun h₁ hns hsb => ⟨lim.fresh _ hsb, ?_⟩) L.kind
  · rw [List.mem_singleton.mp hy]
    exact L.par
  show codeAny _ _ (.expr body (lamEnv X scope s.heap.objs.size f c')) _ _
  have kp : ∀ b o, s.heap.get? b = some o → h₁.get? b = some o := fun b o e => hsb.extBut b o (Nat.ne_of_lt (Heap.lt_size e)) (Heap.get?_push_of_some _ e)
  have J := lam_inD (E := fun c d H' => Loose X.env.cells H' → E c d (back X.env.cells HZ H')) (scope := scope) (f := f) (c' := c') (tk := s.toks + ([(p, u)] : List (Str × Value)).length) U L e1 hr.hd (fun b c => by
    obtain ⟨o, z⟩ := U.hd b c
    exact ⟨o, z, pin_at e0.hok ((r3 b c).trans z)⟩) hns kp
  refine PySem.W.kla_codeExpr (wpAny_mono ((hbody _ _ s (off X.env.cells HZ) _ c' (hr.deeper _)).run [] _ _ (off X.env.cells HZ) _ J ht) (fun v s' hq => ?_) fun e s' hq => hq)
  obtain ⟨w', H', J', rv, q⟩ := hq
  exact ⟨w', H', J'.os, J'.bare, J'.base, J'.hok, rv, q⟩
end
end LM
set_option Elab.async false
set_option maxRecDepth 100000
set_option maxHeartbeats 4000000
namespace RS
open PySem PySem.Spec PyProof.Rows L2 GX
/-- the tables put away -/
def noT (H : Hp) : Hp := fun b => match H b with
  | some (.tbl _) => none
  | o => o
theorem noT_at {H : Hp} {b : Addr} {o : HO} (e : H b = some o) (n : ∀ ps, o ≠ .tbl ps) : noT H b = some o := by
  unfold noT
  rw [e]
  cases o <;> first | rfl | exact absurd rfl (n _)
theorem noT_of {H : Hp} {b : Addr} {o : HO} (e : noT H b = some o) : H b = some o ∧ ∀ ps, o ≠ .tbl ps := by
  unfold noT at e
  cases q : H b with
  | none => rw [q] at e; cases e
  | some u =>
    rw [q] at e
    cases u <;> first
      | exact ⟨e, fun ps z => by cases z; cases e⟩
      | (cases e)
theorem noT_none {H : Hp} {b : Addr} (e : H b = none) : noT H b = none := by
  unfold noT
  rw [e]
theorem noT_same (H : Hp) : Same (noT H) H := fun _ _ e => (noT_of e).1
theorem noT_up {H H' : Hp} (s : Same (noT H) H') : Same (noT H) (noT H') := fun b o e => noT_at (s b o e) (noT_of e).2
theorem noT_ext {H H' : Hp} (s : LamX.ExtN H H') : Same (noT H) H' := fun b o e => s b o (noT_of e).1 (noT_of e).2
theorem noT_mono {H H' : Hp} (s : Same H H') : Same (noT H) (noT H') := noT_up ((noT_same H).trans s)
theorem sqT_noT {K : PySem.W.Frag} {H : Hp} {a : Addr} {xs : List V} (h : SqT K H a xs) : SqT K (noT H) a xs := by
  rcases h with (h | ⟨o, h⟩) | h
  · exact .inl (.inl (noT_at h (fun _ z => by cases z)))
  · exact .inl (.inr ⟨o, noT_at h (fun _ z => by cases z)⟩)
  · exact .inr h
theorem sqL_noT {K : PySem.W.Frag} {H : Hp} {a : Addr} {xs : List V} (h : SqL K H a xs) : SqL K (noT H) a xs := by
  rcases h with (h | ⟨o, h⟩) | h
  · exact .inl (.inl (noT_at h (fun _ z => by cases z)))
  · exact .inl (.inr ⟨o, noT_at h (fun _ z => by cases z)⟩)
  · exact .inr h
mutual
theorem dp_noT {K : PySem.W.Frag} {H : Hp} : ∀ (d : PyData) {v : V}, Dp K H v d → Dp K (noT H) v d
  | .none, _, .non => .non
  | .bool b, _, .bl _ => .bl b
  | .int i, _, .int _ => .int i
  | .str x, _, .str _ => .str x
  | .list ds, _, .lst h hs => .lst (sqL_noT h) (dpAll_noT ds hs)
  | .tuple ds, _, .tup h hs => .tup (sqT_noT h) (dpAll_noT ds hs)
  | .dict _, _, h => nomatch h
theorem dpAll_noT {K : PySem.W.Frag} {H : Hp} : ∀ (ds : List PyData) {vs : List V}, DpAll K H vs ds → DpAll K (noT H) vs ds
  | [], _, .nil => .nil
  | d :: ds, _, .cons h hs => .cons (dp_noT d h) (dpAll_noT ds hs)
end
end RS
set_option Elab.async false
set_option maxRecDepth 100000
set_option maxHeartbeats 4000000
namespace RS
open PySem PySem.Spec PyProof.Rows L2 GX LM
/-- an error class as the law looks at it -/
structure ErrP (K : PySem.W.Frag) (SE : Addr) (C15 : Nat → Addr) (C : Addr) (j : Nat) : Prop where
  own : Own15 K C15 C j
  exm : PySem.W.exmOne K (.ref C) (.ref SE) = some true
  pl : ¬ (j = 3 ∨ j = 2 ∨ j = 14)
theorem err_pl {K : PySem.W.Frag} {SE C : Addr} {C15 : Nat → Addr} {j : Nat} {nm : Str} {cl : List (Str × Addr)} {H1 H2 : Hp} {Q1 : VK} (e : ErrP K SE C15 C j) (hn : nm15.getD j "" = nm) (so : ∀ b o, off cl H1 b = some o → H2 b = some o) (told : ∀ x H', Same H1 H' → Dp K H' x (.tuple [.str nm, .int 0]) → Q1 x H') :
    ErrOk K SE C15 Q1 (.ref C) none (back cl H1 H2) :=
  ⟨C, j, 0, rfl, e.own, e.exm, (fun d z => nomatch z), by unfold ErrV; rw [if_neg e.pl], fun H4 t s4 ht4 => by
    rw [hn] at ht4
    exact told _ _ (fun b o z => s4 b o (back_same so b o z)) (.tup (SqT.of ht4) (.cons (.str _) (.cons (.int _) .nil)))⟩
section
variable {X : Cx} {σ : L2.St} {H G : Hp} {params : Arguments} {body : Expr} {scope : Scope} {f SE CE : Addr} {C15 : Nat → Addr} {j : Nat} {t : XK → TE} {nm p : Str}
/-- a lambda that is refused -/
theorem works_pl (e : ErrP X.K SE C15 CE j) (hn : nm15.getD j "" = nm) (ca : Caught X σ H G) (L : LamX.LamS X.env.scope scope) (hl : IsLam H f (X.env.qual ++ "<lambda>") params body scope (cloFrom X.env.cells scope.names []))
    (hbind : ∀ (q : Str) (cl : List (Str × Addr)) (pm cv ctv : Value), bindArgs (PySem.W.kla_fn "<lambda>" q params body scope cl pm cv ctv) ⟨[], []⟩ = pure [])
    (hbody : ∀ (A : Around) (outer : List Env) (s : Shared) (H : Hp) (E : XK) (c' : Addr), Room 6 (A.deeper (LamX.lamEnv X scope s.heap.objs.size f c')) → PE (LamX.lamCx X A outer s H E scope f c') body (t E))
    (hm : ∀ (Hx : Hp) (E : XK) (Q : VK), Same H Hx → (∀ H' : Hp, Same Hx H' → E (.ref CE) none H') → t E σ Hx Q) :
    Works X.prog X.w X.K X.mg X.base SE C15 7 f G (.tuple [.str nm, .int 0]) := by
  intro H2 Q1 s2 told
  obtain ⟨R, rG, act⟩ := lam_act (k := 6) ca L (hl.up ca) hbind hbody
  refine ⟨f, R, _, rfl, act, act.same _ _ s2 rG, fun E hE => ?_⟩
  exact hm _ _ _ (caught_same ca s2) fun H3 s3 lo => hE _ _ _ (err_pl e hn s3 told)
theorem works_plD (e : ErrP X.K SE C15 CE j) (hn : nm15.getD j "" = nm) (ca : Caught X σ H G) (L : LamSD X.N X.env.scope scope p) (hl : IsLamD H f (X.env.qual ++ "<lambda>") params body scope (cloFrom X.env.cells scope.names []))
    (hbind : ∀ (s : Shared) (q : Str) (cl : List (Str × Addr)) (T0 : Addr) (u doc pm cv ctv : Value), s.heap.get? T0 = some (PySem.W.kdv_tup [u]) → BindsTo s (PySem.W.kdv_fn "<lambda>" q params (.expr body) scope cl (.ref T0) doc pm cv ctv) ⟨[], []⟩ [(p, u)])
    (hbody : ∀ (A : Around) (outer : List Env) (s : Shared) (H : Hp) (E : XK) (c' : Addr), Room 6 (A.deeper (LamX.lamEnv X scope s.heap.objs.size f c')) → PE (LamX.lamCx X A outer s H E scope f c') body (t E))
    (hm : ∀ (Hx : Hp) (E : XK) (Q : VK), Same H Hx → (∀ H' : Hp, Same Hx H' → E (.ref CE) none H') → t E σ Hx Q) :
    Works X.prog X.w X.K X.mg X.base SE C15 7 f G (.tuple [.str nm, .int 0]) := by
  intro H2 Q1 s2 told
  obtain ⟨R, rG, act⟩ := lam_actD (k := 6) ca L (hl.up ca) hbind hbody
  refine ⟨f, R, _, rfl, act, act.same _ _ s2 rG, fun E hE => ?_⟩
  exact hm _ _ _ (caught_same ca s2) fun H3 s3 lo => hE _ _ _ (err_pl e hn s3 told)
end
/-! ### a list of lambdas that grows -/
def ExtW (W : Addr) (H H' : Hp) : Prop := ∀ b o, H b = some o → b ≠ W → (∀ ps, o ≠ .tbl ps) → H' b = some o
theorem ExtW.of {W : Addr} {H H' : Hp} (e : LamX.ExtN H H') : ExtW W H H' := fun b o h _ n => e b o h n
theorem ExtW.trans {W : Addr} {H H1 H2 : Hp} (a : ExtW W H H1) (b : ExtW W H1 H2) : ExtW W H H2 := fun c o h n t => b c o (a c o h n t) n t
theorem ExtW.upd {W : Addr} {H : Hp} {o : HO} : ExtW W H (upd H W o) := fun b u h n _ => (upd_ne n).trans h
theorem ExtW.ext {W : Addr} {H H' : Hp} (e : ExtW W H H') (n : H W = none) : LamX.ExtN H H' := fun b o h t => e b o h (fun z => by rw [z, n] at h; cases h) t
theorem IsLam.w {W : Addr} {H H' : Hp} {xs : List V} {f : Addr} {q : Str} {params : Arguments} {body : Expr} {scope : Scope} {clos : List (Str × Addr)} (h : IsLam H f q params body scope clos) (hW : H W = some (.lst xs)) (e : ExtW W H H') : IsLam H' f q params body scope clos := by
  obtain ⟨c', pm, ctv, h1, h2⟩ := h
  exact ⟨c', pm, ctv, e _ _ h1 (fun z => by rw [z, hW] at h1; cases h1) (fun ps z => nomatch z), e _ _ h2 (fun z => by rw [z, hW] at h2; unfold LamX.CodeO at h2; cases h2) (fun ps z => LamX.codeO_ne ps z)⟩
theorem IsLamD.w {W : Addr} {H H' : Hp} {xs : List V} {f : Addr} {q : Str} {params : Arguments} {body : Expr} {scope : Scope} {clos : List (Str × Addr)} (h : IsLamD H f q params body scope clos) (hW : H W = some (.lst xs)) (e : ExtW W H H') : IsLamD H' f q params body scope clos := by
  obtain ⟨c', T0, u, doc, pm, ctv, h1, h2, h3⟩ := h
  exact ⟨c', T0, u, doc, pm, ctv, e _ _ h1 (fun z => by rw [z, hW] at h1; cases h1) (fun ps z => nomatch z), e _ _ h2 (fun z => by rw [z, hW] at h2; cases h2) (fun ps z => nomatch z), e _ _ h3 (fun z => by rw [z, hW] at h3; unfold LamX.CodeO at h3; cases h3) (fun ps z => LamX.codeO_ne ps z)⟩
theorem tabS_updW {H : Hp} {P a : Addr} {q : Str} {xs u : List V} (t : LamX.TabS H P q) (h : H a = some (.lst xs)) : LamX.TabS (upd H a (.lst u)) P q := by
  obtain ⟨ps, h1, h2, h3⟩ := t
  refine ⟨ps, (upd_ne (fun z => by rw [z, h] at h1; cases h1)).trans h1, h2, fun pos cv hc => ?_⟩
  obtain ⟨c, e1, e2⟩ := h3 pos cv hc
  refine ⟨c, e1, (upd_ne (fun z => ?_)).trans e2⟩
  rw [z, h] at e2
  unfold LamX.CodeO at e2
  cases e2
end RS
set_option Elab.async false
set_option maxRecDepth 100000
set_option maxHeartbeats 4000000
namespace RS
open PySem PySem.Spec PyProof.Rows L2 GX
theorem perm_erase {α : Type} : ∀ {l : List α} {k : Nat} {x : α}, l[k]? = some x → l.Perm (x :: l.eraseIdx k)
  | [], k, x, h => by simp at h
  | y :: l, 0, x, h => by
    simp at h
    subst h
    exact List.Perm.refl _
  | y :: l, k + 1, x, h => by
    have ih := perm_erase (l := l) (k := k) (x := x) (by simpa using h)
    exact (ih.cons y).trans (List.Perm.swap x y _)
theorem map_erase {α β : Type} (f : α → β) : ∀ (l : List α) (k : Nat), (l.map f).eraseIdx k = (l.eraseIdx k).map f
  | [], _ => rfl
  | _ :: _, 0 => rfl
  | x :: l, k + 1 => by
    show f x :: (l.map f).eraseIdx k = f x :: (l.eraseIdx k).map f
    rw [map_erase f l k]
theorem seqIx {k n : Nat} (h : k < n) : seqIndex? (k : Int) n = some k := by
  simp [seqIndex?]
  omega
section
variable {P : Program} {w : World} {K : PySem.W.Frag} {mg : Str → Option Value} {base : Heap}
theorem dpNats {H : Hp} : ∀ ns : List Nat, DpAll K H (ns.map fun c => V.int (c : Nat)) (ns.map fun c => .int (c : Nat))
  | [] => .nil
  | _ :: ns => .cons (.int _) (dpNats ns)
end
end RS
set_option Elab.async false
set_option maxRecDepth 100000
set_option maxHeartbeats 4000000
namespace RS
open PySem PySem.Spec PyProof.Rows L2 GX
/-- a new object in a heap that differs by the drawer -/
theorem alX {B L e : Addr} {H H1 : Hp} {o : HO} (s : SameX B L H H1) (hb : BoxAt H B L) (b : BoxAt H1 B L) (he : H1 e = none) : SameX B L H (upd H1 e o) ∧ BoxAt (upd H1 e o) B L ∧ e ≠ B ∧ e ≠ L := by
  obtain ⟨n1, n2⟩ := b.nb he
  exact ⟨s.new (s.free hb he b), b.upd_ n1 n2, n1, n2⟩
section
variable {P : Program} {w : World} {K : PySem.W.Frag} {mg : Str → Option Value} {base : Heap}
theorem scLens : FnScope ["_law_box", "_law_most", "_law_found", "_law_k", "_law_some"] ["_law_box", "_law_most"] (defScope s__law_lengths) := ⟨rfl, rfl, rfl, by decide +kernel, rfl, by decide +kernel, by decide +kernel⟩
def spLens : Sp := fun vs H Q _ => ∃ (B L : Addr) (m : Nat), vs = [.ref B, .int (m : Nat)] ∧ BoxAt H B L ∧ 1 ≤ m ∧ m ≤ 40 ∧
  ∀ (H' : Hp) (a : Addr) (ls : List Nat), SameX B L H H' → BoxAt H' B L → OkLens ls → ls.length ≤ m → H a = none → H' a = some (.lst (ls.map fun n => V.int (n : Nat))) → Q (.ref a) H'
theorem lens_ok {c : Addr} (D : DefAt K mg "_law_lengths" s__law_lengths c) (T : Txt K mg) (cT : Cal P w K mg base CX0 1 "_law_take" ["_law_box", "_law_many"] spTake) : Cal P w K mg base CX0 2 "_law_lengths" ["_law_box", "_law_most"] spLens := by
  have sc := scLens
  refine def_ok0 D sc (fun vs H Q E h => ?_) (fun _ _ _ _ _ _ us hl => match us, hl with | [_, _], _ => rfl) (fun f A outer s H vs Q E hr h => ?_)
  · obtain ⟨B, L, m, rfl, _⟩ := h
    rfl
  · obtain ⟨B, L, m, rfl, hb, m1, m40, k⟩ := h
    refine ⟨_, (pss_cons (ps_set (i := 2) sc.nd rfl (Or.inl rfl) (pe_lst pa_nil)) (pss_cons (ps_for PassesOwn.never rfl (pi_range1 (by rfl) T.range (pa_cons (pe_op op_add pe_int (pe_c cT hr (by decide) (by rfl) pass0 (pa_cons (pv 0) (pa_cons (pv 1) pa_nil)))) pa_nil)) (pg_name (i := 3) sc.nd rfl (Or.inl rfl)) (pss_cons (ps_set (i := 4) sc.nd rfl (Or.inl rfl) (pe_lst (pa_cons (pe_op op_add pe_int (pe_c cT hr (by decide) (by rfl) pass0 (pa_cons (pv 0) (pa_cons pe_int pa_nil)))) (pa_cons (pe_op op_add pe_int (pe_c cT hr (by decide) (by rfl) pass0 (pa_cons (pv 0) (pa_cons pe_int pa_nil)))) (pa_cons (pe_op op_add (pv 3) pe_int) (pa_cons (pe_op op_add pe_int (pe_c cT hr (by decide) (by rfl) pass0 (pa_cons (pv 0) (pa_cons (pe_op op_pow pe_int pe_int) pa_nil)))) (pa_cons (pe_op op_pow pe_int pe_int) pa_nil))))))) (pss_one (ps_expr (pe_bm PySem.F.plainAttrs_list PySem.F.slot_list_append PySem.F.type_list_append mt_append (pv 2) (pa_cons (pe_ix ix_list (pv 4) (pe_ix ix_list (pe_lst (pa_cons pe_int (pa_cons pe_int (pa_cons pe_int (pa_cons pe_int (pa_cons pe_int (pa_cons pe_int pa_nil))))))) (pe_c cT hr (by decide) (by rfl) pass0 (pa_cons (pv 0) (pa_cons pe_int pa_nil))) (fun _ _ => rfl)) (fun _ _ => rfl)) pa_nil)))))) (pss_one (ps_ret (pv 2))))), ?_⟩
    refine ⟨Nat.zero_le _, fun F hF => ?_⟩
    obtain ⟨s0, b0, nFB, nFL⟩ := alX (o := .lst []) SameX.refl hb hb hF
    refine ⟨_, rfl, _, rfl, B, L, _, rfl, b0, by omega, by omega, fun H1 n s1 b1 n0 n1 => ?_⟩
    refine ⟨_, _, rfl, rfl, _, rfl, by omega, by omega, ?_⟩
    rw [show (1 + n).toNat = n.toNat + 1 by omega]
    have hF1 : H1 F = some (.lst []) := s1 _ _ nFB nFL upd_same
    have sA := s0.trans s1
    refine for_range (fun i σ H' => ∃ (v3 v4 : Option V) (ls : List Nat), σ = [some (.ref B), some (.int (m : Nat)), some (.ref F), v3, v4] ∧ SameX B L H H' ∧ BoxAt H' B L ∧ H' F = some (.lst (ls.map fun n => V.int (n : Nat))) ∧ ls.length = i ∧ ∀ x ∈ ls, 1 ≤ x ∧ x ≤ 1000000)
      ⟨none, none, [], rfl, sA, b1, hF1, rfl, (fun _ h => nomatch h)⟩ ?_ ?_
    · rintro i σ H2 hi ⟨v3, v4, ls, rfl, sm, b2, hF2, li, ok⟩
      have pw : ((10 : Int) ^ (6 : Int).toNat) = 1000000 := by decide +kernel
      refine ⟨_, rfl, B, L, 9, rfl, b2, by decide, by decide, fun H3 x1 s3 b3 p0 p1 => ?_⟩
      refine ⟨_, _, rfl, rfl, _, rfl, B, L, 2, rfl, b3, by decide, by decide, fun H4 x2 s4 b4 q0 q1 => ?_⟩
      refine ⟨_, _, rfl, rfl, _, rfl, _, _, rfl, rfl, _, rfl, _, _, rfl, rfl, ⟨by decide, by decide, by decide⟩, B, L, _, rfl, b4, by rw [pw]; decide, by rw [pw]; decide, fun H5 x3 s5 b5 r0 r1 => ?_⟩
      refine ⟨_, _, rfl, rfl, _, _, rfl, rfl, ⟨by decide, by decide, by decide⟩, by show 5 ≤ sizeLine; decide, fun e he => ?_⟩
      have sB := ((sm.trans s3).trans s4).trans s5
      obtain ⟨s6, b6, e1, e2⟩ := alX (o := .lst [.int (1 + x1), .int (1 + x2), .int (0 + (i : Nat) + 1), .int (1 + x3), .int ((10 : Int) ^ (6 : Int).toNat)]) sB hb b5 he
      have hF5 := s5 _ _ nFB nFL (s4 _ _ nFB nFL (s3 _ _ nFB nFL hF2))
      have neF : F ≠ e := fun z => by rw [← z, hF5] at he; cases he
      have hF6 : upd H5 e (.lst [.int (1 + x1), .int (1 + x2), .int (0 + (i : Nat) + 1), .int (1 + x3), .int ((10 : Int) ^ (6 : Int).toNat)]) F = some (.lst (ls.map fun n => V.int (n : Nat))) := (upd_ne neF).trans hF5
      have he6 : upd H5 e (.lst [.int (1 + x1), .int (1 + x2), .int (0 + (i : Nat) + 1), .int (1 + x3), .int ((10 : Int) ^ (6 : Int).toNat)]) e = some (.lst [.int (1 + x1), .int (1 + x2), .int (0 + (i : Nat) + 1), .int (1 + x3), .int ((10 : Int) ^ (6 : Int).toNat)]) := upd_same
      generalize upd H5 e (.lst [.int (1 + x1), .int (1 + x2), .int (0 + (i : Nat) + 1), .int (1 + x3), .int ((10 : Int) ^ (6 : Int).toNat)]) = H6 at s6 b6 hF6 he6 ⊢
      refine ⟨_, rfl, .inl ⟨rfl, _, SqL.of hF6⟩, _, rfl, by show 6 ≤ sizeLine; decide, fun g hg => ?_⟩
      obtain ⟨s7, b7, g1, g2⟩ := alX (o := .lst [.int 0, .int 0, .int 1, .int 2, .int 3, .int 4]) s6 hb b6 hg
      refine ⟨_, rfl, B, L, 6, rfl, b7, by decide, by decide, fun H8 x4 s8 b8 t0 t1 => ?_⟩
      have ng : F ≠ g := fun z => by rw [← z, hF6] at hg; cases hg
      have nge : e ≠ g := fun z => by rw [← z, he6] at hg; cases hg
      have hF8 := s8 _ _ nFB nFL ((upd_ne ng).trans hF6)
      have he8 := s8 _ _ e1 e2 ((upd_ne nge).trans he6)
      have hg8 := s8 _ _ g1 g2 upd_same
      obtain ⟨j, hj, j4⟩ : ∃ j : Nat, atI [V.int 0, V.int 0, V.int 1, V.int 2, V.int 3, V.int 4] x4 = some (.int (j : Nat)) ∧ j < 5 := by
        rcases (by omega : x4 = 0 ∨ x4 = 1 ∨ x4 = 2 ∨ x4 = 3 ∨ x4 = 4 ∨ x4 = 5) with e | e | e | e | e | e <;> subst e
        · exact ⟨0, atI_nat (j := 0) rfl, by decide⟩
        · exact ⟨0, atI_nat (j := 1) rfl, by decide⟩
        · exact ⟨1, atI_nat (j := 2) rfl, by decide⟩
        · exact ⟨2, atI_nat (j := 3) rfl, by decide⟩
        · exact ⟨3, atI_nat (j := 4) rfl, by decide⟩
        · exact ⟨4, atI_nat (j := 5) rfl, by decide⟩
      obtain ⟨y, hy, y1, y2⟩ : ∃ y : Nat, [V.int (1 + x1), .int (1 + x2), .int (0 + (i : Nat) + 1), .int (1 + x3), .int ((10 : Int) ^ (6 : Int).toNat)][j]? = some (.int (y : Nat)) ∧ 1 ≤ y ∧ y ≤ 1000000 := by
        rcases (by omega : j = 0 ∨ j = 1 ∨ j = 2 ∨ j = 3 ∨ j = 4) with e | e | e | e | e <;> subst e
        · exact ⟨(1 + x1).toNat, congrArg (fun z => some (V.int z)) (Int.toNat_of_nonneg (by omega)).symm, by omega, by omega⟩
        · exact ⟨(1 + x2).toNat, congrArg (fun z => some (V.int z)) (Int.toNat_of_nonneg (by omega)).symm, by omega, by omega⟩
        · exact ⟨i + 1, congrArg (fun z => some (V.int z)) (by omega), by omega, by omega⟩
        · exact ⟨(1 + x3).toNat, congrArg (fun z => some (V.int z)) (Int.toNat_of_nonneg (by omega)).symm, by omega, by omega⟩
        · exact ⟨1000000, congrArg (fun z => some (V.int z)) pw, by decide, by decide⟩
      refine ⟨g, _, x4, _, rfl, rfl, SqL.of hg8, hj, e, _, _, _, rfl, rfl, SqL.of he8, atI_nat hy, ?_⟩
      refine ⟨F, _, _, rfl, rfl, hF8, small1000 (by rw [List.length_map]; omega), ?_⟩
      refine ⟨_, _, ls ++ [y], rfl, (s7.trans s8).new hF, b8.upd_ nFB nFL, ?_, by rw [List.length_append, li]; rfl, fun x hx => ?_⟩
      · rw [upd_same, List.map_append]
        rfl
      · rcases List.mem_append.mp hx with hx | hx
        · exact ok x hx
        · rw [List.mem_singleton.mp hx]
          exact ⟨y1, y2⟩
    · rintro σ H2 ⟨v3, v4, ls, rfl, sm, b2, hF2, li, ok⟩
      exact ⟨_, rfl, k H2 F ls sm b2 ⟨by omega, by omega, ok⟩ (by omega) hF hF2⟩
end
end RS
set_option Elab.async false
set_option maxRecDepth 100000
set_option maxHeartbeats 4000000
namespace RS
open PySem PySem.Spec PyProof.Rows L2 GX
section
variable {X : Cx} {o e : Expr} {es : List Expr} {to : TE} {t : TA} {name : Str} {apos cpos : Pos} {T id : String} {r : V → List V → Hp → VK → Prop} {K : PySem.W.Frag}
/-- a method called where the frame's own facts are named -/
theorem pe_bmC (eK : X.K = K) (pa : PlainAttrs T) (slot : Slot T name id) (hty : typeOf (.builtin id) = pure (.type "method_descriptor")) (hm : MtR X id r) (ho : PE X o to) (ha : PA X (e :: es) t) (h1 : attributeBase o name X.env (eval o X.env) = eval o X.env := by rfl) (h2 : ((backTo cpos (starEach (e :: es) X.env)).all (fun x => !x.1) && (backToKw cpos (keywordEach [] X.env)).all (fun x => x.1.isSome) && decide ((e :: es).length + ([] : List Keyword).length + (if ([] : List Keyword).isEmpty then 0 else 1) < 30)) = true := by rfl) (h3 : (apos.endLine == cpos.line) = true := by rfl) (h4 : starEach (e :: es) X.env = (false, eval e X.env) :: starEach es X.env := by rfl) (h5 : (backTo cpos (starEach es X.env)).any (·.1) = false := by rfl) : PE X (.Call (.Attribute o name apos) (e :: es) [] cpos) (tBM K T r to t) := by
  subst eK
  exact pe_bm pa slot hty hm ho ha h1 h2 h3 h4 h5
theorem len_seqC (eK : X.K = K) : CallR X (.builtin "len") (fun xs H Q => ∃ p ys, xs = [.ref p] ∧ (SqL K H p ys ∨ SqT K H p ys) ∧ Q (.int ys.length) H) := by
  subst eK
  exact call_len_seq
end
end RS
set_option Elab.async false
set_option maxRecDepth 100000
set_option maxHeartbeats 8000000
namespace RS
open PySem PySem.Spec PyProof.Rows L2 GX
theorem dpAll_tk {K : PySem.W.Frag} {H : Hp} : ∀ {xs : List V} {ds : List PyData}, DpAll K H xs ds → ∀ k : Nat, DpAll K H (xs.take k) (ds.take k) ∧ DpAll K H (xs.drop k) (ds.drop k)
  | _, _, .nil, k => by
    rw [List.take_nil, List.take_nil, List.drop_nil, List.drop_nil]
    exact ⟨.nil, .nil⟩
  | _, _, .cons h t, 0 => ⟨.nil, .cons h t⟩
  | _, _, .cons h t, k + 1 => ⟨.cons h (dpAll_tk t k).1, (dpAll_tk t k).2⟩
theorem dpAll_er {K : PySem.W.Frag} {H : Hp} : ∀ {xs : List V} {ds : List PyData}, DpAll K H xs ds → ∀ k : Nat, DpAll K H (xs.eraseIdx k) (ds.eraseIdx k)
  | _, _, .nil, _ => .nil
  | _, _, .cons _ t, 0 => t
  | _, _, .cons h t, k + 1 => .cons h (dpAll_er t k)
theorem leafs_nats : ∀ l : List Nat, leafs (l.map fun c => PyData.int (c : Nat)) = l
  | [] => rfl
  | c :: l => by
    show [((c : Nat) : Int).toNat] ++ leafs (l.map fun c => PyData.int (c : Nat)) = c :: l
    rw [leafs_nats l, Int.toNat_natCast]
    rfl
theorem leafs_perm {xs ys : List PyData} (p : xs.Perm ys) : (leafs xs).Perm (leafs ys) := by
  induction p with
  | nil => exact List.Perm.refl _
  | cons x _ ih => exact ih.append_left (leaf x)
  | swap x y l =>
    show (leaf y ++ (leaf x ++ leafs l)).Perm (leaf x ++ (leaf y ++ leafs l))
    rw [← List.append_assoc, ← List.append_assoc]
    exact List.perm_append_comm.append_right _
  | trans _ _ h1 h2 => exact h1.trans h2
theorem okPs_perm {w : Nat} {xs ys : List PyData} (p : xs.Perm ys) (h : okPs w xs) : okPs w ys := okPs_iff.mpr fun d hd => okPs_iff.mp h d (p.mem_iff.mpr hd)
section
variable {P : Program} {w : World} {K : PySem.W.Frag} {mg : Str → Option Value} {base : Heap}
theorem scLPlan : FnScope ["_law_box", "_law_runs", "_law_ways", "_law_left", "_law_many", "_law_some", "_law_k"] ["_law_box", "_law_runs", "_law_ways"] (defScope s__law_plan) := ⟨rfl, rfl, rfl, by decide +kernel, rfl, by decide +kernel, by decide +kernel⟩
def spLPlan (K : PySem.W.Frag) : Sp := fun vs H Q _ => ∃ (B L R : Addr) (n m : Nat), vs = [.ref B, .ref R, .int (m : Nat)] ∧ BoxAt H B L ∧ 2 ≤ m ∧ m ≤ 6 ∧ 1 ≤ n ∧ n ≤ 40 ∧ H R = some (.lst ((List.range n).map fun c => V.int (c : Nat))) ∧
  ∀ (H' : Hp) (v : V) (d : PyData), SameX B L H H' → BoxAt H' B L → Dp K H' v d → OkPlan n m d → Q v H'
theorem lplan_ok {c : Addr} (D : DefAt K mg "_law_plan" s__law_plan c) (T : Txt K mg) (cT : Cal P w K mg base CX0 1 "_law_take" ["_law_box", "_law_many"] spTake) : Cal P w K mg base CX0 2 "_law_plan" ["_law_box", "_law_runs", "_law_ways"] (spLPlan K) := by
  have sc := scLPlan
  refine def_ok0 D sc (fun vs H Q E h => ?_) (fun _ _ _ _ _ _ us hl => match us, hl with | [_, _, _], _ => rfl) (fun f A outer s H vs Q E hr h => ?_)
  · obtain ⟨B, L, R, n, m, rfl, _⟩ := h
    rfl
  · obtain ⟨B, L, R, n, m, rfl, hb, m2, m6, n1, n40, hR, k⟩ := h
    refine ⟨_, (pss_cons (ps_set (i := 3) sc.nd rfl (Or.inr rfl) (pe_callTy call_list_of (by rfl) T.list_ (by decide +kernel) (pa_cons (pv 1) pa_nil))) (pss_cons (ps_while PassesOwn.never (pt_cmpR op_gt (pe_callB call_len_seq (by rfl) T.len PySem.boot_len (pa_cons (pv 3) pa_nil)) pe_int (nomark _)) (pss_cons (ps_set (i := 4) sc.nd rfl (Or.inl rfl) (pe_callB (call_min2 rfl) (by rfl) T.min boot_min (pa_cons (pe_callB call_len_seq (by rfl) T.len PySem.boot_len (pa_cons (pv 3) pa_nil)) (pa_cons (pe_op op_add pe_int (pe_c cT hr (by decide) (by rfl) pass0 (pa_cons (pv 0) (pa_cons (pe_op op_sub (pv 2) pe_int) pa_nil)))) pa_nil)))) (pss_cons (ps_setLc (own := [("_law_k", 6)]) (tt := tYes) rfl sc.nd (i := 5) rfl rfl (by rfl) (pi_range1 (by rfl) T.range (pa_cons (pv 4) pa_nil)) (blkOk_by (N := ["_law_box", "_law_runs", "_law_ways", "_law_left", "_law_many", "_law_some", "_law_k"]) (sc := defScope s__law_plan) (own := [("_law_k", 6)]) (by decide +kernel)) (fun _ _ _ _ _ => (pg_name (i := 6) sc.nd rfl (Or.inl rfl))) (fun _ _ _ _ _ => pts_nil) (fun _ _ _ _ _ => (pe_bmC (K := K) rfl PySem.F.plainAttrs_list PySem.F.slot_list_pop PySem.F.type_list_pop mt_popAt (pv 3) (pa_cons (pe_c cT hr (by decide) (by rfl) pass0 (pa_cons (pv 0) (pa_cons (pe_callB (len_seqC (K := K) rfl) (by rfl) T.len PySem.boot_len (pa_cons (pv 3) pa_nil)) pa_nil))) pa_nil)))) (pss_one (ps_expr (pe_bm PySem.F.plainAttrs_list PySem.F.slot_list_insert PySem.F.type_list_insert mt_insert (pv 3) (pa_cons (pe_c cT hr (by decide) (by rfl) pass0 (pa_cons (pv 0) (pa_cons (pe_op op_add (pe_callB call_len_seq (by rfl) T.len PySem.boot_len (pa_cons (pv 3) pa_nil)) pe_int) pa_nil))) (pa_cons (pe_callTy call_tuple_of (by rfl) T.tuple_ (by decide +kernel) (pa_cons (pv 5) pa_nil)) pa_nil)))))))) (pss_one (ps_ret (pe_ix ix_list (pv 3) pe_int (fun _ _ => rfl)))))), ?_⟩
    refine ⟨_, rfl, R, _, rfl, .inl (SqL.of hR), fun Lf hLf => ?_⟩
    obtain ⟨s0, b0, nfB, nfL⟩ := alX (o := .lst ((List.range n).map fun c => V.int (c : Nat))) SameX.refl hb hb hLf
    refine ⟨fun mm σ H' => ∃ (v4 v5 : Option V) (xs : List V) (ds : List PyData), σ = [some (.ref B), some (.ref R), some (.int (m : Nat)), some (.ref Lf), v4, v5, none] ∧ SameX B L H H' ∧ BoxAt H' B L ∧ H' Lf = some (.lst xs) ∧ DpAll K H' xs ds ∧ okPs m ds ∧ (leafs ds).Perm (List.range n) ∧ 1 ≤ xs.length ∧ mm = xs.length,
      ⟨_, none, none, _, (List.range n).map fun c => .int (c : Nat), rfl, s0, b0, upd_same, dpNats _, ?_, ?_, ?_, rfl⟩, ?_⟩
    · refine okPs_iff.mpr fun d hd => ?_
      obtain ⟨c, hc, rfl⟩ := List.mem_map.mp hd
      have := List.mem_range.mp hc
      exact ⟨by omega, by omega⟩
    · rw [leafs_nats]
    · rw [List.length_map, List.length_range]
      exact n1
    rintro mm σ H1 ⟨v4, v5, xs, ds, rfl, s1, b1, hL, hd, okd, pm, x1, rfl⟩
    have lx : xs.length = ds.length := dpLen hd
    have ll := leafs_depth ds okd
    rw [pm.length_eq, List.length_range] at ll
    have lx40 : xs.length ≤ 40 := by omega
    refine ⟨_, rfl, Lf, _, rfl, .inl (SqL.of hL), _, _, rfl, rfl, _, rfl, ?_⟩
    by_cases hgt : xs.length > 1
    · refine iteT' (decide_eq_true (by omega)) ⟨_, fun _ _ h => h, ?_⟩
      refine ⟨_, rfl, Lf, _, rfl, .inl (SqL.of hL), _, rfl, _, rfl, _, _, rfl, rfl, B, L, _, rfl, b1, by omega, by omega, fun H2 x s2 b2 h0 h1 => ?_⟩
      refine ⟨_, _, rfl, rfl, _, _, rfl, ?_⟩
      obtain ⟨mn, emn, q2, qx, qm⟩ : ∃ mn : Nat, (if 2 + x < ((xs.length : Nat) : Int) then 2 + x else ((xs.length : Nat) : Int)) = (mn : Int) ∧ 2 ≤ mn ∧ mn ≤ xs.length ∧ mn ≤ m := by
        by_cases hx : 2 + x < ((xs.length : Nat) : Int)
        · exact ⟨(2 + x).toNat, by rw [if_pos hx]; omega, by omega, by omega, by omega⟩
        · exact ⟨xs.length, if_neg hx, by omega, Nat.le_refl _, by omega⟩
      rw [emn]
      have hL2 := s2 _ _ nfB nfL hL
      have nlds := okPs_noL ds okd
      have hd2 := dpAll_x b1 s2 _ nlds hd
      refine ⟨_, rfl, _, rfl, by omega, by omega, fun DD hD => ?_⟩
      rw [Int.toNat_natCast]
      have sH2 := s1.trans s2
      obtain ⟨s3, b3, nDB, nDL⟩ := alX (o := .lst []) sH2 hb b2 hD
      have hD0 := sH2.free hb hD b2
      have nLD : Lf ≠ DD := fun z => by rw [← z, hL2] at hD; cases hD
      refine lc_range (fun j H' => SameX B L H H' ∧ BoxAt H' B L ∧ ∃ (xl yl : List V) (dl el : List PyData), H' Lf = some (.lst xl) ∧ DpAll K H' xl dl ∧ okPs m dl ∧ H' DD = some (.lst yl) ∧ DpAll K H' yl el ∧ okPs m el ∧ el.length = j ∧ dl.length + j = ds.length ∧ (leafs dl ++ leafs el).Perm (List.range n))
        ⟨s3, b3, xs, [], ds, [], (upd_ne nLD).trans hL2, dpAll_same (fun b o e => by rw [upd_ne (ne_of_none e hD)]; exact e) _ hd2, okd, upd_same, .nil, trivial, rfl, rfl, by simpa [leafs] using pm⟩ ?_ ?_
      · rintro j H3 hj ⟨s4, b4, xl, yl, dl, el, hl, hdl, okl, hDD, hel, oke, lel, ldl, pme⟩
        have lxl := dpLen hdl
        refine ⟨rfl, _, rfl, .inl ⟨rfl, _, SqL.of hl⟩, _, rfl, _, rfl, Lf, _, rfl, .inl (SqL.of hl), B, L, _, rfl, b4, by omega, by omega, fun H4 kx s5 b5 g0 g1 => ?_⟩
        obtain ⟨kn, rfl⟩ : ∃ kn : Nat, kx = (kn : Int) := ⟨kx.toNat, by omega⟩
        have hkn : kn < xl.length := by omega
        have hkd : kn < dl.length := by omega
        have hl4 := s5 _ _ nfB nfL hl
        have hDD4 := s5 _ _ nDB nDL hDD
        have nll := okPs_noL dl okl
        have nle := okPs_noL el oke
        have hdl4 := dpAll_x b4 s5 _ nll hdl
        have hel4 := dpAll_x b4 s5 _ nle hel
        obtain ⟨v, ev, hv⟩ := dpGet' hdl4 (List.getElem?_eq_getElem hkd)
        have pe := perm_erase (List.getElem?_eq_getElem hkd)
        have okt := okPs_perm pe okl
        have nlt := okPs_noL _ okt
        refine ⟨Lf, _, (kn : Int), kn, v, rfl, rfl, hl4, by omega, by omega, seqIx hkn, ev, ?_⟩
        have lyl := dpLen hel
        have hDD5 : upd H4 Lf (.lst (xl.eraseIdx kn)) DD = some (.lst yl) := (upd_ne (Ne.symm nLD)).trans hDD4
        have oke2 : okPs m (el ++ [dl[kn]]) := okPs_app.mpr ⟨oke, okt.1, trivial⟩
        have okl2 : okPs m (dl.eraseIdx kn) := okt.2
        have lE := pe.length_eq
        rw [List.length_cons] at lE
        refine ⟨yl, hDD5, small1000 (by omega), ((s4.trans s5).new hLf).new hD0, (b5.upd_ nfB nfL).upd_ nDB nDL, xl.eraseIdx kn, yl ++ [v], dl.eraseIdx kn, el ++ [dl[kn]], (upd_ne nLD).trans upd_same, ?_, okl2, upd_same, ?_, oke2, by rw [List.length_append, lel]; rfl, by omega, ?_⟩
        · exact dpAll_upd hDD5 _ (okPs_noL _ okl2) (dpAll_upd hl4 _ (okPs_noL _ okl2) (dpAll_er hdl4 kn))
        · exact dpAll_upd hDD5 _ (okPs_noL _ oke2) (dpAll_upd hl4 _ (okPs_noL _ oke2) (dpApp hel4 (.cons hv .nil)))
        · refine List.Perm.trans ?_ pme
          rw [leafs_app]
          have p1 := leafs_perm pe
          have e1 : leafs (dl[kn] :: dl.eraseIdx kn) = leaf dl[kn] ++ leafs (dl.eraseIdx kn) := rfl
          have e2 : leafs [dl[kn]] = leaf dl[kn] := by
            show leaf dl[kn] ++ [] = _
            rw [List.append_nil]
          rw [e1] at p1
          rw [e2]
          refine List.Perm.trans ?_ (p1.symm.append_right _)
          rw [List.append_assoc]
          refine List.Perm.trans ?_ List.perm_append_comm
          rw [List.append_assoc]
      · rintro H3 ⟨s4, b4, xl, yl, dl, el, hl, hdl, okl, hDD, hel, oke, lel, ldl, pme⟩
        dsimp only [gName]
        have lxl := dpLen hdl
        refine ⟨_, rfl, .inl ⟨rfl, _, SqL.of hl⟩, _, rfl, _, rfl, Lf, _, rfl, .inl (SqL.of hl), _, _, rfl, rfl, B, L, _, rfl, b4, by omega, by omega, fun H5 kx s5 b5 g0 g1 => ?_⟩
        have hl5 := s5 _ _ nfB nfL hl
        have hDD5 := s5 _ _ nDB nDL hDD
        refine ⟨_, rfl, DD, yl, rfl, .inl ⟨SqL.of hDD5, fun tp htp => ?_⟩⟩
        have sP := s4.trans s5
        have sTP : Same H5 (upd H5 tp (.tup yl)) := fun b o e => by
          rw [upd_ne (ne_of_none e htp)]
          exact e
        obtain ⟨s6, b6, _, _⟩ := alX (o := .tup yl) sP hb b5 htp
        have hl6 := sTP _ _ hl5
        refine ⟨Lf, xl, kx, .ref tp, rfl, rfl, hl6, small1000 (by omega), g0, by omega, ?_⟩
        have dl5 := dpAll_same sTP _ (dpAll_x b4 s5 _ (okPs_noL _ okl) hdl)
        have el5 := dpAll_same sTP _ (dpAll_x b4 s5 _ (okPs_noL _ oke) hel)
        obtain ⟨t1, t2⟩ := dpAll_tk dl5 kx.toNat
        have okt : okP m (.tuple el) := ⟨by omega, by omega, oke⟩
        have pq : (dl.take kx.toNat ++ [PyData.tuple el] ++ dl.drop kx.toNat).Perm (dl ++ [PyData.tuple el]) := by
          rw [List.append_assoc]
          have q2 : (dl.take kx.toNat ++ ([PyData.tuple el] ++ dl.drop kx.toNat)).Perm (dl.take kx.toNat ++ (dl.drop kx.toNat ++ [PyData.tuple el])) := List.perm_append_comm.append_left _
          rw [← List.append_assoc (dl.take kx.toNat) (dl.drop kx.toNat), List.take_append_drop] at q2
          exact q2
        have okn : okPs m (dl.take kx.toNat ++ [PyData.tuple el] ++ dl.drop kx.toNat) := okPs_perm pq.symm (okPs_app.mpr ⟨okl, okt, trivial⟩)
        have ln : (dl.take kx.toNat ++ [PyData.tuple el] ++ dl.drop kx.toNat).length = dl.length + 1 := by rw [pq.length_eq, List.length_append, List.length_singleton]
        have hnew : DpAll K (upd (upd H5 tp (.tup yl)) Lf (.lst (xl.take kx.toNat ++ [.ref tp] ++ xl.drop kx.toNat))) (xl.take kx.toNat ++ [.ref tp] ++ xl.drop kx.toNat) (dl.take kx.toNat ++ [PyData.tuple el] ++ dl.drop kx.toNat) :=
          dpAll_upd hl6 _ (okPs_noL _ okn) (dpApp (dpApp t1 (.cons (.tup (SqT.of upd_same) el5) .nil)) t2)
        have lnew := dpLen hnew
        refine ⟨_, ?_, _, _, _, _, rfl, s6.new hLf, b6.upd_ nfB nfL, upd_same, hnew, okn, ?_, ?_, rfl⟩
        · rw [lnew, ln]
          omega
        · have p1 := leafs_perm pq
          rw [leafs_app dl] at p1
          have e2 : leafs [PyData.tuple el] = leafs el := by
            show leafs el ++ [] = _
            rw [List.append_nil]
          rw [e2] at p1
          exact p1.trans pme
        · rw [lnew, ln]
          omega
    · refine iteF' (decide_eq_false (by omega)) ?_
      have lx1 : xs.length = 1 := by omega
      cases hd with
      | nil => simp at lx1
      | cons hv ht =>
        cases ht with
        | cons _ _ => simp at lx1
        | nil =>
          rename_i v d
          have pm' : (leaf d).Perm (List.range n) := by simpa [leafs] using pm
          exact ⟨_, rfl, Lf, _, _, v, rfl, rfl, SqL.of hL, atI_nat (j := 0) rfl, k H1 v d s1 b1 hv ⟨okd.1, pm'⟩⟩
end
end RS
set_option Elab.async false
set_option maxRecDepth 100000
set_option maxHeartbeats 4000000
namespace RS
open PySem PySem.Spec PyProof.Rows L2 GX
/-! ### how many rows a plan moves -/
def wts (L js : List Nat) : Nat := (js.map fun j => L.getD j 0).sum
mutual
def costP (L : List Nat) : PyData → Nat
  | .tuple ds => costPs L ds + wts L (leafs ds)
  | _ => 0
def costPs (L : List Nat) : List PyData → Nat
  | [] => 0
  | d :: ds => costP L d + costPs L ds
end
theorem nsum_app (l m : List Nat) : (l ++ m).sum = l.sum + m.sum := by
  induction l with
  | nil => simp
  | cons x l ih => rw [List.cons_append, List.sum_cons, List.sum_cons, ih]; omega
theorem wts_app (L a b : List Nat) : wts L (a ++ b) = wts L a + wts L b := by
  unfold wts
  rw [List.map_append, nsum_app]
abbrev St2 := List (PyData × Nat)
def entD (q : PyData × Nat) : PyData := .tuple [q.1, .int (q.2 : Nat)]
def tot (L : List Nat) : St2 → Nat
  | [] => 0
  | q :: st => (costP L q.1 + q.2 * wts L (leaf q.1)) + tot L st
theorem tot_app (L : List Nat) : ∀ a b : St2, tot L (a ++ b) = tot L a + tot L b
  | [], b => by simp [tot]
  | q :: a, b => by
    show (costP L q.1 + q.2 * wts L (leaf q.1)) + tot L (a ++ b) = _
    rw [tot_app L a b]
    show _ = ((costP L q.1 + q.2 * wts L (leaf q.1)) + tot L a) + tot L b
    omega
theorem tot_in (L : List Nat) (e : Nat) : ∀ ds : List PyData, tot L (ds.map fun d => (d, e)) = costPs L ds + e * wts L (leafs ds)
  | [] => by simp [tot, costPs, leafs, wts]
  | d :: ds => by
    show (costP L d + e * wts L (leaf d)) + tot L (ds.map fun d => (d, e)) = (costP L d + costPs L ds) + e * wts L (leaf d ++ leafs ds)
    rw [tot_in L e ds, wts_app, Nat.mul_add]
    omega
section
variable {P : Program} {w : World} {K : PySem.W.Frag} {mg : Str → Option Value} {base : Heap}
theorem scHow : FnScope ["runs", "ways"] ["runs", "ways"] (defScope s_how_many) := ⟨rfl, rfl, rfl, by decide +kernel, rfl, by decide +kernel, by decide +kernel⟩
def spHow : Sp := fun vs H Q _ => ∃ (n w : Nat), vs = [.int (n : Nat), .int (w : Nat)] ∧ 2 ≤ n ∧ 2 ≤ w ∧ w ≤ 6 ∧ Q (.int ((2 + (n - 2) % (w - 1) : Nat))) H
theorem how_many_ok {c : Addr} (D : DefAt K mg "how_many" s_how_many c) (T : Txt K mg) : Cal P w K mg base CX0 1 "how_many" ["runs", "ways"] spHow := by
  have sc := scHow
  obtain ⟨tA, hA⟩ := T.leastw
  refine def_ok0 D sc (fun vs H Q E h => ?_) (fun _ _ _ _ _ _ us hl => match us, hl with | [_, _], _ => rfl) (fun f A outer s H vs Q E hr h => ?_)
  · obtain ⟨n, w, rfl, _⟩ := h
    rfl
  · obtain ⟨n, w, rfl, n2, w2, w6, k⟩ := h
    refine ⟨_, (pss_one (ps_ret (pe_op op_add (pe_glob (v := V.int 2) (by rfl) hA ⟨_, rfl⟩) (pe_op op_mod (pe_op op_sub (pv 0) (pe_glob (v := V.int 2) (by rfl) hA ⟨_, rfl⟩)) (pe_op op_sub (pv 1) pe_int))))), ?_⟩
    refine ⟨_, rfl, _, _, rfl, rfl, _, rfl, _, _, rfl, rfl, _, _, rfl, rfl, by show (0 : Int) < (w : Int) - 1; omega, _, _, rfl, rfl, ?_⟩
    have e : (2 : Int) + ((n : Int) - 2) % ((w : Int) - 1) = ((2 + (n - 2) % (w - 1) : Nat) : Int) := by
      rw [show (n : Int) - 2 = ((n - 2 : Nat) : Int) by omega, show (w : Int) - 1 = ((w - 1 : Nat) : Int) by omega, ← Int.natCast_emod]
      omega
    rw [← e] at k
    exact k
theorem scCost : FnScope ["lengths", "ways", "plan", "moved", "left", "part", "merges", "inner"] ["lengths", "ways", "plan"] (defScope s_cost) := ⟨rfl, rfl, rfl, by decide +kernel, rfl, by decide +kernel, by decide +kernel⟩
def spCost (K : PySem.W.Frag) (p : Addr) : Sp := fun vs H Q _ => ∃ (vl vp : V) (ls : List Nat) (n : Nat) (d : PyData), vs = [vl, .int (n : Nat), vp] ∧ Dp K H vl (lensD ls) ∧ OkLens ls ∧ 2 ≤ n ∧ n ≤ 6 ∧ Dp K H vp d ∧ OkPlan ls.length n d ∧ Tab H p ∧ ∀ H', Same H H' → Q (.int (costP ls d : Nat)) H'
theorem cost_ok {c p : Addr} (D : DefAt K mg "cost" s_cost c) (T : Txt K mg) (cM : Cal P w K mg base CX0 4 "check_merging" ["lengths", "ways"] (spCheckMerging K p)) (cP : Cal P w K mg base CX0 2 "check_plan" ["lengths", "ways", "plan"] (spCheckPlan K)) :
    Cal P w K mg base CX0 5 "cost" ["lengths", "ways", "plan"] (spCost K p) := by
  have sc := scCost
  refine def_ok0 D sc (fun vs H Q E h => ?_) (fun _ _ _ _ _ _ us hl => match us, hl with | [_, _, _], _ => rfl) (fun f A outer s H vs Q E hr h => ?_)
  · obtain ⟨vl, vp, ls, n, d, rfl, _⟩ := h
    rfl
  · obtain ⟨vl, vp, ls, n, d, rfl, hl, okl, n2, n6, hp, ok, ht, k⟩ := h
    refine ⟨_, (pss_cons (ps_expr (pe_c cM hr (by decide) (by rfl) pass0 (pa_cons (pv 0) (pa_cons (pv 1) pa_nil)))) (pss_cons (ps_expr (pe_c cP hr (by decide) (by rfl) pass0 (pa_cons (pv 0) (pa_cons (pv 1) (pa_cons (pv 2) pa_nil))))) (pss_cons (ps_par (i := 3) (j := 4) rfl sc.nd rfl rfl (by decide) rfl rfl (pa_cons pe_int (pa_cons (pe_lst (pa_cons (pe_tup (pa_cons (pv 2) (pa_cons pe_int pa_nil))) pa_nil)) pa_nil)) (by rfl)) (pss_cons (ps_while PassesOwn.never (pt_truth (pv 4) (by intro _; rfl)) (pss_cons (ps_asg (pe_bm0 PySem.F.plainAttrs_list PySem.F.slot_list_pop PySem.F.type_list_pop mt_pop (pv 4)) (pg_tup (by rfl) (pgs_cons (pg_name (i := 5) sc.nd rfl (Or.inl rfl)) (pgs_cons (pg_name (i := 6) sc.nd rfl (Or.inr rfl)) pgs_nil)))) (pss_one (ps_if (pt_val (pe_callB call_isiD (by rfl) T.isinstance (by decide +kernel) (pa_cons (pv 5) (pa_cons (pe_bltn (v := V.ty "tuple") (u := Value.type "tuple") (by rfl) T.tuple_ (by decide +kernel) rfl) pa_nil)))) (pss_one (ps_expr (pe_bm PySem.F.plainAttrs_list PySem.F.slot_list_extend PySem.F.type_list_extend mt_extend (pv 4) (pa_cons (pe_lc (own := [("inner", 7)]) (tt := tYes)  rfl sc.nd (pi_tup (pv 5)) (blkOk_by (N := ["lengths", "ways", "plan", "moved", "left", "part", "merges", "inner"]) (sc := defScope s_cost) (own := [("inner", 7)]) (by decide +kernel)) (fun _ _ _ _ _ => (pg_name (i := 7) sc.nd rfl (Or.inl rfl))) (fun _ _ _ _ _ => pts_nil) (fun _ _ _ _ _ => (pe_tup (pa_cons (pv 7) (pa_cons (pe_op op_add (pv 6) pe_int) pa_nil))))) pa_nil)))) (pss_one (ps_aug (i := 3) sc.nd rfl (Or.inl rfl) (pe_op op_mul (pv 6) (pe_ix ixD (pv 0) (pv 5) (fun _ _ => rfl))) ip_add)))))) (pss_one (ps_ret (pv 3))))))), ?_⟩
    have l40 := okl.most
    have ll : (leaf d).length ≤ 40 := by rw [ok.all.length_eq, List.length_range]; exact l40
    refine ⟨_, rfl, _, rfl, vl, ls, _, rfl, hl, okl, by omega, by omega, ht, fun H1 s1 => ?_⟩
    refine ⟨_, rfl, _, rfl, _, rfl, vl, vp, ls, n, d, rfl, dp_same s1 _ hl, dp_same s1 _ hp, ok, l40, n6, fun H2 s2 => ?_⟩
    have s12 := s1.trans s2
    refine ⟨_, rfl, by show 2 ≤ sizeLine; decide, fun t0 ht0 => ⟨by show 1 ≤ sizeLine; decide, fun S hS0 => ⟨_, _, rfl, ?_⟩⟩⟩
    have sT : Same H2 (upd H2 t0 (.tup [vp, .int 0])) := fun b o e => by
      rw [upd_ne (ne_of_none e ht0)]
      exact e
    have sS : Same H2 (upd (upd H2 t0 (.tup [vp, .int 0])) S (.lst [.ref t0])) := fun b o e => by
      rw [upd_ne (ne_of_none (sT _ _ e) hS0)]
      exact sT _ _ e
    have hS2 : H2 S = none := upd_no hS0
    have nSt : S ≠ t0 := fun z => by rw [z, upd_same] at hS0; cases hS0
    refine ⟨fun m σ H' => ∃ (xs : List V) (st : St2) (mv : Nat) (v5 v6 : Option V), σ = [some vl, some (.int (n : Nat)), some vp, some (.int (mv : Nat)), some (.ref S), v5, v6, none] ∧ Same H2 H' ∧ H' S = some (.lst xs) ∧ DpAll K H' xs (st.map entD) ∧
      okPs n (st.map (·.1)) ∧ (leafs (st.map (·.1))).length ≤ 40 ∧ (∀ j ∈ leafs (st.map (·.1)), j < ls.length) ∧ mv + tot ls st = costP ls d ∧ m = sizePs (st.map (·.1)),
      ⟨_, _, [(d, 0)], 0, none, none, rfl, sS, upd_same, ?_, ⟨ok.ok, trivial⟩, ?_, ?_, ?_, rfl⟩, ?_⟩
    · exact .cons (.tup (SqT.of ((upd_ne (Ne.symm nSt)).trans upd_same)) (.cons (dp_same (s12.trans sS) _ hp) (.cons (.int _) .nil))) .nil
    · show (leaf d ++ []).length ≤ 40
      rw [List.append_nil]
      exact ll
    · intro j hj
      have hj' : j ∈ leaf d ++ [] := hj
      rw [List.append_nil] at hj'
      exact List.mem_range.mp (ok.all.mem_iff.mp hj')
    · show 0 + ((costP ls d + 0 * wts ls (leaf d)) + 0) = _
      omega
    rintro m σ H' ⟨xs, st, mv, v5, v6, rfl, sm, hS, hd, okd, l40', hj, em, rfl⟩
    refine ⟨_, rfl, !xs.isEmpty, .inl ⟨xs, SqL.of hS, rfl⟩, ?_⟩
    rcases xs.eq_nil_or_concat with rfl | ⟨xs0, y, rfl⟩
    · have e : st = [] := by
        cases st with
        | nil => rfl
        | cons _ _ => cases hd
      subst e
      refine iteF ⟨_, rfl, ?_⟩
      have e : mv = costP ls d := by simpa [tot] using em
      rw [e]
      exact k H' (s12.trans sm)
    · rw [List.concat_eq_append] at hS hd ⊢
      obtain ⟨ds0, e0, eds, hd0, he⟩ := dpAll_snoc hd
      obtain ⟨st0, q, rfl⟩ : ∃ st0 q, st = st0 ++ [q] := by
        rcases st.eq_nil_or_concat with rfl | ⟨st0, q, rfl⟩
        · simp at eds
        · exact ⟨st0, q, List.concat_eq_append⟩
      obtain ⟨e, g⟩ := q
      rw [List.map_append] at eds
      have eds2 : st0.map entD = ds0 ∧ entD (e, g) = e0 := by
        have := List.append_inj' eds rfl
        exact ⟨this.1, (List.cons.inj this.2).1⟩
      obtain ⟨rfl, rfl⟩ := eds2
      rw [List.map_append] at okd l40' hj
      obtain ⟨ok0, oke⟩ := okPs_app.mp okd
      have oke : okP n e := oke.1
      have nl0 : noLs (st0.map entD) = true := noLs_iff.mpr fun x hx => by
        obtain ⟨q, hq, rfl⟩ := List.mem_map.mp hx
        have : noL q.1 = true := okP_noL q.1 (okPs_iff.mp ok0 _ (List.mem_map.mpr ⟨q, hq, rfl⟩))
        simp [entD, noL, noLs, this]
      have nle : noL (entD (e, g)) = true := by
        have : noL e = true := okP_noL e oke
        simp [entD, noL, noLs, this]
      refine iteT' (by simp) ⟨_, fun _ _ h => h, ?_⟩
      refine ⟨_, rfl, .inl ⟨rfl, _, SqL.of hS⟩, S, _, y, rfl, rfl, hS, by simp, ?_⟩
      rw [List.dropLast_concat]
      have sm1 : ∀ u, Same H2 (upd H' S u) := fun u b o e => by
        rw [upd_ne (ne_of_none e hS2)]
        exact sm b o e
      have hd1 := dpAll_upd (u := xs0) hS _ nl0 hd0
      have he1 := dp_upd (u := xs0) hS _ nle he
      have hS1 : upd H' S (.lst xs0) S = some (.lst xs0) := upd_same
      generalize hH3 : upd H' S (.lst xs0) = H3 at hd1 he1 hS1 ⊢
      have sm3 : Same H2 H3 := by rw [← hH3]; exact sm1 _
      clear hH3 hS hd hd0 he sm1
      have lx0 : xs0.length = st0.length := by rw [dpLen hd1, List.length_map]
      have lf0 := leafs_depth _ ok0
      rw [List.length_map] at lf0
      rw [leafs_app, List.length_append] at l40'
      have e40 : (leaf e).length ≤ (leafs ([(e, g)].map (·.1))).length := by
        show _ ≤ (leaf e ++ []).length
        rw [List.append_nil]
        exact Nat.le_refl _
      have jd : ∀ j ∈ leafs (st0.map (·.1)), j < ls.length := fun j h => hj j (by rw [leafs_app]; exact List.mem_append_left _ h)
      have je : ∀ j ∈ leaf e, j < ls.length := fun j h => hj j (by
        rw [leafs_app]
        refine List.mem_append_right _ ?_
        show j ∈ leaf e ++ []
        rw [List.append_nil]
        exact h)
      have em2 : mv + (tot ls st0 + (costP ls e + g * wts ls (leaf e))) = costP ls d := by
        rw [tot_app] at em
        have : tot ls [(e, g)] = (costP ls e + g * wts ls (leaf e)) + 0 := rfl
        omega
      have sz : sizePs ((st0 ++ [(e, g)]).map (·.1)) = sizePs (st0.map (·.1)) + sizeP e := by
        rw [List.map_append, sizePs_app]
        rfl
      cases he1 with
      | @tup t zs _ hT hI =>
        cases hI with
        | cons hv hI =>
          cases hI with
          | cons hg hI =>
            cases hI
            cases hg
            refine ⟨t, _, rfl, hT, rfl, _, _, rfl, _, _, rfl, rfl, ?_⟩
            refine ⟨_, rfl, _, _, _, rfl, by simp, hv, _, rfl, ?_⟩
            rcases okP_cases oke with ⟨i, rfl, hi⟩ | ⟨es, rfl, e1, e2, oks⟩
            · cases hv
              have hil : i < ls.length := je i (by show i ∈ [((i : Nat) : Int).toNat]; simp)
              have hl3 := dp_same sm3 _ (dp_same s12 _ hl)
              have okn := okl.each ls[i] (List.getElem_mem hil)
              refine iteF ⟨_, rfl, _, rfl, _, rfl, _, rfl, lensD ls, _, (i : Nat), .int (ls[i] : Nat), hl3, rfl, rfl, atI_nat (by rw [List.getElem?_map, List.getElem?_eq_getElem hil]; rfl), fun w hw => ?_⟩
              cases hw
              refine ⟨_, _, rfl, rfl, .inr ⟨by omega, by omega⟩, _, _, rfl, rfl, ?_⟩
              refine ⟨_, ?_, xs0, st0, mv + g * ls[i], some (.int (i : Nat)), some (.int (g : Nat)), ?_, sm3, hS1, hd1, ok0, by omega, jd, ?_, rfl⟩
              · rw [sz]
                show sizePs (st0.map (·.1)) < sizePs (st0.map (·.1)) + 1
                omega
              · rfl
              · have e3 : wts ls (leaf (.int (i : Nat))) = ls[i] := by
                  show (List.map (fun j => ls.getD j 0) [((i : Nat) : Int).toNat]).sum = _
                  simp [List.getD, hil]
                have e4 : costP ls (.int (i : Nat)) = 0 := rfl
                rw [e3, e4] at em2
                omega
            · refine iteT ?_
              cases hv with
              | @tup a xa _ hA hIA =>
                have lxa : xa.length = es.length := dpLen hIA
                refine ⟨_, rfl, .inl ⟨rfl, _, SqL.of hS1⟩, _, rfl, a, rfl, ⟨_, hA⟩, fun DD hD => ?_⟩
                have nSD : S ≠ DD := fun z => by rw [← z, hS1] at hD; cases hD
                refine lc_tup (K := K) (a := a) (xs := xa) (fun j H5 => Same H3 H5 ∧ ∃ zs, H5 DD = some (.lst zs) ∧ DpAll K H5 zs (((es.take j).map fun d => (d, g + 1)).map entD)) ⟨fun b o e => by rw [upd_ne (ne_of_none e hD)]; exact e, [], upd_same, .nil⟩ (fun j H5 _ h => sqT_same h.1 hA) ?_ ?_
                · rintro j x H5 hx ⟨sm5, zs, hDD, hz⟩
                  obtain ⟨u, eu, hu⟩ := dpGet hIA hx
                  have hu5 := dp_same sm5 _ hu
                  have lz : zs.length = j := by
                    rw [dpLen hz, List.length_map, List.length_map, List.length_take]
                    have := (List.getElem?_eq_some_iff.mp eu).1
                    omega
                  refine ⟨rfl, _, rfl, _, rfl, _, _, rfl, rfl, by show 2 ≤ sizeLine; decide, fun pt hpt => ?_⟩
                  have s6 : Same H5 (upd H5 pt (.tup [x, .int ((g : Int) + 1)])) := fun b o e => by
                    rw [upd_ne (ne_of_none e hpt)]
                    exact e
                  have jlt := (List.getElem?_eq_some_iff.mp eu).1
                  have et : (((es.take (j + 1)).map fun d => (d, g + 1)).map entD) = (((es.take j).map fun d => (d, g + 1)).map entD) ++ [entD (u, g + 1)] := by
                    rw [List.take_add_one, eu, List.map_append, List.map_append]
                    rfl
                  refine ⟨zs, s6 _ _ hDD, small1000 (by omega), fun b o q => ?_, zs ++ [.ref pt], upd_same, ?_⟩
                  · rw [upd_ne (ne_of_none q hD)]
                    exact s6 _ _ (sm5 _ _ q)
                  · rw [et]
                    have nl5 : noLs ((((es.take j).map fun d => (d, g + 1)).map entD) ++ [entD (u, g + 1)]) = true := noLs_iff.mpr fun y hy => by
                      rw [← et] at hy
                      obtain ⟨q, hq, rfl⟩ := List.mem_map.mp hy
                      obtain ⟨z, hz2, rfl⟩ := List.mem_map.mp hq
                      have : noL z = true := okP_noL z (okPs_iff.mp oks z (List.mem_of_mem_take hz2))
                      simp [entD, noL, noLs, this]
                    exact dpAll_upd (s6 _ _ hDD) _ nl5 (dpApp (dpAll_same s6 _ hz) (.cons (.tup (SqT.of upd_same) (.cons (dp_same s6 _ hu5) (.cons (.int _) .nil))) .nil))
                · rintro H5 ⟨sm5, zs, hDD, hz⟩
                  rw [lxa, List.take_length] at hz
                  have lz : zs.length = es.length := by rw [dpLen hz, List.length_map, List.length_map]
                  have hS5 := sm5 _ _ hS1
                  refine ⟨S, DD, xs0, zs, rfl, rfl, hS5, hDD, Nat.le_of_lt (small1000 (by omega)), ?_⟩
                  have em3 : (es.map fun d => (d, g + 1)).map (·.1) = es := by
                    rw [List.map_map]
                    have : es.map ((·.1) ∘ fun d => ((d, g + 1) : PyData × Nat)) = es.map id := rfl
                    rw [this, List.map_id]
                  have nl6 : noLs ((st0 ++ es.map fun d => (d, g + 1)).map entD) = true := noLs_iff.mpr fun y hy => by
                    obtain ⟨q, hq, rfl⟩ := List.mem_map.mp hy
                    have : noL q.1 = true := by
                      rcases List.mem_append.mp hq with hq | hq
                      · exact okP_noL q.1 (okPs_iff.mp ok0 _ (List.mem_map.mpr ⟨q, hq, rfl⟩))
                      · obtain ⟨z, hz2, rfl⟩ := List.mem_map.mp hq
                        exact okP_noL z (okPs_iff.mp oks z hz2)
                    simp [entD, noL, noLs, this]
                  refine ⟨_, ?_, xs0 ++ zs, st0 ++ es.map (fun d => (d, g + 1)), mv, _, _, rfl, fun b o q => ?_, upd_same, ?_, ?_, ?_, ?_, ?_, rfl⟩
                  · rw [sz, List.map_append, em3, sizePs_app]
                    show sizePs (st0.map (·.1)) + sizePs es < sizePs (st0.map (·.1)) + (1 + sizePs es)
                    omega
                  · rw [upd_ne (ne_of_none q hS2)]
                    exact sm5 _ _ (sm3 _ _ q)
                  · rw [List.map_append] at nl6 ⊢
                    exact dpAll_upd hS5 _ nl6 (dpApp (dpAll_same sm5 _ hd1) hz)
                  · rw [List.map_append, em3]
                    exact okPs_app.mpr ⟨ok0, oks⟩
                  · rw [List.map_append, em3, leafs_app, List.length_append]
                    have : (leaf (.tuple es)).length = (leafs es).length := rfl
                    omega
                  · rw [List.map_append, em3, leafs_app]
                    intro j hj2
                    rcases List.mem_append.mp hj2 with h | h
                    · exact jd j h
                    · exact je j h
                  · rw [tot_app, tot_in]
                    have e3 : costP ls (.tuple es) = costPs ls es + wts ls (leafs es) := rfl
                    have e4 : leaf (.tuple es) = leafs es := rfl
                    rw [e3, e4] at em2
                    rw [Nat.add_mul, Nat.one_mul]
                    omega
end
end RS
set_option Elab.async false
set_option maxRecDepth 100000
set_option maxHeartbeats 4000000
set_option pp.maxSteps 400
namespace RS
open PySem PySem.Spec PyProof.Rows L2 GX
section
variable {P : Program} {w : World} {K : PySem.W.Frag} {mg : Str → Option Value} {base : Heap}
theorem leafs_take {ds : List PyData} {i : Nat} {d : PyData} (h : ds[i]? = some d) : leafs (ds.take (i + 1)) = leafs (ds.take i) ++ leaf d := by
  rw [List.take_add_one, h, leafs_app]
  show _ ++ (leaf d ++ []) = _
  rw [List.append_nil]
theorem leafs_le (ds : List PyData) (i : Nat) : (leafs (ds.take i)).length ≤ (leafs ds).length := by
  have e : leafs ds = leafs (ds.take i) ++ leafs (ds.drop i) := by rw [← leafs_app, List.take_append_drop]
  rw [e, List.length_append]
  omega
theorem leaf_part : ∀ {ds : List PyData} {d : PyData}, d ∈ ds → (leaf d).length ≤ (leafs ds).length
  | e :: ds, d, h => by
    show _ ≤ (leaf e ++ leafs ds).length
    rw [List.length_append]
    rcases List.mem_cons.mp h with q | q
    · rw [q]
      omega
    · have := leaf_part q
      omega
theorem scIn : FnScope ["_law_plan_here", "_law_found", "_law_part"] ["_law_plan_here"] (defScope s__law_in) := ⟨rfl, rfl, rfl, by decide +kernel, rfl, by decide +kernel, by decide +kernel⟩
def spIn (K : PySem.W.Frag) (n : Nat) : Sp := fun vs H Q _ => ∃ (v : V) (d : PyData) (m : Nat), vs = [v] ∧ Dp K H v d ∧ okP m d ∧ m ≤ 6 ∧ (leaf d).length ≤ 40 ∧ d.depth ≤ n ∧ ∀ H' a, Same H H' → H a = none → H' a = some (.lst ((leaf d).map fun j => V.int (j : Nat))) → Q (.ref a) H'
theorem in_none {c : Addr} (D : DefAt K mg "_law_in" s__law_in c) : Cal P w K mg base CX0 1 "_law_in" ["_law_plan_here"] (fun _ _ _ _ => False) :=
  def_ok0 D scIn (fun vs H Q E h => h.elim) (fun _ _ _ _ _ _ us hl => match us, hl with | [_], _ => rfl) (fun f A outer s H vs Q E hr h => h.elim)
theorem in_step {c : Addr} (D : DefAt K mg "_law_in" s__law_in c) (T : Txt K mg) {j : Nat} (n : Nat) {sp : Sp} (hj : 1 ≤ j) (cR : Cal P w K mg base CX0 j "_law_in" ["_law_plan_here"] sp)
    (hsp : ∀ (v : V) (d : PyData) (m : Nat) (H : Hp) (Q : VK) (E : XK), Dp K H v d → okP m d → m ≤ 6 → (leaf d).length ≤ 40 → d.depth + 1 ≤ n → (∀ H' a, Same H H' → H a = none → H' a = some (.lst ((leaf d).map fun j => V.int (j : Nat))) → Q (.ref a) H') → sp [v] H Q E) : Cal P w K mg base CX0 (j + 1) "_law_in" ["_law_plan_here"] (spIn K n) := by
  have sc := scIn
  refine def_ok0 D sc (fun vs H Q E h => ?_) (fun _ _ _ _ _ _ us hl => match us, hl with | [_], _ => rfl) (fun f A outer s H vs Q E hr h => ?_)
  · obtain ⟨v, d, m, rfl, _⟩ := h
    rfl
  · obtain ⟨v, d, m, rfl, hd, ok, m6, l40, hn, k⟩ := h
    refine ⟨_, (pss_cons (ps_if (pt_not (pt_val (pe_callB call_isiD (by rfl) T.isinstance (by decide +kernel) (pa_cons (pv 0) (pa_cons (pe_bltn (v := V.ty "tuple") (u := Value.type "tuple") (by rfl) T.tuple_ (by decide +kernel) rfl) pa_nil))))) (pss_one (ps_ret (pe_lst (pa_cons (pv 0) pa_nil)))) pss_nil) (pss_cons (ps_set (i := 1) sc.nd rfl (Or.inl rfl) (pe_lst pa_nil)) (pss_cons (ps_for PassesOwn.never rfl (pi_tup (pv 0)) (pg_name (i := 2) sc.nd rfl (Or.inl rfl)) (pss_one (ps_expr (pe_bm PySem.F.plainAttrs_list PySem.F.slot_list_extend PySem.F.type_list_extend mt_extend (pv 1) (pa_cons (pe_c cR hr (by omega) (by rfl) pass0 (pa_cons (pv 2) pa_nil)) pa_nil))))) (pss_one (ps_ret (pv 1)))))), ?_⟩
    refine ⟨_, rfl, _, _, _, rfl, by simp, hd, _, rfl, ?_⟩
    rcases okP_cases ok with ⟨i, rfl, hi⟩ | ⟨ds, rfl, e1, e2, oks⟩
    · cases hd
      refine iteT ⟨_, rfl, by show 1 ≤ sizeLine; decide, fun a ha => k _ a (fun b o e => ?_) ha ?_⟩
      · rw [upd_ne (ne_of_none e ha)]
        exact e
      · rw [upd_same]
        show some (HO.lst [V.int (i : Nat)]) = some (HO.lst [V.int (((i : Nat) : Int).toNat : Nat)])
        rw [Int.toNat_natCast]
    · refine iteF ?_
      cases hd with
      | @tup a xs _ hS hI =>
        have l40' : (leafs ds).length ≤ 40 := l40
        have each : ∀ d ∈ ds, okP m d ∧ (leaf d).length ≤ 40 := fun d hd => ⟨okPs_iff.mp oks d hd, Nat.le_trans (leaf_part hd) l40'⟩
        have hdep : ∀ d ∈ ds, d.depth + 1 ≤ n := fun d hd => by
          have a : PyData.depthAll ds + 1 ≤ n := by simpa only [PyData.depth] using hn
          have := depth_mem hd
          omega
        have lx : xs.length = ds.length := dpLen hI
        refine ⟨Nat.zero_le _, fun F hF0 => ?_⟩
        have s0 : Same H (upd H F (.lst [])) := fun b o e => by
          rw [upd_ne (ne_of_none e hF0)]
          exact e
        refine ⟨_, rfl, a, rfl, ⟨_, sqT_same s0 hS⟩, for_tup (K := K) (a := a) (xs := xs) (fun i σ H' => ∃ (v2 : Option V), σ = [some (.ref a), some (.ref F), v2] ∧ Same H H' ∧ H' F = some (.lst ((leafs (ds.take i)).map fun j => V.int (j : Nat))))
          ⟨none, rfl, s0, upd_same⟩ (fun i σ H' _ ⟨_, _, sm, _⟩ => sqT_same sm hS) ?_ ?_⟩
        · rintro i x σ H1 hx ⟨v2, rfl, sm, hF⟩
          obtain ⟨e, ee, he⟩ := dpGet hI hx
          have em := List.mem_of_getElem? ee
          refine ⟨_, rfl, .inl ⟨rfl, _, SqL.of hF⟩, _, rfl, hsp x e m H1 _ _ (dp_same sm _ he) (each e em).1 m6 (each e em).2 (hdep e em) fun H2 G s2 hG hG2 => ?_⟩
          have wl := leafs_le ds (i + 1)
          have et := leafs_take ee
          have hF2 := s2 _ _ hF
          refine ⟨F, G, _, _, rfl, rfl, hF2, hG2, ?_, _, rfl, fun b o q => ?_, ?_⟩
          · rw [et, List.length_append] at wl
            rw [List.length_map, List.length_map]
            exact Nat.le_of_lt (small1000 (by omega))
          · rw [upd_ne (ne_of_none q hF0)]
            exact s2 _ _ (sm _ _ q)
          · rw [upd_same, et, List.map_append]
        · rintro σ H1 ⟨v2, rfl, sm, hF⟩
          rw [lx, List.take_length] at hF
          exact ⟨_, rfl, k _ F sm hF0 hF⟩
theorem in_ok {c : Addr} (D : DefAt K mg "_law_in" s__law_in c) (T : Txt K mg) : ∀ n : Nat, Cal P w K mg base CX0 (n + 2) "_law_in" ["_law_plan_here"] (spIn K n)
  | 0 => in_step D T 0 (Nat.le_refl _) (in_none D) (fun _ _ _ _ _ _ _ _ _ _ h _ => by omega)
  | n + 1 => in_step D T (n + 1) (by omega) (in_ok D T n) (fun v d m H Q E h1 h2 h3 h4 h5 q => ⟨v, d, m, rfl, h1, h2, h3, h4, by omega, q⟩)
end
end RS
set_option Elab.async false
set_option maxRecDepth 100000
set_option maxHeartbeats 4000000
set_option pp.maxSteps 400
namespace RS
open PySem PySem.Spec PyProof.Rows L2 GX
theorem leafs_sub {j : Nat} : ∀ {ds : List PyData} {d : PyData}, d ∈ ds → j ∈ leaf d → j ∈ leafs ds
  | e :: ds, d, h, hj => by
    rcases List.mem_cons.mp h with q | q
    · rw [q] at hj
      exact List.mem_append_left _ hj
    · exact List.mem_append_right _ (leafs_sub q hj)
theorem isum_nat {α : Type} (l : List α) (f : α → Nat) : (l.map fun x => ((f x : Nat) : Int)).sum = (((l.map f).sum : Nat) : Int) := by
  induction l with
  | nil => rfl
  | cons x l ih => rw [List.map_cons, List.sum_cons, ih, List.map_cons, List.sum_cons]; omega
theorem costPs_sum' (L : List Nat) : ∀ ds : List PyData, costPs L ds = (ds.map (costP L)).sum
  | [] => rfl
  | d :: ds => by
    show costP L d + costPs L ds = costP L d + (ds.map (costP L)).sum
    rw [costPs_sum' L ds]
section
variable {P : Program} {w : World} {K : PySem.W.Frag} {mg : Str → Option Value} {base : Heap}
theorem scLCost : FnScope ["_law_lengths_here", "_law_plan_here", "_law_inner", "_law_part", "_law_run"] ["_law_lengths_here", "_law_plan_here"] (defScope s__law_cost) := ⟨rfl, rfl, rfl, by decide +kernel, rfl, by decide +kernel, by decide +kernel⟩
def spLCost (K : PySem.W.Frag) (n : Nat) : Sp := fun vs H Q _ => ∃ (vl v : V) (ls : List Nat) (d : PyData) (m : Nat), vs = [vl, v] ∧ Dp K H vl (lensD ls) ∧ Dp K H v d ∧ okP m d ∧ m ≤ 6 ∧ (leaf d).length ≤ 40 ∧ (∀ j ∈ leaf d, j < ls.length) ∧ d.depth ≤ n ∧ ∀ H', Same H H' → Q (.int (costP ls d : Nat)) H'
theorem lcost_none {c : Addr} (D : DefAt K mg "_law_cost" s__law_cost c) : Cal P w K mg base CX0 1 "_law_cost" ["_law_lengths_here", "_law_plan_here"] (fun _ _ _ _ => False) :=
  def_ok0 D scLCost (fun vs H Q E h => h.elim) (fun _ _ _ _ _ _ us hl => match us, hl with | [_, _], _ => rfl) (fun f A outer s H vs Q E hr h => h.elim)
theorem lcost_step {c : Addr} (D : DefAt K mg "_law_cost" s__law_cost c) (T : Txt K mg) (hsum : mg "sum" = none) (cI : Cal P w K mg base CX0 42 "_law_in" ["_law_plan_here"] (spIn K 40)) {j : Nat} (n : Nat) {sp : Sp} (hj : 42 ≤ j) (h40 : n ≤ 40) (cR : Cal P w K mg base CX0 j "_law_cost" ["_law_lengths_here", "_law_plan_here"] sp)
    (hsp : ∀ (vl v : V) (ls : List Nat) (d : PyData) (m : Nat) (H : Hp) (Q : VK) (E : XK), Dp K H vl (lensD ls) → Dp K H v d → okP m d → m ≤ 6 → (leaf d).length ≤ 40 → (∀ j ∈ leaf d, j < ls.length) → d.depth + 1 ≤ n → (∀ H', Same H H' → Q (.int (costP ls d : Nat)) H') → sp [vl, v] H Q E) : Cal P w K mg base CX0 (j + 1) "_law_cost" ["_law_lengths_here", "_law_plan_here"] (spLCost K n) := by
  have sc := scLCost
  refine def_ok0 D sc (fun vs H Q E h => ?_) (fun _ _ _ _ _ _ us hl => match us, hl with | [_, _], _ => rfl) (fun f A outer s H vs Q E hr h => ?_)
  · obtain ⟨vl, v, ls, d, m, rfl, _⟩ := h
    rfl
  · obtain ⟨vl, v, ls, d, m, rfl, hl, hd, ok, m6, l40, jl, hn, k⟩ := h
    refine ⟨_, (pss_cons (ps_if (pt_not (pt_val (pe_callB call_isiD (by rfl) T.isinstance (by decide +kernel) (pa_cons (pv 1) (pa_cons (pe_bltn (v := V.ty "tuple") (u := Value.type "tuple") (by rfl) T.tuple_ (by decide +kernel) rfl) pa_nil))))) (pss_one (ps_ret pe_int)) pss_nil) (pss_cons (ps_set (i := 2) sc.nd rfl (Or.inl rfl) (pe_callB (cr_sum rfl) (by rfl) hsum (by decide +kernel) (pa_cons (pe_lc (own := [("_law_part", 3)]) (tt := tYes)  rfl sc.nd (pi_tup (pv 1)) (blkOk_by (N := ["_law_lengths_here", "_law_plan_here", "_law_inner", "_law_part", "_law_run"]) (sc := defScope s__law_cost) (own := [("_law_part", 3)]) (by decide +kernel)) (fun _ _ _ _ _ => (pg_name (i := 3) sc.nd rfl (Or.inl rfl))) (fun _ _ _ _ _ => pts_nil) (fun _ _ _ _ _ => (pe_c cR hr (by omega) (by rfl) pass0 (pa_cons (pv 0) (pa_cons (pv 3) pa_nil))))) pa_nil))) (pss_one (ps_ret (pe_op op_add (pv 2) (pe_callB (cr_sum rfl) (by rfl) hsum (by decide +kernel) (pa_cons (pe_lc (own := [("_law_run", 4)]) (tt := tYes)  rfl sc.nd (pi_list (pe_c cI hr (by omega) (by rfl) pass0 (pa_cons (pv 1) pa_nil))) (blkOk_by (N := ["_law_lengths_here", "_law_plan_here", "_law_inner", "_law_part", "_law_run"]) (sc := defScope s__law_cost) (own := [("_law_run", 4)]) (by decide +kernel)) (fun _ _ _ _ _ => (pg_name (i := 4) sc.nd rfl (Or.inl rfl))) (fun _ _ _ _ _ => pts_nil) (fun _ _ _ _ _ => (pe_ix (ixDC (K := K) rfl) (pv 0) (pv 4) (fun _ _ => rfl)))) pa_nil))))))), ?_⟩
    refine ⟨_, rfl, _, _, _, rfl, by simp, hd, _, rfl, ?_⟩
    rcases okP_cases ok with ⟨i, rfl, hi⟩ | ⟨ds, rfl, e1, e2, oks⟩
    · cases hd
      exact iteT (k H (Same.refl H))
    · refine iteF ?_
      have hdt := hd
      cases hd with
      | @tup a xs _ hS hI =>
        have l40' : (leafs ds).length ≤ 40 := l40
        have each : ∀ d ∈ ds, okP m d ∧ (leaf d).length ≤ 40 := fun d hd => ⟨okPs_iff.mp oks d hd, Nat.le_trans (leaf_part hd) l40'⟩
        have hdep : ∀ d ∈ ds, d.depth + 1 ≤ n := fun d hd => by
          have a : PyData.depthAll ds + 1 ≤ n := by simpa only [PyData.depth] using hn
          have := depth_mem hd
          omega
        have lx : xs.length = ds.length := dpLen hI
        refine ⟨_, rfl, a, rfl, ⟨_, hS⟩, fun DD hD => ?_⟩
        refine lc_tup (K := K) (a := a) (xs := xs) (fun j H' => Same H H' ∧ H' DD = some (.lst (((ds.take j).map fun d => ((costP ls d : Nat) : Int)).map V.int))) ⟨fun b o e => by rw [upd_ne (ne_of_none e hD)]; exact e, upd_same⟩ (fun j H4 _ h => sqT_same h.1 hS) ?_ ?_
        · rintro j x H4 hx ⟨sm, hl4⟩
          obtain ⟨e, ee, he⟩ := dpGet hI hx
          have em := List.mem_of_getElem? ee
          refine ⟨rfl, _, rfl, _, rfl, hsp vl x ls e m H4 _ _ (dp_same sm _ hl) (dp_same sm _ he) (each e em).1 m6 (each e em).2 (fun q hq => jl q (leafs_sub em hq)) (hdep e em) fun H5 s5 => ?_⟩
          refine ⟨_, s5 _ _ hl4, small1000 (by rw [List.length_map, List.length_map, List.length_take]; omega), fun b o q => ?_, ?_⟩
          · rw [upd_ne (ne_of_none q hD)]
            exact s5 _ _ (sm _ _ q)
          · rw [upd_same, List.take_add_one, ee, List.map_append, List.map_append]
            rfl
        · rintro H4 ⟨sm, hl4⟩
          rw [lx, List.take_length] at hl4
          refine ⟨DD, _, rfl, SqL.of hl4, ?_⟩
          rw [isum_nat ds (costP ls), ← costPs_sum']
          refine ⟨_, rfl, _, rfl, .ref a, .tuple ds, m, rfl, dp_same sm _ hdt, ok, m6, l40, by omega, fun H5 G s5 hG0 hG => ?_⟩
          refine ⟨G, rfl, ⟨_, SqL.of hG⟩, fun D2 hD2 => ?_⟩
          refine lc_list (K := K) (a := G) (xs := (leaf (.tuple ds)).map fun j => V.int (j : Nat)) (fun j H' => Same H5 H' ∧ H' D2 = some (.lst ((((leaf (.tuple ds)).take j).map fun q => ((ls.getD q 0 : Nat) : Int)).map V.int))) ⟨fun b o e => by rw [upd_ne (ne_of_none e hD2)]; exact e, upd_same⟩ (fun j H6 _ h => h.1.seq (SqL.of hG)) ?_ ?_
          · rintro j x H6 hx ⟨sm6, hl6⟩
            obtain ⟨q, eq, rfl⟩ : ∃ q, (leaf (.tuple ds))[j]? = some q ∧ x = V.int (q : Nat) := by
              rw [List.getElem?_map] at hx
              cases z : (leaf (.tuple ds))[j]? with
              | none => rw [z] at hx; cases hx
              | some b => rw [z] at hx; exact ⟨b, rfl, (Option.some.inj hx).symm⟩
            have hq := jl q (List.mem_of_getElem? eq)
            have hjl := (List.getElem?_eq_some_iff.mp eq).1
            refine ⟨rfl, _, rfl, _, rfl, lensD ls, _, (q : Nat), .int (ls[q] : Nat), dp_same sm6 _ (dp_same s5 _ (dp_same sm _ hl)), rfl, rfl, atI_nat (by rw [List.getElem?_map, List.getElem?_eq_getElem hq]; rfl), fun w hw => ?_⟩
            cases hw
            refine ⟨_, hl6, small1000 (by rw [List.length_map, List.length_map, List.length_take]; omega), fun b o z => ?_, ?_⟩
            · rw [upd_ne (ne_of_none z hD2)]
              exact sm6 _ _ z
            · have : ls.getD q 0 = ls[q] := by simp [List.getD, hq]
              rw [upd_same, List.take_add_one, eq, List.map_append, List.map_append, Option.toList_some, List.map_singleton, List.map_singleton, this]
          · rintro H6 ⟨sm6, hl6⟩
            rw [List.length_map, List.take_length] at hl6
            refine ⟨D2, _, rfl, SqL.of hl6, _, _, rfl, rfl, ?_⟩
            rw [isum_nat (leaf (.tuple ds)) fun q => ls.getD q 0]
            exact k H6 ((sm.trans s5).trans sm6)
theorem lcost_ok {c : Addr} (D : DefAt K mg "_law_cost" s__law_cost c) (T : Txt K mg) (hsum : mg "sum" = none) (cI : Cal P w K mg base CX0 42 "_law_in" ["_law_plan_here"] (spIn K 40)) : ∀ n : Nat, n ≤ 40 → Cal P w K mg base CX0 (n + 43) "_law_cost" ["_law_lengths_here", "_law_plan_here"] (spLCost K n)
  | 0, h => lcost_step (j := 42) D T hsum cI 0 (by omega) h (sp := fun _ _ _ _ => False) (def_ok0 (k := 41) D scLCost (fun vs H Q E h => h.elim) (fun _ _ _ _ _ _ us hl => match us, hl with | [_, _], _ => rfl) (fun f A outer s H vs Q E hr h => h.elim)) (fun _ _ _ _ _ _ _ _ _ _ _ _ _ _ h _ => by omega)
  | n + 1, h => lcost_step D T hsum cI (n + 1) (by omega) h (lcost_ok D T hsum cI n (by omega)) (fun vl v ls d m H Q E h1 h2 h3 h4 h5 h6 h7 q => ⟨vl, v, ls, d, m, rfl, h1, h2, h3, h4, h5, h6, by omega, q⟩)
end
end RS
set_option Elab.async false
set_option maxRecDepth 100000
set_option maxHeartbeats 4000000
namespace RS
open PySem PySem.Spec PyProof.Rows L2 GX
/-! ### tables that are empty at the entry, as tables of any size -/
def extOf (T : List Addr) (H : Hp) : Hp := fun b => if b ∈ T then some (.ext (TabE b)) else H b
def tabAt (h : Heap) (b : Addr) : Array Value := match h.get? b with
  | some o => (match o.data with
    | .fields rs => rs
    | _ => #[])
  | none => #[]
def tblOf (T : List Addr) (h : Heap) (H : Hp) : Hp := fun b => if b ∈ T then some (.tbl (tabAt h b)) else H b
/-- a promise that speaks of tables of any size, asked where they are empty -/
def spT (T : List Addr) (sp : Sp) : Sp := fun vs H Q E => (∀ b ∈ T, H b = some (.tbl #[])) ∧ sp vs (extOf T H) (fun v H' => (∀ b ∈ T, Tab H' b) ∧ ∀ H2, Q v H2) E
theorem ext_in {T : List Addr} {H : Hp} {b : Addr} (h : b ∈ T) : extOf T H b = some (.ext (TabE b)) := if_pos h
theorem ext_out {T : List Addr} {H : Hp} {b : Addr} (h : b ∉ T) : extOf T H b = H b := if_neg h
theorem tbl_in {T : List Addr} {g : Heap} {H : Hp} {b : Addr} (h : b ∈ T) : tblOf T g H b = some (.tbl (tabAt g b)) := if_pos h
theorem tbl_out {T : List Addr} {g : Heap} {H : Hp} {b : Addr} (h : b ∉ T) : tblOf T g H b = H b := if_neg h
theorem FnOk.tables {P : Program} {w : World} {K : PySem.W.Frag} {mg : Str → Option Value} {base : Heap} {k : Nat} {f : Addr} {fd : FuncData} {ps : List Str} {sp : Sp} {T : List Addr} (F : FnOk P w K mg base CX0 k f fd ps sp) : FnOk P w K mg base CX0 k f fd ps (spT T sp) := by
  refine ⟨fun vs H Q E h => F.len _ _ _ _ h.2, fun A outer s H args us vs Q E hr e0 hb hv ⟨hT, hs⟩ => ?_⟩
  have nT : ∀ b, H b = none → b ∉ T := fun b e hb => by
    rw [hT b hb] at e
    cases e
  have nT2 : ∀ b o, H b = some o → (∀ ps, o ≠ .tbl ps) → b ∉ T := fun b o e n hb => by
    rw [hT b hb] at e
    exact n #[] (Option.some.inj e).symm
  have e2 : Env0 P w K mg base A outer s (extOf T H) := by
    refine ⟨e0.frames, e0.mod, fun b o e => ⟨(e0.bs b o e).1, by rw [ext_out (nT b (e0.bs b o e).2)]; exact (e0.bs b o e).2⟩, e0.bsz, e0.funs, fun b hb => by rw [ext_out (nT b (e0.frf b hb))]; exact e0.frf b hb, fun b o e => ?_, e0.bare⟩
    by_cases hb : b ∈ T
    · rw [ext_in hb] at e
      cases e
      have q := e0.hok b _ (hT b hb)
      exact ⟨⟨#[], q, trivial⟩, ⟨_, q⟩, tabE_stable⟩
    · rw [ext_out hb] at e
      refine (e0.hok b o e).stay (fun c u _ q => q) (fun c q => ?_) (fun c xs q => ?_)
      · rw [ext_out (nT2 c _ q (fun ps z => by cases z))]
        exact q
      · rw [ext_out (nT2 c _ q (fun ps z => by cases z))]
        exact q
  refine codeAny_mono (F.run A outer s (extOf T H) args us vs _ E hr e2 hb hv hs) fun r s' hq => ?_
  cases r with
  | error e => exact hq
  | ok fl =>
    cases fl with
    | next => exact hq
    | brk => exact hq
    | cont => exact hq
    | ret u =>
      obtain ⟨v, H', os, bare, un, hok', r', hT', q⟩ := hq
      refine ⟨v, tblOf T s'.heap H', os, bare, ⟨fun b o e n => un.keep b o e (by rw [ext_out (nT b n)]; exact n), fun b o e n => un.slot b o e (by rw [ext_out (nT b n)]; exact n), fun b o e n hx => ?_, un.there, fun b xs e => ?_, fun b o u e => ?_, fun b ps e => ?_⟩, fun b o e => ?_, r', q _⟩
      · rw [tbl_out (nT b n)]
        exact un.free b o e (by rw [ext_out (nT b n)]; exact n) hx
      · have hb := nT2 b _ e (fun ps z => by cases z)
        rw [tbl_out hb]
        exact un.tups b xs (by rw [ext_out hb]; exact e)
      · have hb := nT2 b _ e (fun ps z => by cases z)
        rw [tbl_out hb]
        exact un.frzs b o u (by rw [ext_out hb]; exact e)
      · by_cases hb : b ∈ T
        · rw [hT b hb] at e
          cases e
          exact ⟨tabAt s'.heap b, by rw [tbl_in hb, Array.empty_append]⟩
        · rw [tbl_out hb]
          exact un.tbls b ps (by rw [ext_out hb]; exact e)
      · have inT : ∀ c, c ∈ T → ∃ rs : Array Value, s'.heap.get? c = some { cls := .none, data := .fields rs } := fun c hc => by
          obtain ⟨⟨rs, h1, _⟩, _⟩ := hok' c _ (hT' c hc)
          exact ⟨rs, h1⟩
        by_cases hb : b ∈ T
        · rw [tbl_in hb] at e
          cases e
          obtain ⟨rs, h1⟩ := inT b hb
          have e2 : tabAt s'.heap b = rs := by
            unfold tabAt
            rw [h1]
          show s'.heap.get? b = some { cls := .none, data := .fields (tabAt s'.heap b) }
          rw [e2]
          exact h1
        · rw [tbl_out hb] at e
          have nT3 : ∀ c o, H' c = some o → (∀ φ, o ≠ .ext φ) → c ∉ T := fun c o e n hc => by
            have z : H' c = some (.ext (TabE c)) := hT' c hc
            rw [e] at z
            exact n _ (Option.some.inj z)
          refine (hok' b o e).stay (fun c u _ q => q) (fun c q => ?_) (fun c xs q => ?_)
          · rw [tbl_out (nT3 c _ q (fun φ z => by cases z))]
            exact q
          · rw [tbl_out (nT3 c _ q (fun φ z => by cases z))]
            exact q
section
variable {P : Program} {w : World} {K : PySem.W.Frag} {mg : Str → Option Value} {base : Heap}
theorem fn_of0 {f c : Addr} {oc kV doc pm ct : Value} {od an : Option Addr} {osl : Array (Option Value)} {x : Str} {st : Stmt} {N ps : List Str} {k : Nat} {sp : Sp}
    (lk : K.lookup f = some ⟨oc, od, .func (PySem.W.fnOf x x (defArgs st) (defBody st) (defScope st) .none kV doc pm an (.ref c) ct), osl⟩) (hcd : PySem.W.codeIn K (.ref c) x = true) (S : FnScope N ps (defScope st)) (len : ∀ vs H Q E, sp vs H Q E → vs.length = ps.length)
    (hbody : ∀ (f : Addr) (A : Around) (outer : List Env) (s : Shared) (H : Hp) (vs : List V) (Q : VK) (E : XK), Room k (A.deeper (envOfC x (defScope st) s.heap.objs.size f (.ref c))) → sp vs H Q E →
      ∃ t, PSs (cxOf CX0 P w K mg base N x (defScope st) f (.ref c) A outer s H E).nox (defBody st) t ∧ t { nx := fun _ H' => Q .non H', rt := Q } (start N vs) H) :
    FnOk P w K mg base CX0 (k + 1) f (PySem.W.fnOf x x (defArgs st) (defBody st) (defScope st) .none kV doc pm an (.ref c) ct) ps sp :=
  fn_of lk hcd S len fun A outer s H vs Q E hr hsp => by
    obtain ⟨t, ht, q⟩ := hbody f A outer s H vs Q E hr hsp
    exact ⟨t, ht.nox, q⟩
end
end RS
set_option Elab.async false
set_option maxRecDepth 100000
set_option maxHeartbeats 4000000
namespace RS
open PySem PySem.Spec PyProof.Rows L2 GX
/-- the end: the tables of the defs are empty at the law's entry -/
theorem walk_tabs {l : PySem.W.OpenLaw} {n k : Nat} {q : Program} {loose : List Str} {XP : (Str → Option Value) → Heap → Prop} {YP : World → Heap → Prop} {d : DefRec} {K : Params → PySem.W.Frag} {x : Str}
    (hn : l.most = some n) (hn2 : n ≤ sizeLine) (hdf : d.params.defaults = []) (hr : Room k callerA) (hY : ∀ (w : World) (h : Heap), YP w h → (K w.params).In h)
    (F : ∀ (w : World) (mg : Str → Option Value) (fa : Addr) (h : Heap), (K w.params).In h → h.Ns mainGlobals mg → mg d.name = some (.ref fa) →
      (∀ (y : Str) (d' : DefRec) (c P : Addr), (recsOf q).find? (fun e => e.name == y) = some d' → PySem.W.tabIn (K w.params) y = some (c, P) → PySem.W.CodeHd h c P ∧ h.get? P = some { cls := .none, data := .fields #[] }) →
      LamX.LawAtS l w (K w.params) CX0 k n x mg fa h) :
    PySem.W.WalkO q loose XP YP l.row.toRowW d [] (fun f vs => PySem.call f vs) := by
  refine Att.attach_callB hn hdf fun w s₀ s₁ mg mb fa o pm cd doc a vs ns G Y ho hd hcd hmg hobj hints hlen hbits hg => ?_
  have KX := hY w _ Y
  obtain ⟨fd, cs, sp, hT, nT, C, hb, hsp, hF⟩ := F w mg fa _ KX G.T.g hmg fun y d' c P e1 e2 => PySem.W.tab_of G.T KX e1 e2
  exact LamX.law_callTs KX G.T.g G.T.b G.T.builtins G.T.nolimit hg hT nT C G.T.bmain hobj hints (Nat.le_trans hlen hn2) hr hF hb (fun H hH hS => hsp H a ns hlen hbits hH hS) fun H e s' z => z
end RS
set_option Elab.async false
set_option maxRecDepth 100000
set_option maxHeartbeats 8000000
set_option pp.maxSteps 400
namespace RS
open PySem PySem.Spec PyProof.Rows L2 GX LM
abbrev qL7 : Str := (envOfC "law" (defScope sLaw) 0 0 (.ref 0)).qual ++ "<lambda>"
abbrev N7 : List Str := ["_law_script", "_law_box", "_law_turn", "_law_lengths_here", "_law_ways", "_law_plan_here", "_law_handed", "_law_found", "_law_bad_here", "_law_works", "_law_far", "_law_at", "_law_odd", "_law_none"]
structure Parts7 (P : Program) (w : World) (K : PySem.W.Frag) (mg : Str → Option Value) (base : Heap) (CL CM CP SE : Addr) (C15 : Nat → Addr) (p : Addr) : Prop where
  begun : Cal P w K mg base CX0 1 "_law_begun" ["_law_script"] (spBegun K)
  take : Cal P w K mg base CX0 1 "_law_take" ["_law_box", "_law_many"] spTake
  lens : Cal P w K mg base CX0 2 "_law_lengths" ["_law_box", "_law_most"] spLens
  plan : Cal P w K mg base CX0 2 "_law_plan" ["_law_box", "_law_runs", "_law_ways"] (spLPlan K)
  cost : Cal P w K mg base CX0 5 "cost" ["lengths", "ways", "plan"] (spCost K p)
  lcost : Cal P w K mg base CX0 83 "_law_cost" ["_law_lengths_here", "_law_plan_here"] (spLCost K 40)
  alike : Cal P w K mg base CX0 42 "_law_alike" ["_law_found", "_law_due"] (spAlike K 40)
  bad : Cal P w K mg base CX0 53 "_law_bad" ["_law_box", "_law_many", "_law_ways", "_law_plan_here"] (spBadP K)
  all : Cal P w K mg base CX0 43 "_law_all" ["_law_works", "_law_due"] (spAll P w K mg base SE C15 7)
  e_cost : Cal P w K mg base (L2.CX P w) 5 "cost" ["lengths", "ways", "plan"] (spMergB K CL CM p 1)
  e_cheapest : Cal P w K mg base (L2.CX P w) 5 "cheapest" ["lengths", "ways"] (spMergB K CL CM p 0)
  e_neighbours : Cal P w K mg base (L2.CX P w) 5 "neighbours" ["lengths", "ways"] (spMergB K CL CM p 0)
  e_paper : Cal P w K mg base (L2.CX P w) 5 "paper" ["lengths", "ways"] (spMergB K CL CM p 0)
  e_bound : Cal P w K mg base (L2.CX P w) 5 "bound" ["lengths", "ways", "told"] (spMergB K CL CM p 1)
  e_written_plan : Cal P w K mg base (L2.CX P w) 5 "written_plan" ["lengths", "ways", "plan"] (spMergB K CL CM p 1)
  e_read_plan : Cal P w K mg base (L2.CX P w) 5 "read_plan" ["lengths", "ways", "text"] (spMergB K CL CM p 1)
  p_cost : Cal P w K mg base (L2.CX P w) 5 "cost" ["lengths", "ways", "plan"] (spPlanB K CP p)
  p_written_plan : Cal P w K mg base (L2.CX P w) 5 "written_plan" ["lengths", "ways", "plan"] (spPlanB K CP p)
def spLaw7 (K : PySem.W.Frag) (p pL : Addr) : Sp := fun vs H Q _ => ∃ (a : Addr) (ns : List Int), vs = [.ref a] ∧ SqL K H a (ns.map V.int) ∧ Tab H p ∧ LamX.TabS H pL qL7 ∧ ∀ H', Tab H' p → Q (.bl true) H'
theorem tab_x7 {H H' : Hp} {B L p : Addr} (b : BoxAt H B L) (s : SameX B L H H') (h : Tab H p) : Tab H' p := by
  obtain ⟨_, ⟨st, hB⟩, ⟨ms, hL⟩⟩ := b
  exact s _ _ (fun z => by unfold Tab at h; rw [z, hB] at h; cases h) (fun z => by unfold Tab at h; rw [z, hL] at h; cases h) h
theorem tabS_x7 {H H' : Hp} {B L P : Addr} {q : Str} (b : BoxAt H B L) (s : SameX B L H H') (t : LamX.TabS H P q) : LamX.TabS H' P q := by
  obtain ⟨_, ⟨st, hb'⟩, ⟨ms, hl'⟩⟩ := b
  obtain ⟨ps, h1, h2, h3⟩ := t
  refine ⟨ps, s _ _ (fun z => by rw [z, hb'] at h1; cases h1) (fun z => by rw [z, hl'] at h1; cases h1) h1, h2, fun pos cv hc => ?_⟩
  obtain ⟨c, e1, e2⟩ := h3 pos cv hc
  refine ⟨c, e1, s _ _ (fun z => ?_) (fun z => ?_) e2⟩
  · rw [z, hb'] at e2
    unfold LamX.CodeO at e2
    cases e2
  · rw [z, hl'] at e2
    unfold LamX.CodeO at e2
    cases e2
/-- the drawer and the tables -/
structure G7 (B L p : Addr) (la : Addr) (ls : List Nat) (H : Hp) : Prop where
  b : BoxAt H B L
  t : Tab H p
  l : H la = some (.lst (ls.map fun n => V.int (n : Nat)))
theorem G7.ext {B L p la : Addr} {ls : List Nat} {H H' : Hp} (g : G7 B L p la ls H) (e : LamX.ExtN H H') : G7 B L p la ls H' := by
  obtain ⟨⟨n, ⟨st, hb⟩, ⟨ms, hl⟩⟩, t, l⟩ := g
  exact ⟨⟨n, ⟨st, e _ _ hb (fun ps z => nomatch z)⟩, ⟨ms, e _ _ hl (fun ps z => nomatch z)⟩⟩, e _ _ t (fun ps z => nomatch z), e _ _ l (fun ps z => nomatch z)⟩
theorem G7.same {B L p la : Addr} {ls : List Nat} {H H' : Hp} (g : G7 B L p la ls H) (s : Same H H') : G7 B L p la ls H' := g.ext (LamX.ExtN.of s)
theorem G7.x {B L p la : Addr} {ls : List Nat} {H H' : Hp} (g : G7 B L p la ls H) (s : SameX B L H H') (b : BoxAt H' B L) (n : la ≠ B ∧ la ≠ L) : G7 B L p la ls H' := ⟨b, tab_x7 g.b s g.t, s _ _ n.1 n.2 g.l⟩
theorem G7.len {K : PySem.W.Frag} {B L p la : Addr} {ls : List Nat} {H : Hp} (g : G7 B L p la ls H) : Dp K H (.ref la) (lensD ls) := .lst (SqL.of g.l) (dpNats ls)
theorem passX7 {P : Program} {w : World} {X : Cx} : Passes (L2.CX P w) X E0 := fun _ _ _ _ _ _ _ h => by
  obtain ⟨_, _, _, _, _, _, _, _, _, _, _, _, z⟩ := h
  exact z.elim
theorem far7 {w x : Int} (h0 : 0 ≤ w) (x0 : 0 ≤ x) (x5 : x < 5) : ∃ z : Int, atI [V.int 1, .int 0, .int 7, .int (7 + w), .int (-1)] x = some (.int z) ∧ (z < 2 ∨ 6 < z) := by
  have : x = 0 ∨ x = 1 ∨ x = 2 ∨ x = 3 ∨ x = 4 := by omega
  rcases this with rfl | rfl | rfl | rfl | rfl
  · exact ⟨1, rfl, by decide⟩
  · exact ⟨0, rfl, by decide⟩
  · exact ⟨7, rfl, by decide⟩
  · exact ⟨7 + w, rfl, by omega⟩
  · exact ⟨-1, rfl, by decide⟩
theorem dpInts7 {K : PySem.W.Frag} {H : Hp} (zs : List Int) : DpAll K H (zs.map V.int) (zs.map PyData.int) := (oddL_ints (K := K) (H := H) zs).d
theorem lens_ints (ls : List Nat) : lensD ls = intsD (ls.map fun n => ((n : Nat) : Int)) := by
  unfold lensD intsD
  rw [List.map_map]
  rfl
theorem ints_shaped (l : List Int) : SeqAt.shaped (intsD l) = true := by
  unfold SeqAt.shaped
  rw [Bool.and_eq_true]
  refine ⟨?_, decide_eq_true ?_⟩
  · simp only [intsD, PyData.canLay0]
    exact canLayAll7 fun d hd => by
      obtain ⟨i, _, rfl⟩ := List.mem_map.mp hd
      simp [PyData.canLay0]
  · simp only [intsD, PyData.depth]
    have := depthLe7 (n := 0) (ds := l.map PyData.int) fun d hd => by
      obtain ⟨i, _, rfl⟩ := List.mem_map.mp hd
      simp [PyData.depth]
    omega
theorem ints_eqv (l : List Int) : PyData.eqv (intsD l) (intsD l) = true := by
  simp only [intsD, PyData.eqv, eqv_intsD]
  simp
theorem bad0 : ¬ OkLz [0] := fun z => absurd (z.2.2 0 (by simp)) (by decide)
theorem badN : ¬ OkLz [] := fun z => absurd z.1 (by decide)
theorem badR {k : Nat} (h : 41 ≤ k) : ¬ OkLz (List.replicate k 1) := fun z => by
  have := z.2.1
  rw [List.length_replicate] at this
  omega
theorem badI {a b : List Int} {i : Int} (h : okLen i = false) : ¬ OkLz (a ++ [i] ++ b) := fun z => by
  have := z.2.2 i (by simp)
  rw [h] at this
  cases this
theorem bad4 {x : Int} (x0 : 0 ≤ x) (x4 : x < 4) : ∃ i : Int, atI [V.int 0, .int (-1), .int (10 ^ (6 : Int).toNat + 1), .int (10 ^ (18 : Int).toNat)] x = some (.int i) ∧ okLen i = false := by
  have : x = 0 ∨ x = 1 ∨ x = 2 ∨ x = 3 := by omega
  rcases this with rfl | rfl | rfl | rfl
  · exact ⟨0, rfl, by decide⟩
  · exact ⟨-1, rfl, by decide⟩
  · exact ⟨_, rfl, by decide +kernel⟩
  · exact ⟨_, rfl, by decide +kernel⟩
theorem sl_any7 {K : PySem.W.Frag} {H : Hp} {a : Addr} {xs : List V} {lo hi : Option Int} {Q : VK} (ha : H a = some (.lst xs)) (q : ∀ p H', Same H H' → H p = none → H' p = some (.lst (cutV xs lo hi)) → Q (.ref p) H') : rSlL K (.ref a) lo hi H Q :=
  ⟨a, xs, rfl, SqL.of ha, fun p hp => q p _ (sameNew (Same.refl H) hp) hp upd_same⟩
theorem cutV_to7 {xs : List V} {k : Nat} : cutV xs none (some (k : Nat)) = xs.take k := by
  unfold cutV
  rw [HT.sIx_nat, HT.sIx_none, List.drop_zero, Nat.sub_zero]
  exact (List.take_eq_take_min).symm
theorem cutV_from7 {xs : List V} {k : Nat} (h : k ≤ xs.length) : cutV xs (some (k : Nat)) none = xs.drop k := by
  unfold cutV
  rw [HT.sIx_nat, HT.sIx_none, Nat.min_eq_left h, List.take_of_length_le]
  rw [List.length_drop]
  exact Nat.le_refl _
theorem rep_int7 (k : Nat) : (List.replicate k [V.int 1]).flatten = (List.replicate k (1 : Int)).map V.int := by
  induction k with
  | zero => rfl
  | succ k ih => rw [List.replicate_succ, List.flatten_cons, ih, List.replicate_succ]; rfl
theorem cost_pos {n : Nat} {d : PyData} (ok : OkPlan 40 n d) : 0 < costP (List.replicate 40 1) d := by
  rcases okP_cases ok.ok with ⟨i, rfl, hi⟩ | ⟨ds, rfl, h1, h2, h3⟩
  · have := ok.all.length_eq
    simp [leaf] at this
  · have e : costP (List.replicate 40 1) (.tuple ds) = costPs (List.replicate 40 1) ds + wts (List.replicate 40 1) (leafs ds) := by rw [costP]
    rw [e]
    have p : (leafs ds).Perm (List.range 40) := ok.all
    have w : wts (List.replicate 40 1) (leafs ds) = wts (List.replicate 40 1) (List.range 40) := by
      unfold wts
      exact (p.map _).sum_nat
    rw [w]
    have : wts (List.replicate 40 1) (List.range 40) = 40 := by decide +kernel
    omega
section
variable {P : Program} {w : World} {K : PySem.W.Frag} {mg : Str → Option Value} {base : Heap}
theorem scLaw7 : FnScope N7 ["_law_script"] (defScope sLaw) := ⟨rfl, rfl, rfl, by decide +kernel, rfl, by decide +kernel, by decide +kernel⟩
theorem law7_fn {f c CL CM CP SE p pL : Addr} {C15 : Nat → Addr} {oc kV doc pm ct : Value} {od an : Option Addr} {osl : Array (Option Value)} (lk : K.lookup f = some ⟨oc, od, .func (PySem.W.fnOf "law" "law" (defArgs sLaw) (defBody sLaw) (defScope sLaw) .none kV doc pm an (.ref c) ct), osl⟩) (hcd : PySem.W.codeIn K (.ref c) "law" = true)
    (T : Txt K mg) (TB : LamX.TabB base mg c pL) (eL : ErrP K SE C15 CL 5) (eM : ErrP K SE C15 CM 4) (eP : ErrP K SE C15 CP 6) (C : Parts7 P w K mg base CL CM CP SE C15 p) : FnOk P w K mg base CX0 85 f (PySem.W.fnOf "law" "law" (defArgs sLaw) (defBody sLaw) (defScope sLaw) .none kV doc pm an (.ref c) ct) ["_law_script"] (spLaw7 K p pL) := by
  have sc := scLaw7
  refine fn_of0 lk hcd sc (fun vs H Q E h => ?_) (fun f A outer s H vs Q E hr h => ?_)
  · obtain ⟨a, ns, rfl, _⟩ := h
    rfl
  · obtain ⟨a, ns, rfl, hS, tb, tL, k⟩ := h
    have hu := hr.units
    refine ⟨_, (pss_cons (ps_set (i := 1) sc.nd rfl (Or.inl rfl) (pe_c C.begun hr (by decide) (by rfl) pass0 (pa_cons (pv 0) pa_nil))) (pss_cons (ps_for PassesOwn.never rfl (pi_range1 (by rfl) T.range (pa_cons pe_int pa_nil)) (pg_name (i := 2) sc.nd rfl (Or.inl rfl)) (pss_cons (ps_set (i := 3) sc.nd rfl (Or.inr rfl) (pe_c C.lens hr (by decide) (by rfl) pass0 (pa_cons (pv 1) (pa_cons (pe_ix ix_list (pe_lst (pa_cons pe_int (pa_cons pe_int (pa_cons pe_int pa_nil)))) (pe_c C.take hr (by decide) (by rfl) pass0 (pa_cons (pv 1) (pa_cons pe_int pa_nil))) (fun _ _ => rfl)) pa_nil)))) (pss_cons (ps_set (i := 4) sc.nd rfl (Or.inr rfl) (pe_op op_add pe_int (pe_c C.take hr (by decide) (by rfl) pass0 (pa_cons (pv 1) (pa_cons pe_int pa_nil))))) (pss_cons (ps_set (i := 5) sc.nd rfl (Or.inl rfl) (pe_c C.plan hr (by decide) (by rfl) pass0 (pa_cons (pv 1) (pa_cons (pe_listRg rfl (by rfl) T.list_ (prg_1 (by rfl) T.range (pe_callB call_lenD (by rfl) T.len PySem.boot_len (pa_cons (pv 3) pa_nil)))) (pa_cons (pv 4) pa_nil))))) (pss_cons (ps_set (i := 6) sc.nd rfl (Or.inl rfl) (pe_callTy call_list_of (by rfl) T.list_ (by decide +kernel) (pa_cons (pv 3) pa_nil))) (pss_cons (ps_set (i := 7) sc.nd rfl (Or.inl rfl) (pe_c C.cost hr (by decide) (by rfl) pass0 (pa_cons (pv 6) (pa_cons (pv 4) (pa_cons (pv 5) pa_nil))))) (pss_cons (ps_if ((pw_or (pt_not (pt_val (pe_c C.alike hr (by decide) (by rfl) pass0 (pa_cons (pv 7) (pa_cons (pe_c C.lcost hr (by decide) (by rfl) pass0 (pa_cons (pv 3) (pa_cons (pv 5) pa_nil))) pa_nil))))) (pw_or1 (pt_cmpR (op_neD hu) (pv 6) (pv 3) (nomark _)))).pt) (pss_one (ps_ret pe_bl)) pss_nil) (pss_cons (ps_set (i := 8) sc.nd rfl (Or.inr rfl) (pe_c C.bad hr (by decide) (by rfl) pass0 (pa_cons (pv 1) (pa_cons (pe_callB call_lenD (by rfl) T.len PySem.boot_len (pa_cons (pv 3) pa_nil)) (pa_cons (pv 4) (pa_cons (pv 5) pa_nil)))))) (pss_cons (ps_set (i := 9) sc.nd rfl (Or.inl rfl) (pe_lst (pa_cons (pe_lam TB rfl (LamX.lamS_by (sc := defScope sLaw) (by decide +kernel)) (by rfl)) (pa_cons (pe_lamD TB rfl (lamSD_by (N := N7) (sc := defScope sLaw) (p := "_law_a") (by decide +kernel)) rfl rfl pe_int) pa_nil)))) (pss_cons (ps_if (pt_not (pt_val (pe_cP C.all hr (by decide) (fun _ => rfl) (by rfl) (pa_cons (pv 9) (pa_cons (pe_tup (pa_cons pe_str (pa_cons pe_int pa_nil))) pa_nil))))) (pss_one (ps_ret pe_bl)) pss_nil) (pss_cons (ps_set (i := 10) sc.nd rfl (Or.inr rfl) (pe_ix ix_list (pe_lst (pa_cons pe_int (pa_cons pe_int (pa_cons pe_int (pa_cons (pe_op op_add pe_int (pe_c C.take hr (by decide) (by rfl) pass0 (pa_cons (pv 1) (pa_cons (pe_op op_pow pe_int pe_int) pa_nil)))) (pa_cons (pe_un un_neg pe_int) pa_nil)))))) (pe_c C.take hr (by decide) (by rfl) pass0 (pa_cons (pv 1) (pa_cons pe_int pa_nil))) (fun _ _ => rfl))) (pss_cons (ps_set (i := 9) sc.nd rfl (Or.inl rfl) (pe_lst (pa_cons (pe_lam TB rfl (LamX.lamS_by (sc := defScope sLaw) (by decide +kernel)) (by rfl)) (pa_cons (pe_lamD TB rfl (lamSD_by (N := N7) (sc := defScope sLaw) (p := "_law_a") (by decide +kernel)) rfl rfl pe_int) pa_nil)))) (pss_cons (ps_expr (pe_bm PySem.F.plainAttrs_list PySem.F.slot_list_append PySem.F.type_list_append mt_append (pv 9) (pa_cons (pe_lamD TB rfl (lamSD_by (N := N7) (sc := defScope sLaw) (p := "_law_b") (by decide +kernel)) rfl rfl pe_int) pa_nil))) (pss_cons (ps_expr (pe_bm PySem.F.plainAttrs_list PySem.F.slot_list_append PySem.F.type_list_append mt_append (pv 9) (pa_cons (pe_lamD TB rfl (lamSD_by (N := N7) (sc := defScope sLaw) (p := "_law_c") (by decide +kernel)) rfl rfl pe_int) pa_nil))) (pss_cons (ps_expr (pe_bm PySem.F.plainAttrs_list PySem.F.slot_list_append PySem.F.type_list_append mt_append (pv 9) (pa_cons (pe_lamD TB rfl (lamSD_by (N := N7) (sc := defScope sLaw) (p := "_law_d") (by decide +kernel)) rfl rfl pe_int) pa_nil))) (pss_cons (ps_expr (pe_bm PySem.F.plainAttrs_list PySem.F.slot_list_append PySem.F.type_list_append mt_append (pv 9) (pa_cons (pe_lamD TB rfl (lamSD_by (N := N7) (sc := defScope sLaw) (p := "_law_f") (by decide +kernel)) rfl rfl pe_int) pa_nil))) (pss_cons (ps_expr (pe_bm PySem.F.plainAttrs_list PySem.F.slot_list_append PySem.F.type_list_append mt_append (pv 9) (pa_cons (pe_lamD TB rfl (lamSD_by (N := N7) (sc := defScope sLaw) (p := "_law_g") (by decide +kernel)) rfl rfl pe_int) pa_nil))) (pss_cons (ps_if (pt_not (pt_val (pe_cP C.all hr (by decide) (fun _ => rfl) (by rfl) (pa_cons (pv 9) (pa_cons (pe_tup (pa_cons pe_str (pa_cons pe_int pa_nil))) pa_nil))))) (pss_one (ps_ret pe_bl)) pss_nil) (pss_cons (ps_set (i := 11) sc.nd rfl (Or.inl rfl) (pe_c C.take hr (by decide) (by rfl) pass0 (pa_cons (pv 1) (pa_cons (pe_op op_add (pe_callB call_lenD (by rfl) T.len PySem.boot_len (pa_cons (pv 3) pa_nil)) pe_int) pa_nil)))) (pss_cons (ps_set (i := 8) sc.nd rfl (Or.inr rfl) (pe_ix ix_list (pe_lst (pa_cons pe_int (pa_cons (pe_un un_neg pe_int) (pa_cons (pe_op op_add (pe_op op_pow pe_int pe_int) pe_int) (pa_cons (pe_op op_pow pe_int pe_int) pa_nil))))) (pe_c C.take hr (by decide) (by rfl) pass0 (pa_cons (pv 1) (pa_cons pe_int pa_nil))) (fun _ _ => rfl))) (pss_cons (ps_set (i := 12) sc.nd rfl (Or.inl rfl) (pe_op op_cat (pe_op op_cat (pe_slice sl_list (pv 3) po_none (po_some (pv 11))) (pe_lst (pa_cons (pv 8) pa_nil))) (pe_slice sl_list (pv 3) (po_some (pv 11)) po_none))) (pss_cons (ps_set (i := 13) sc.nd rfl (Or.inr rfl) (pe_ix ix_list (pe_lst (pa_cons (pv 12) (pa_cons (pe_lst pa_nil) (pa_cons (pe_op op_rep (pe_lst (pa_cons pe_int pa_nil)) (pe_op op_add pe_int (pe_c C.take hr (by decide) (by rfl) pass0 (pa_cons (pv 1) (pa_cons pe_int pa_nil))))) pa_nil)))) (pe_c C.take hr (by decide) (by rfl) pass0 (pa_cons (pv 1) (pa_cons pe_int pa_nil))) (fun _ _ => rfl))) (pss_cons (ps_set (i := 9) sc.nd rfl (Or.inl rfl) (pe_lst (pa_cons (pe_lam TB rfl (LamX.lamS_by (sc := defScope sLaw) (by decide +kernel)) (by rfl)) (pa_cons (pe_lamD TB rfl (lamSD_by (N := N7) (sc := defScope sLaw) (p := "_law_a") (by decide +kernel)) rfl rfl pe_int) (pa_cons (pe_lamD TB rfl (lamSD_by (N := N7) (sc := defScope sLaw) (p := "_law_b") (by decide +kernel)) rfl rfl pe_int) pa_nil))))) (pss_cons (ps_expr (pe_bm PySem.F.plainAttrs_list PySem.F.slot_list_append PySem.F.type_list_append mt_append (pv 9) (pa_cons (pe_lamD TB rfl (lamSD_by (N := N7) (sc := defScope sLaw) (p := "_law_c") (by decide +kernel)) rfl rfl pe_int) pa_nil))) (pss_cons (ps_expr (pe_bm PySem.F.plainAttrs_list PySem.F.slot_list_append PySem.F.type_list_append mt_append (pv 9) (pa_cons (pe_lamD TB rfl (lamSD_by (N := N7) (sc := defScope sLaw) (p := "_law_d") (by decide +kernel)) rfl rfl pe_int) pa_nil))) (pss_cons (ps_expr (pe_bm PySem.F.plainAttrs_list PySem.F.slot_list_append PySem.F.type_list_append mt_append (pv 9) (pa_cons (pe_lamD TB rfl (lamSD_by (N := N7) (sc := defScope sLaw) (p := "_law_f") (by decide +kernel)) rfl rfl pe_int) pa_nil))) (pss_cons (ps_if (pt_not (pt_val (pe_cP C.all hr (by decide) (fun _ => rfl) (by rfl) (pa_cons (pv 9) (pa_cons (pe_tup (pa_cons pe_str (pa_cons pe_int pa_nil))) pa_nil))))) (pss_one (ps_ret pe_bl)) pss_nil) (pss_one (ps_if (pt_not (pt_val (pe_cP C.all hr (by decide) (fun _ => rfl) (by rfl) (pa_cons (pe_lst (pa_cons (pe_lam TB rfl (LamX.lamS_by (sc := defScope sLaw) (by decide +kernel)) (by rfl)) (pa_cons (pe_lamD TB rfl (lamSD_by (N := N7) (sc := defScope sLaw) (p := "_law_a") (by decide +kernel)) rfl rfl pe_int) pa_nil))) (pa_cons (pe_tup (pa_cons pe_str (pa_cons pe_int pa_nil))) pa_nil))))) (pss_one (ps_ret pe_bl)) pss_nil))))))))))))))))))))))))))))) (pss_one (ps_ret (pe_c C.alike hr (by decide) (by rfl) pass0 (pa_cons (pe_cmpR op_gt (pe_c C.cost hr (by decide) (by rfl) pass0 (pa_cons (pe_op op_rep (pe_lst (pa_cons pe_int pa_nil)) pe_int) (pa_cons pe_int (pa_cons (pe_c C.plan hr (by decide) (by rfl) pass0 (pa_cons (pv 1) (pa_cons (pe_listRg rfl (by rfl) T.list_ (prg_1 (by rfl) T.range pe_int)) (pa_cons pe_int pa_nil)))) pa_nil)))) pe_int (nomark _)) (pa_cons pe_bl pa_nil))))))), ?_⟩
    refine ⟨_, rfl, a, ns, rfl, hS, fun H0 B L s0 _ _ bx0 => ?_⟩
    refine ⟨_, rfl, by decide, by decide, ?_⟩
    rw [show (4 : Int).toNat = 4 from rfl]
    refine for_range (fun j σ H' => ∃ (v2 v3 v4 v5 v6 v7 v8 v9 v10 v11 v12 v13 : Option V), σ = [some (.ref a), some (.ref B), v2, v3, v4, v5, v6, v7, v8, v9, v10, v11, v12, v13] ∧ BoxAt H' B L ∧ Tab H' p ∧ LamX.TabS H' pL qL7)
      ⟨none, none, none, none, none, none, none, none, none, none, none, none, rfl, bx0, s0 _ _ tb, tL.ext s0⟩ ?_ ?_
    · rintro jt σ H1 hj ⟨v2, v3, v4, v5, v6, v7, v8, v9, v10, v11, v12, v13, rfl, b1, tb1, tL1⟩
      have big : (1000000 : Nat) ≤ sizeLine := by decide
      refine ⟨_, rfl, by show 3 ≤ sizeLine; decide, fun e1 ne1 => ?_⟩
      obtain ⟨ne1B, ne1L⟩ := b1.nb ne1
      have s2 := sameNew (o := .lst [.int 6, .int 20, .int 40]) (Same.refl H1) ne1
      have he1 : upd H1 e1 (.lst [.int 6, .int 20, .int 40]) e1 = some (.lst [.int 6, .int 20, .int 40]) := upd_same
      generalize upd H1 e1 (.lst [.int 6, .int 20, .int 40]) = H2 at s2 he1 ⊢
      have b2 := b1.same s2
      refine ⟨_, rfl, B, L, 3, rfl, b2, by decide, by decide, fun H3 x1 s3 b3 y0 y1 => ?_⟩
      obtain ⟨mm, hmm, mm1, mm40⟩ : ∃ mm : Nat, atI [V.int 6, V.int 20, V.int 40] x1 = some (.int (mm : Nat)) ∧ 1 ≤ mm ∧ mm ≤ 40 := by
        rcases (by omega : x1 = 0 ∨ x1 = 1 ∨ x1 = 2) with e | e | e <;> subst e
        · exact ⟨6, atI_nat (j := 0) rfl, by decide, by decide⟩
        · exact ⟨20, atI_nat (j := 1) rfl, by decide, by decide⟩
        · exact ⟨40, atI_nat (j := 2) rfl, by decide, by decide⟩
      refine ⟨e1, _, x1, _, rfl, rfl, SqL.of (s3 _ _ ne1B ne1L he1), hmm, B, L, mm, rfl, b3, mm1, mm40, fun H4 la ls s4 b4 okl _ fl hl => ?_⟩
      have nla := b3.nb fl
      have x14 : SameX B L H1 H4 := ((SameX.of s2).trans s3).trans s4
      have g4 : G7 B L p la ls H4 := ⟨b4, tab_x7 b1 x14 tb1, hl⟩
      have tL4 := tabS_x7 b1 x14 tL1
      have o1 := okl.one
      have o2 := okl.most
      refine ⟨_, rfl, B, L, 5, rfl, b4, by decide, by decide, fun H5 x2 s5 b5 w0 w1 => ⟨_, _, rfl, rfl, ?_⟩⟩
      obtain ⟨xn, rfl⟩ : ∃ xn : Nat, x2 = (xn : Int) := ⟨x2.toNat, by omega⟩
      have mw2 : 2 ≤ 2 + xn := by omega
      have mw6 : 2 + xn ≤ 6 := by omega
      have g5 := g4.x s5 b5 nla
      have tL5 := tabS_x7 b4 s5 tL4
      refine ⟨_, rfl, _, rfl, .ref la, _, _, rfl, g5.len, rfl, _, rfl, .of_le (by decide) (by rw [List.length_map]; omega) (by decide) (by rw [List.length_map]; omega), fun R nR => ?_⟩
      rw [List.length_map]
      have s6 := sameNew (o := .lst (rgV 0 (ls.length : Nat))) (Same.refl H5) nR
      have hR : upd H5 R (.lst (rgV 0 (ls.length : Nat))) R = some (.lst (rgV 0 (ls.length : Nat))) := upd_same
      generalize upd H5 R (.lst (rgV 0 (ls.length : Nat))) = H6 at s6 hR ⊢
      have g6 := g5.same s6
      refine ⟨_, rfl, B, L, R, ls.length, 2 + xn, rfl, g6.b, mw2, mw6, o1, o2, by rw [hR]; simp [rgV], fun H7 vp d s7 b7 hp okp => ?_⟩
      have g7 := g6.x s7 b7 nla
      have tL7 := tabS_x7 g6.b s7 (tL5.ext s6)
      refine ⟨_, rfl, la, _, rfl, .inl (SqL.of g7.l), fun ha nha => ?_⟩
      have s8 := sameNew (o := .lst (ls.map fun n => V.int (n : Nat))) (Same.refl H7) nha
      have hha : upd H7 ha (.lst (ls.map fun n => V.int (n : Nat))) ha = some (.lst (ls.map fun n => V.int (n : Nat))) := upd_same
      generalize upd H7 ha (.lst (ls.map fun n => V.int (n : Nat))) = H8 at s8 hha ⊢
      have g8 := g7.same s8
      have hp8 := dp_same s8 _ hp
      have ll : (leaf d).length ≤ 40 := by rw [okp.all.length_eq, List.length_range]; exact o2
      have dd := okp.depth
      refine ⟨_, rfl, _, rfl, _, rfl, .ref ha, vp, ls, 2 + xn, d, rfl, .lst (SqL.of hha) (dpNats ls), okl, mw2, mw6, hp8, okp, g8.t, fun H9 s9 => ?_⟩
      have g9 := g8.same s9
      refine ⟨_, rfl, _, rfl, _, rfl, .ref la, vp, ls, d, 2 + xn, rfl, g9.len, dp_same s9 _ hp8, okp.ok, mw6, ll, fun j hj => List.mem_range.mp (okp.all.mem_iff.mp hj), by omega, fun H10 s10 => ?_⟩
      refine ⟨.int (costP ls d : Nat), .int (costP ls d : Nat), .int (costP ls d : Nat), rfl, .int _, .int _, by simp [few], by simp [PyData.depth], ⟨_, rfl, iteF ?_⟩⟩
      have g10 := g9.same s10
      have hha10 := s10 _ _ (s9 _ _ hha)
      refine ⟨_, rfl, _, rfl, lensD ls, lensD ls, .lst (SqL.of hha10) (dpNats ls), g10.len, ?_, ?_, _, rfl, ?_⟩
      · rw [lens_ints]; exact ints_shaped _
      · rw [lens_ints]; exact ints_shaped _
      rw [show PyData.eqv (lensD ls) (lensD ls) = true from by rw [lens_ints]; exact ints_eqv _]
      refine iteF ?_
      have s710 := (s8.trans s9).trans s10
      have tL10 := tL7.ext s710
      refine ⟨_, rfl, _, rfl, .ref la, _, _, rfl, g10.len, rfl, ?_⟩
      rw [List.length_map]
      refine ⟨_, rfl, _, rfl, B, L, vp, ls.length, 2 + xn, d, rfl, g10.b, dp_same s710 _ hp, okp, o1, o2, mw2, mw6, fun H11 vb db s11 b11 hvb any11 sz11 nok11 => ?_⟩
      have g11 := g10.x s11 b11 nla
      have tL11 := tabS_x7 g10.b s11 tL10
      -- plans that are none
      refine ⟨tL11, fun f1 HA eA tA isA nfA => ⟨tA, fun f2 HB eB tB isB nfB => ⟨by show 2 ≤ sizeLine; decide, fun W nW => ?_⟩⟩⟩
      have sC := sameNew (o := .lst [.ref f1, .ref f2]) (Same.refl HB) nW
      have hW : upd HB W (.lst [.ref f1, .ref f2]) W = some (.lst [.ref f1, .ref f2]) := upd_same
      generalize upd HB W (.lst [.ref f1, .ref f2]) = HC at sC hW ⊢
      refine ⟨_, rfl, by show 2 ≤ sizeLine; decide, fun TT nTT => ?_⟩
      have sD := sameNew (o := .tup [.str "BadPlan", .int 0]) (Same.refl HC) nTT
      have hTT : upd HC TT (.tup [.str "BadPlan", .int 0]) TT = some (.tup [.str "BadPlan", .int 0]) := upd_same
      generalize upd HC TT (.tup [.str "BadPlan", .int 0]) = HD at sD hTT ⊢
      intro Gp ca
      have sCD := sC.trans sD
      have eBD : LamX.ExtN HB HD := LamX.ExtN.of sCD
      have eD : LamX.ExtN H11 HD := eA.trans (eB.trans eBD)
      have gD := g11.ext eD
      have hvbD := dp_same (noT_ext eD) _ (dp_noT _ hvb)
      refine ⟨W, [f1, f2], .ref TT, .tuple [.str "BadPlan", .int 0], rfl, ca.some (sD _ _ hW), by show 2 ≤ 20; decide, .tup (SqT.of (ca.some hTT)) (.cons (.str _) (.cons (.int _) .nil)), by simp [few, fews], by simp [PyData.depth, PyData.depthAll], fun g hg => ?_, fun Hz sZ => ?_⟩
      · simp only [List.mem_cons, List.not_mem_nil, or_false] at hg
        rcases hg with rfl | rfl
        · refine works_pl eP rfl ca (LamX.lamS_by (sc := defScope sLaw) (by decide +kernel)) (isA.ext (eB.trans eBD)) (fun _ _ _ _ _ => rfl) (fun A outer s H E c' hr' => pe_c C.p_cost hr' (by decide) (by rfl) (passes_call (takes_of rfl rfl rfl rfl) fun _ _ _ _ h => h) (pa_cons (pv 3) (pa_cons (pv 4) (pa_cons (pv 8) pa_nil)))) fun Hx E Q sx q => ?_
          have gx := gD.same sx
          exact ⟨_, rfl, _, rfl, _, rfl, .ref la, vb, ls, 2 + xn, db, rfl, gx.len, okl, mw2, mw6, dp_same sx _ hvbD, any11, by omega, nok11, gx.t, fun H' s' => q H' s'⟩
        · refine works_plD eP rfl ca (lamSD_by (N := N7) (sc := defScope sLaw) (p := "_law_a") (by decide +kernel)) (isB.ext eBD) (fun s q cl T0 u doc pm cv ctv h => BindsTo.of_defaults rfl h rfl rfl rfl) (fun A outer s H E c' hr' => pe_c C.p_written_plan hr' (by decide) (by rfl) (passes_call (takes_of rfl rfl rfl rfl) fun _ _ _ _ h => h) (pa_cons (pv 3) (pa_cons (pv 4) (pa_cons (pv 8) pa_nil)))) fun Hx E Q sx q => ?_
          have gx := gD.same sx
          exact ⟨_, rfl, _, rfl, _, rfl, .ref la, vb, ls, 2 + xn, db, rfl, gx.len, okl, mw2, mw6, dp_same sx _ hvbD, any11, by omega, nok11, gx.t, fun H' s' => q H' s'⟩
      have sfZ := caught_same ca sZ
      refine ⟨_, rfl, iteF ?_⟩
      have gE := gD.same sfZ
      have tE := tB.ext (sCD.trans sfZ)
      generalize off _ Hz = HE at sfZ gE tE ⊢
      clear ca
      have pw : ((10 : Int) ^ (18 : Int).toNat) = 1000000000000000000 := by decide +kernel
      refine ⟨_, rfl, _, _, rfl, rfl, ⟨by decide, by decide, by decide⟩, B, L, _, rfl, gE.b, by rw [pw]; decide, by rw [pw]; decide, fun HF fw sF bF fw0 fw1 => ⟨_, _, rfl, rfl, 1, rfl, by show 5 ≤ sizeLine; decide, fun e2 ne2 => ?_⟩⟩
      obtain ⟨ne2B, ne2L⟩ := bF.nb ne2
      have sG := sameNew (o := .lst [.int 1, .int 0, .int 7, .int (7 + fw), .int (-1)]) (Same.refl HF) ne2
      have he2 : upd HF e2 (.lst [.int 1, .int 0, .int 7, .int (7 + fw), .int (-1)]) e2 = some (.lst [.int 1, .int 0, .int 7, .int (7 + fw), .int (-1)]) := upd_same
      generalize upd HF e2 (.lst [.int 1, .int 0, .int 7, .int (7 + fw), .int (-1)]) = HG at sG he2 ⊢
      have gF := gE.x sF bF nla
      have gG := gF.same sG
      refine ⟨_, rfl, B, L, 5, rfl, gG.b, by decide, by decide, fun HI fx sI bI fx0 fx5 => ?_⟩
      obtain ⟨z, hz, hzb⟩ := far7 fw0 fx0 fx5
      refine ⟨e2, _, fx, _, rfl, rfl, SqL.of (sI _ _ ne2B ne2L he2), hz, ?_⟩
      have gI := gG.x sI bI nla
      have tI := tabS_x7 gG.b sI ((tabS_x7 gE.b sF tE).ext sG)
      dsimp only [gName, List.set]
      refine ⟨tI, fun af0 aA0 ae0 at0 ai0 an0 => ⟨at0, fun af1 aA1 ae1 at1 ai1 an1 => ⟨by show 2 ≤ sizeLine; decide, fun aW naW => ?_⟩⟩⟩
      have asC := sameNew (o := .lst [.ref af0, .ref af1]) (Same.refl aA1) naW
      have ahW : upd aA1 aW (.lst [.ref af0, .ref af1]) aW = some (.lst [.ref af0, .ref af1]) := upd_same
      generalize upd aA1 aW (.lst [.ref af0, .ref af1]) = aC at asC ahW ⊢
      have aeB : LamX.ExtN HI aA1 := (ae0.trans ae1)
      have atC := at1.ext asC
      refine ⟨_, rfl, .inl ⟨rfl, _, SqL.of ahW⟩, atC, fun af2 aD2 ae2 at2 ai2 an2 => ?_⟩
      have aw2 := ae2 _ _ ahW (fun ps z => nomatch z)
      refine ⟨aW, _, _, rfl, rfl, aw2, small1000 (by show 2 ≤ 1000; decide), ?_⟩
      have ah2 : upd aD2 aW (.lst ([V.ref af0, V.ref af1] ++ [V.ref af2])) aW = some (.lst [.ref af0, .ref af1, .ref af2]) := upd_same
      have au2 : ExtW aW aD2 (upd aD2 aW (.lst ([V.ref af0, V.ref af1] ++ [V.ref af2]))) := ExtW.upd
      have ax2 := tabS_updW (u := [V.ref af0, V.ref af1] ++ [V.ref af2]) at2 aw2
      generalize upd aD2 aW (.lst ([V.ref af0, V.ref af1] ++ [V.ref af2])) = aE2 at ah2 au2 ax2 ⊢
      have av2 : ExtW aW aC aD2 := ExtW.of ae2
      refine ⟨_, rfl, .inl ⟨rfl, _, SqL.of ah2⟩, ax2, fun af3 aD3 ae3 at3 ai3 an3 => ?_⟩
      have aw3 := ae3 _ _ ah2 (fun ps z => nomatch z)
      refine ⟨aW, _, _, rfl, rfl, aw3, small1000 (by show 3 ≤ 1000; decide), ?_⟩
      have ah3 : upd aD3 aW (.lst ([V.ref af0, V.ref af1, V.ref af2] ++ [V.ref af3])) aW = some (.lst [.ref af0, .ref af1, .ref af2, .ref af3]) := upd_same
      have au3 : ExtW aW aD3 (upd aD3 aW (.lst ([V.ref af0, V.ref af1, V.ref af2] ++ [V.ref af3]))) := ExtW.upd
      have ax3 := tabS_updW (u := [V.ref af0, V.ref af1, V.ref af2] ++ [V.ref af3]) at3 aw3
      generalize upd aD3 aW (.lst ([V.ref af0, V.ref af1, V.ref af2] ++ [V.ref af3])) = aE3 at ah3 au3 ax3 ⊢
      have av3 : ExtW aW aE2 aD3 := ExtW.of ae3
      refine ⟨_, rfl, .inl ⟨rfl, _, SqL.of ah3⟩, ax3, fun af4 aD4 ae4 at4 ai4 an4 => ?_⟩
      have aw4 := ae4 _ _ ah3 (fun ps z => nomatch z)
      refine ⟨aW, _, _, rfl, rfl, aw4, small1000 (by show 4 ≤ 1000; decide), ?_⟩
      have ah4 : upd aD4 aW (.lst ([V.ref af0, V.ref af1, V.ref af2, V.ref af3] ++ [V.ref af4])) aW = some (.lst [.ref af0, .ref af1, .ref af2, .ref af3, .ref af4]) := upd_same
      have au4 : ExtW aW aD4 (upd aD4 aW (.lst ([V.ref af0, V.ref af1, V.ref af2, V.ref af3] ++ [V.ref af4]))) := ExtW.upd
      have ax4 := tabS_updW (u := [V.ref af0, V.ref af1, V.ref af2, V.ref af3] ++ [V.ref af4]) at4 aw4
      generalize upd aD4 aW (.lst ([V.ref af0, V.ref af1, V.ref af2, V.ref af3] ++ [V.ref af4])) = aE4 at ah4 au4 ax4 ⊢
      have av4 : ExtW aW aE3 aD4 := ExtW.of ae4
      refine ⟨_, rfl, .inl ⟨rfl, _, SqL.of ah4⟩, ax4, fun af5 aD5 ae5 at5 ai5 an5 => ?_⟩
      have aw5 := ae5 _ _ ah4 (fun ps z => nomatch z)
      refine ⟨aW, _, _, rfl, rfl, aw5, small1000 (by show 5 ≤ 1000; decide), ?_⟩
      have ah5 : upd aD5 aW (.lst ([V.ref af0, V.ref af1, V.ref af2, V.ref af3, V.ref af4] ++ [V.ref af5])) aW = some (.lst [.ref af0, .ref af1, .ref af2, .ref af3, .ref af4, .ref af5]) := upd_same
      have au5 : ExtW aW aD5 (upd aD5 aW (.lst ([V.ref af0, V.ref af1, V.ref af2, V.ref af3, V.ref af4] ++ [V.ref af5]))) := ExtW.upd
      have ax5 := tabS_updW (u := [V.ref af0, V.ref af1, V.ref af2, V.ref af3, V.ref af4] ++ [V.ref af5]) at5 aw5
      generalize upd aD5 aW (.lst ([V.ref af0, V.ref af1, V.ref af2, V.ref af3, V.ref af4] ++ [V.ref af5])) = aE5 at ah5 au5 ax5 ⊢
      have av5 : ExtW aW aE4 aD5 := ExtW.of ae5
      refine ⟨_, rfl, .inl ⟨rfl, _, SqL.of ah5⟩, ax5, fun af6 aD6 ae6 at6 ai6 an6 => ?_⟩
      have aw6 := ae6 _ _ ah5 (fun ps z => nomatch z)
      refine ⟨aW, _, _, rfl, rfl, aw6, small1000 (by show 6 ≤ 1000; decide), ?_⟩
      have ah6 : upd aD6 aW (.lst ([V.ref af0, V.ref af1, V.ref af2, V.ref af3, V.ref af4, V.ref af5] ++ [V.ref af6])) aW = some (.lst [.ref af0, .ref af1, .ref af2, .ref af3, .ref af4, .ref af5, .ref af6]) := upd_same
      have au6 : ExtW aW aD6 (upd aD6 aW (.lst ([V.ref af0, V.ref af1, V.ref af2, V.ref af3, V.ref af4, V.ref af5] ++ [V.ref af6]))) := ExtW.upd
      have ax6 := tabS_updW (u := [V.ref af0, V.ref af1, V.ref af2, V.ref af3, V.ref af4, V.ref af5] ++ [V.ref af6]) at6 aw6
      generalize upd aD6 aW (.lst ([V.ref af0, V.ref af1, V.ref af2, V.ref af3, V.ref af4, V.ref af5] ++ [V.ref af6])) = aE6 at ah6 au6 ax6 ⊢
      have av6 : ExtW aW aE5 aD6 := ExtW.of ae6
      refine ⟨_, rfl, by show 2 ≤ sizeLine; decide, fun aTT naTT => ?_⟩
      have asT := sameNew (o := .tup [.str "BadRoom", .int 0]) (Same.refl aE6) naTT
      have ahT : upd aE6 aTT (.tup [.str "BadRoom", .int 0]) aTT = some (.tup [.str "BadRoom", .int 0]) := upd_same
      generalize upd aE6 aTT (.tup [.str "BadRoom", .int 0]) = aH at asT ahT ⊢
      intro aGp ca
      have aeF : LamX.ExtN HI aH := aeB.trans ((ExtW.ext ((ExtW.of (LamX.ExtN.of asC)).trans (av2.trans (au2.trans (av3.trans (au3.trans (av4.trans (au4.trans (av5.trans (au5.trans (av6.trans au6))))))))) : ExtW aW aA1 aE6) naW).trans (LamX.ExtN.of asT))
      have gD := gI.ext aeF
      refine ⟨aW, [af0, af1, af2, af3, af4, af5, af6], .ref aTT, .tuple [.str "BadRoom", .int 0], rfl, ca.some (asT _ _ ah6), by show 7 ≤ 20; decide, .tup (SqT.of (ca.some ahT)) (.cons (.str _) (.cons (.int _) .nil)), by simp [few, fews], by simp [PyData.depth, PyData.depthAll], fun g hg => ?_, fun aZ asZ => ?_⟩
      · simp only [List.mem_cons, List.not_mem_nil, or_false] at hg
        rcases hg with rfl | rfl | rfl | rfl | rfl | rfl | rfl
        · refine works_pl eM rfl ca (LamX.lamS_by (sc := defScope sLaw) (by decide +kernel)) ((RS.IsLam.w (ai0.ext (ae1.trans (LamX.ExtN.of asC))) ahW (av2.trans (au2.trans (av3.trans (au3.trans (av4.trans (au4.trans (av5.trans (au5.trans (av6.trans au6)))))))))).ext (LamX.ExtN.of asT)) (fun _ _ _ _ _ => rfl) (fun A outer s H E c' hr' => pe_c C.e_cost hr' (by decide) (by rfl) (passes_call (takes_of rfl rfl rfl rfl) fun _ _ _ _ h => h) (pa_cons (pv 3) (pa_cons (pv 10) (pa_cons (pe_tup pa_nil) pa_nil)))) fun Hx E Q sx q => ?_
          refine ⟨_, rfl, _, rfl, by show 0 ≤ sizeLine; decide, fun t nt => ?_⟩
          have y := sameNew (o := .tup []) (Same.refl Hx) nt
          have gy := gD.same (sx.trans y)
          exact ⟨.ref la, z, [.ref t], rfl, rfl, gy.t, .inr ⟨ls, gy.len, okl, hzb, fun H' s' => q H' (y.trans s')⟩⟩
        · refine works_plD eM rfl ca (lamSD_by (N := N7) (sc := defScope sLaw) (p := "_law_a") (by decide +kernel)) ((RS.IsLamD.w (ai1.ext (LamX.ExtN.of asC)) ahW (av2.trans (au2.trans (av3.trans (au3.trans (av4.trans (au4.trans (av5.trans (au5.trans (av6.trans au6)))))))))).ext (LamX.ExtN.of asT)) (fun s q cl T0 u doc pm cv ctv h => BindsTo.of_defaults rfl h rfl rfl rfl) (fun A outer s H E c' hr' => pe_c C.e_cheapest hr' (by decide) (by rfl) (passes_call (takes_of rfl rfl rfl rfl) fun _ _ _ _ h => h) (pa_cons (pv 3) (pa_cons (pv 10) pa_nil))) fun Hx E Q sx q => ?_
          have y := Same.refl Hx
          refine ⟨_, rfl, _, rfl, ?_⟩
          have gy := gD.same (sx.trans y)
          exact ⟨.ref la, z, [], rfl, rfl, gy.t, .inr ⟨ls, gy.len, okl, hzb, fun H' s' => q H' (y.trans s')⟩⟩
        · refine works_plD eM rfl ca (lamSD_by (N := N7) (sc := defScope sLaw) (p := "_law_b") (by decide +kernel)) ((RS.IsLamD.w ai2 aw2 (au2.trans (av3.trans (au3.trans (av4.trans (au4.trans (av5.trans (au5.trans (av6.trans au6))))))))).ext (LamX.ExtN.of asT)) (fun s q cl T0 u doc pm cv ctv h => BindsTo.of_defaults rfl h rfl rfl rfl) (fun A outer s H E c' hr' => pe_c C.e_neighbours hr' (by decide) (by rfl) (passes_call (takes_of rfl rfl rfl rfl) fun _ _ _ _ h => h) (pa_cons (pv 3) (pa_cons (pv 10) pa_nil))) fun Hx E Q sx q => ?_
          have y := Same.refl Hx
          refine ⟨_, rfl, _, rfl, ?_⟩
          have gy := gD.same (sx.trans y)
          exact ⟨.ref la, z, [], rfl, rfl, gy.t, .inr ⟨ls, gy.len, okl, hzb, fun H' s' => q H' (y.trans s')⟩⟩
        · refine works_plD eM rfl ca (lamSD_by (N := N7) (sc := defScope sLaw) (p := "_law_c") (by decide +kernel)) ((RS.IsLamD.w ai3 aw3 (au3.trans (av4.trans (au4.trans (av5.trans (au5.trans (av6.trans au6))))))).ext (LamX.ExtN.of asT)) (fun s q cl T0 u doc pm cv ctv h => BindsTo.of_defaults rfl h rfl rfl rfl) (fun A outer s H E c' hr' => pe_c C.e_paper hr' (by decide) (by rfl) (passes_call (takes_of rfl rfl rfl rfl) fun _ _ _ _ h => h) (pa_cons (pv 3) (pa_cons (pv 10) pa_nil))) fun Hx E Q sx q => ?_
          have y := Same.refl Hx
          refine ⟨_, rfl, _, rfl, ?_⟩
          have gy := gD.same (sx.trans y)
          exact ⟨.ref la, z, [], rfl, rfl, gy.t, .inr ⟨ls, gy.len, okl, hzb, fun H' s' => q H' (y.trans s')⟩⟩
        · refine works_plD eM rfl ca (lamSD_by (N := N7) (sc := defScope sLaw) (p := "_law_d") (by decide +kernel)) ((RS.IsLamD.w ai4 aw4 (au4.trans (av5.trans (au5.trans (av6.trans au6))))).ext (LamX.ExtN.of asT)) (fun s q cl T0 u doc pm cv ctv h => BindsTo.of_defaults rfl h rfl rfl rfl) (fun A outer s H E c' hr' => pe_c C.e_bound hr' (by decide) (by rfl) (passes_call (takes_of rfl rfl rfl rfl) fun _ _ _ _ h => h) (pa_cons (pv 3) (pa_cons (pv 10) (pa_cons (pe_lst (pa_cons (pe_tup (pa_cons pe_int (pa_cons pe_int (pa_cons pe_int pa_nil)))) pa_nil)) pa_nil)))) fun Hx E Q sx q => ?_
          refine ⟨_, rfl, _, rfl, by show 3 ≤ sizeLine; decide, fun t nt => ⟨by show 1 ≤ sizeLine; decide, fun l nl => ?_⟩⟩
          have y := (sameNew (o := .tup [.int 9, .int 9, .int 9]) (Same.refl Hx) nt).trans (sameNew (o := .lst [.ref t]) (Same.refl _) nl)
          have gy := gD.same (sx.trans y)
          exact ⟨.ref la, z, [.ref l], rfl, rfl, gy.t, .inr ⟨ls, gy.len, okl, hzb, fun H' s' => q H' (y.trans s')⟩⟩
        · refine works_plD eM rfl ca (lamSD_by (N := N7) (sc := defScope sLaw) (p := "_law_f") (by decide +kernel)) ((RS.IsLamD.w ai5 aw5 (au5.trans (av6.trans au6))).ext (LamX.ExtN.of asT)) (fun s q cl T0 u doc pm cv ctv h => BindsTo.of_defaults rfl h rfl rfl rfl) (fun A outer s H E c' hr' => pe_c C.e_written_plan hr' (by decide) (by rfl) (passes_call (takes_of rfl rfl rfl rfl) fun _ _ _ _ h => h) (pa_cons (pv 3) (pa_cons (pv 10) (pa_cons (pe_tup pa_nil) pa_nil)))) fun Hx E Q sx q => ?_
          refine ⟨_, rfl, _, rfl, by show 0 ≤ sizeLine; decide, fun t nt => ?_⟩
          have y := sameNew (o := .tup []) (Same.refl Hx) nt
          have gy := gD.same (sx.trans y)
          exact ⟨.ref la, z, [.ref t], rfl, rfl, gy.t, .inr ⟨ls, gy.len, okl, hzb, fun H' s' => q H' (y.trans s')⟩⟩
        · refine works_plD eM rfl ca (lamSD_by (N := N7) (sc := defScope sLaw) (p := "_law_g") (by decide +kernel)) ((RS.IsLamD.w ai6 aw6 au6).ext (LamX.ExtN.of asT)) (fun s q cl T0 u doc pm cv ctv h => BindsTo.of_defaults rfl h rfl rfl rfl) (fun A outer s H E c' hr' => pe_c C.e_read_plan hr' (by decide) (by rfl) (passes_call (takes_of rfl rfl rfl rfl) fun _ _ _ _ h => h) (pa_cons (pv 3) (pa_cons (pv 10) (pa_cons pe_str pa_nil)))) fun Hx E Q sx q => ?_
          have y := Same.refl Hx
          refine ⟨_, rfl, _, rfl, ?_⟩
          have gy := gD.same (sx.trans y)
          exact ⟨.ref la, z, [.str "x"], rfl, rfl, gy.t, .inr ⟨ls, gy.len, okl, hzb, fun H' s' => q H' (y.trans s')⟩⟩
      have asf := caught_same ca asZ
      refine ⟨_, rfl, iteF ?_⟩
      have ag := gD.same asf
      have atS := ax6.ext (asT.trans asf)
      have aeZ := aeF.trans (LamX.ExtN.of asf)
      generalize off _ aZ = aHZ at asf ag atS aeZ ⊢
      clear ca gD
      have la2 : ∀ {H' : Hp}, G7 B L p la ls H' → H' la = some (.lst ((ls.map fun n => ((n : Nat) : Int)).map V.int)) := fun {H'} g => by
        rw [List.map_map]
        exact g.l
      refine ⟨_, rfl, _, rfl, .ref la, _, _, rfl, ag.len, rfl, _, _, rfl, rfl, B, L, _, rfl, ag.b, by rw [List.length_map]; omega, by rw [List.length_map]; omega, fun HJ atx sJ bJ at0 at1 => ?_⟩
      rw [List.length_map] at at1
      obtain ⟨atn, rfl⟩ : ∃ q : Nat, atx = (q : Nat) := ⟨atx.toNat, by omega⟩
      have gJ := ag.x sJ bJ nla
      have tJ := tabS_x7 ag.b sJ atS
      refine ⟨1, rfl, _, _, rfl, rfl, ⟨by decide, by decide, by decide⟩, _, _, rfl, rfl, _, _, rfl, rfl, ⟨by decide, by decide, by decide⟩, by show 4 ≤ sizeLine; decide, fun e3 ne3 => ?_⟩
      obtain ⟨ne3B, ne3L⟩ := gJ.b.nb ne3
      have sK := sameNew (o := .lst [.int 0, .int (-1), .int (10 ^ (6 : Int).toNat + 1), .int (10 ^ (18 : Int).toNat)]) (Same.refl HJ) ne3
      have he3 : upd HJ e3 (.lst [.int 0, .int (-1), .int (10 ^ (6 : Int).toNat + 1), .int (10 ^ (18 : Int).toNat)]) e3 = some (.lst [.int 0, .int (-1), .int (10 ^ (6 : Int).toNat + 1), .int (10 ^ (18 : Int).toNat)]) := upd_same
      generalize upd HJ e3 (.lst [.int 0, .int (-1), .int (10 ^ (6 : Int).toNat + 1), .int (10 ^ (18 : Int).toNat)]) = HK at sK he3 ⊢
      have gK := gJ.same sK
      refine ⟨_, rfl, B, L, 4, rfl, gK.b, by decide, by decide, fun HL lx sL bL lx0 lx4 => ?_⟩
      obtain ⟨bi, hbi, obi⟩ := bad4 lx0 lx4
      refine ⟨e3, _, lx, _, rfl, rfl, SqL.of (sL _ _ ne3B ne3L he3), hbi, ?_⟩
      have gL := gK.x sL bL nla
      have tLL := tabS_x7 gK.b sL (tJ.ext sK)
      -- one that may not be, among the lengths
      refine ⟨_, rfl, ?_⟩
      dsimp only [tNoPart]
      refine ⟨_, rfl, _, rfl, ?_⟩
      refine sl_any7 (lo := none) (hi := some (atn : Nat)) (la2 gL) fun q1 HM sM nq1 hq1 => ?_
      rw [cutV_to7] at hq1
      refine ⟨_, rfl, by show 1 ≤ sizeLine; decide, fun q2 nq2 => ?_⟩
      have sN := sameNew (o := .lst [.int bi]) (Same.refl HM) nq2
      have hq2 : upd HM q2 (.lst [.int bi]) q2 = some (.lst [.int bi]) := upd_same
      generalize upd HM q2 (.lst [.int bi]) = HN at sN hq2 ⊢
      refine cat_any7 (sN _ _ hq1) hq2 (by rw [List.length_take, List.length_map, List.length_map]; show _ + 1 ≤ sizeLine; omega) fun q3 HO sO nq3 hq3 => ?_
      have sLO := (sM.trans sN).trans sO
      have gO := gL.same sLO
      refine ⟨_, rfl, _, rfl, _, rfl, ?_⟩
      dsimp only [tNoPart]
      refine sl_any7 (lo := some (atn : Nat)) (hi := none) (la2 gO) fun q4 HP sP nq4 hq4 => ?_
      rw [cutV_from7 (by rw [List.length_map, List.length_map]; omega)] at hq4
      refine cat_any7 (sP _ _ hq3) hq4 (by simp only [List.length_append, List.length_take, List.length_drop, List.length_map, List.length_singleton]; omega) fun od HQ sQ nod hod => ?_
      have sOQ := sP.trans sQ
      have gQ := gO.same sOQ
      have tQ := tLL.ext (sLO.trans sOQ)
      obtain ⟨zs1, ezs1⟩ : ∃ zs1 : List Int, zs1 = (ls.map fun n => ((n : Nat) : Int)).take atn ++ [bi] ++ (ls.map fun n => ((n : Nat) : Int)).drop atn := ⟨_, rfl⟩
      have hod' : HQ od = some (.lst (zs1.map V.int)) := by
        rw [hod, ezs1, List.map_append, List.map_append, List.map_take, List.map_drop]
        rfl
      have bad1 : ¬ OkLz zs1 := by rw [ezs1]; exact badI obi
      have lz1 : zs1.length ≤ 1000 := by
        rw [ezs1]
        simp only [List.length_append, List.length_take, List.length_drop, List.length_map, List.length_singleton]
        omega
      obtain ⟨nodB, nodL⟩ := (gO.same sP).b.nb nod
      -- one of three
      refine ⟨_, rfl, by show 0 ≤ sizeLine; decide, fun e4 ne4 => ?_⟩
      obtain ⟨ne4B, ne4L⟩ := gQ.b.nb ne4
      have sR := sameNew (o := .lst []) (Same.refl HQ) ne4
      have he4 : upd HQ e4 (.lst []) e4 = some (.lst []) := upd_same
      generalize upd HQ e4 (.lst []) = HR at sR he4 ⊢
      refine ⟨by show 1 ≤ sizeLine; decide, fun e5 ne5 => ?_⟩
      obtain ⟨ne5B, ne5L⟩ := (gQ.same sR).b.nb ne5
      have sS := sameNew (o := .lst [.int 1]) (Same.refl HR) ne5
      have he5 : upd HR e5 (.lst [.int 1]) e5 = some (.lst [.int 1]) := upd_same
      generalize upd HR e5 (.lst [.int 1]) = HS at sS he5 ⊢
      have gS := (gQ.same sR).same sS
      refine ⟨_, rfl, B, L, 3, rfl, gS.b, by decide, by decide, fun HT ux sT bT u0 u3 => ⟨_, _, rfl, rfl, ?_⟩⟩
      have gT := gS.x sT bT nla
      have tT := tabS_x7 gS.b sT ((tQ.ext sR).ext sS)
      refine ⟨e5, _, _, rfl, rfl, sT _ _ ne5B ne5L he5, by omega, by omega, by show 1 * _ ≤ sizeLine; omega, fun e6 ne6 => ?_⟩
      rw [rep_int7]
      obtain ⟨ne6B, ne6L⟩ := gT.b.nb ne6
      have sU := sameNew (o := .lst ((List.replicate (41 + ux).toNat (1 : Int)).map V.int)) (Same.refl HT) ne6
      have he6 : upd HT e6 (.lst ((List.replicate (41 + ux).toNat (1 : Int)).map V.int)) e6 = some (.lst ((List.replicate (41 + ux).toNat (1 : Int)).map V.int)) := upd_same
      generalize upd HT e6 (.lst ((List.replicate (41 + ux).toNat (1 : Int)).map V.int)) = HU at sU he6 ⊢
      refine ⟨by show 3 ≤ sizeLine; decide, fun e7 ne7 => ?_⟩
      have gU := gT.same sU
      obtain ⟨ne7B, ne7L⟩ := gU.b.nb ne7
      have sV := sameNew (o := .lst [.ref od, .ref e4, .ref e6]) (Same.refl HU) ne7
      have he7 : upd HU e7 (.lst [.ref od, .ref e4, .ref e6]) e7 = some (.lst [.ref od, .ref e4, .ref e6]) := upd_same
      generalize upd HU e7 (.lst [.ref od, .ref e4, .ref e6]) = HV at sV he7 ⊢
      have gV := gU.same sV
      refine ⟨_, rfl, B, L, 3, rfl, gV.b, by decide, by decide, fun HW nx sW bW n0 n3 => ?_⟩
      have gW := gV.x sW bW nla
      have tW := tabS_x7 gV.b sW ((tT.ext sU).ext sV)
      have hod3 := sW _ _ nodB nodL (sV _ _ (sU _ _ (sT _ _ nodB nodL (sS _ _ (sR _ _ hod')))))
      have he43 := sW _ _ ne4B ne4L (sV _ _ (sU _ _ (sT _ _ ne4B ne4L (sS _ _ he4))))
      have he63 := sW _ _ ne6B ne6L (sV _ _ he6)
      obtain ⟨nn, zs, hnx, hnn, lz, nok⟩ : ∃ (nn : Addr) (zs : List Int), atI [V.ref od, .ref e4, .ref e6] nx = some (.ref nn) ∧ HW nn = some (.lst (zs.map V.int)) ∧ zs.length ≤ 1000 ∧ ¬ OkLz zs := by
        rcases (by omega : nx = 0 ∨ nx = 1 ∨ nx = 2) with e | e | e <;> subst e
        · exact ⟨od, zs1, rfl, hod3, lz1, bad1⟩
        · exact ⟨e4, [], rfl, he43, by decide, badN⟩
        · exact ⟨e6, _, rfl, he63, by rw [List.length_replicate]; omega, badR (by omega)⟩
      refine ⟨e7, _, nx, _, rfl, rfl, SqL.of (sW _ _ ne7B ne7L he7), hnx, ?_⟩
      dsimp only [gName, List.set]
      refine ⟨tW, fun bf0 bA0 be0 bt0 bi0 bn0 => ⟨bt0, fun bf1 bA1 be1 bt1 bi1 bn1 => ⟨bt1, fun bf2 bA2 be2 bt2 bi2 bn2 => ⟨by show 3 ≤ sizeLine; decide, fun bW nbW => ?_⟩⟩⟩⟩
      have bsC := sameNew (o := .lst [.ref bf0, .ref bf1, .ref bf2]) (Same.refl bA2) nbW
      have bhW : upd bA2 bW (.lst [.ref bf0, .ref bf1, .ref bf2]) bW = some (.lst [.ref bf0, .ref bf1, .ref bf2]) := upd_same
      generalize upd bA2 bW (.lst [.ref bf0, .ref bf1, .ref bf2]) = bC at bsC bhW ⊢
      have beB : LamX.ExtN HW bA2 := (be0.trans (be1.trans be2))
      have btC := bt2.ext bsC
      refine ⟨_, rfl, .inl ⟨rfl, _, SqL.of bhW⟩, btC, fun bf3 bD3 be3 bt3 bi3 bn3 => ?_⟩
      have bw3 := be3 _ _ bhW (fun ps z => nomatch z)
      refine ⟨bW, _, _, rfl, rfl, bw3, small1000 (by show 3 ≤ 1000; decide), ?_⟩
      have bh3 : upd bD3 bW (.lst ([V.ref bf0, V.ref bf1, V.ref bf2] ++ [V.ref bf3])) bW = some (.lst [.ref bf0, .ref bf1, .ref bf2, .ref bf3]) := upd_same
      have bu3 : ExtW bW bD3 (upd bD3 bW (.lst ([V.ref bf0, V.ref bf1, V.ref bf2] ++ [V.ref bf3]))) := ExtW.upd
      have bx3 := tabS_updW (u := [V.ref bf0, V.ref bf1, V.ref bf2] ++ [V.ref bf3]) bt3 bw3
      generalize upd bD3 bW (.lst ([V.ref bf0, V.ref bf1, V.ref bf2] ++ [V.ref bf3])) = bE3 at bh3 bu3 bx3 ⊢
      have bv3 : ExtW bW bC bD3 := ExtW.of be3
      refine ⟨_, rfl, .inl ⟨rfl, _, SqL.of bh3⟩, bx3, fun bf4 bD4 be4 bt4 bi4 bn4 => ?_⟩
      have bw4 := be4 _ _ bh3 (fun ps z => nomatch z)
      refine ⟨bW, _, _, rfl, rfl, bw4, small1000 (by show 4 ≤ 1000; decide), ?_⟩
      have bh4 : upd bD4 bW (.lst ([V.ref bf0, V.ref bf1, V.ref bf2, V.ref bf3] ++ [V.ref bf4])) bW = some (.lst [.ref bf0, .ref bf1, .ref bf2, .ref bf3, .ref bf4]) := upd_same
      have bu4 : ExtW bW bD4 (upd bD4 bW (.lst ([V.ref bf0, V.ref bf1, V.ref bf2, V.ref bf3] ++ [V.ref bf4]))) := ExtW.upd
      have bx4 := tabS_updW (u := [V.ref bf0, V.ref bf1, V.ref bf2, V.ref bf3] ++ [V.ref bf4]) bt4 bw4
      generalize upd bD4 bW (.lst ([V.ref bf0, V.ref bf1, V.ref bf2, V.ref bf3] ++ [V.ref bf4])) = bE4 at bh4 bu4 bx4 ⊢
      have bv4 : ExtW bW bE3 bD4 := ExtW.of be4
      refine ⟨_, rfl, .inl ⟨rfl, _, SqL.of bh4⟩, bx4, fun bf5 bD5 be5 bt5 bi5 bn5 => ?_⟩
      have bw5 := be5 _ _ bh4 (fun ps z => nomatch z)
      refine ⟨bW, _, _, rfl, rfl, bw5, small1000 (by show 5 ≤ 1000; decide), ?_⟩
      have bh5 : upd bD5 bW (.lst ([V.ref bf0, V.ref bf1, V.ref bf2, V.ref bf3, V.ref bf4] ++ [V.ref bf5])) bW = some (.lst [.ref bf0, .ref bf1, .ref bf2, .ref bf3, .ref bf4, .ref bf5]) := upd_same
      have bu5 : ExtW bW bD5 (upd bD5 bW (.lst ([V.ref bf0, V.ref bf1, V.ref bf2, V.ref bf3, V.ref bf4] ++ [V.ref bf5]))) := ExtW.upd
      have bx5 := tabS_updW (u := [V.ref bf0, V.ref bf1, V.ref bf2, V.ref bf3, V.ref bf4] ++ [V.ref bf5]) bt5 bw5
      generalize upd bD5 bW (.lst ([V.ref bf0, V.ref bf1, V.ref bf2, V.ref bf3, V.ref bf4] ++ [V.ref bf5])) = bE5 at bh5 bu5 bx5 ⊢
      have bv5 : ExtW bW bE4 bD5 := ExtW.of be5
      refine ⟨_, rfl, by show 2 ≤ sizeLine; decide, fun bTT nbTT => ?_⟩
      have bsT := sameNew (o := .tup [.str "BadLengths", .int 0]) (Same.refl bE5) nbTT
      have bhT : upd bE5 bTT (.tup [.str "BadLengths", .int 0]) bTT = some (.tup [.str "BadLengths", .int 0]) := upd_same
      generalize upd bE5 bTT (.tup [.str "BadLengths", .int 0]) = bH at bsT bhT ⊢
      intro bGp ca
      have beF : LamX.ExtN HW bH := beB.trans ((ExtW.ext ((ExtW.of (LamX.ExtN.of bsC)).trans (bv3.trans (bu3.trans (bv4.trans (bu4.trans (bv5.trans bu5))))) : ExtW bW bA2 bE5) nbW).trans (LamX.ExtN.of bsT))
      have gD := gW.ext beF
      have hnD := beF _ _ hnn (fun ps z => nomatch z)
      refine ⟨bW, [bf0, bf1, bf2, bf3, bf4, bf5], .ref bTT, .tuple [.str "BadLengths", .int 0], rfl, ca.some (bsT _ _ bh5), by show 6 ≤ 20; decide, .tup (SqT.of (ca.some bhT)) (.cons (.str _) (.cons (.int _) .nil)), by simp [few, fews], by simp [PyData.depth, PyData.depthAll], fun g hg => ?_, fun bZ bsZ => ?_⟩
      · simp only [List.mem_cons, List.not_mem_nil, or_false] at hg
        rcases hg with rfl | rfl | rfl | rfl | rfl | rfl
        · refine works_pl eL rfl ca (LamX.lamS_by (sc := defScope sLaw) (by decide +kernel)) ((RS.IsLam.w (bi0.ext (be1.trans (be2.trans (LamX.ExtN.of bsC)))) bhW (bv3.trans (bu3.trans (bv4.trans (bu4.trans (bv5.trans bu5)))))).ext (LamX.ExtN.of bsT)) (fun _ _ _ _ _ => rfl) (fun A outer s H E c' hr' => pe_c C.e_cost hr' (by decide) (by rfl) (passes_call (takes_of rfl rfl rfl rfl) fun _ _ _ _ h => h) (pa_cons (pv 13) (pa_cons pe_int (pa_cons (pe_tup pa_nil) pa_nil)))) fun Hx E Q sx q => ?_
          refine ⟨_, rfl, by show 0 ≤ sizeLine; decide, fun t nt => ?_⟩
          have y := sameNew (o := .tup []) (Same.refl Hx) nt
          have gy := gD.same (sx.trans y)
          exact ⟨.ref nn, 0, [.ref t], rfl, rfl, gy.t, .inl ⟨zs, .lst (SqL.of ((sx.trans y) _ _ hnD)) (dpInts7 zs), lz, nok, fun H' s' => q H' (y.trans s')⟩⟩
        · refine works_plD eL rfl ca (lamSD_by (N := N7) (sc := defScope sLaw) (p := "_law_a") (by decide +kernel)) ((RS.IsLamD.w (bi1.ext (be2.trans (LamX.ExtN.of bsC))) bhW (bv3.trans (bu3.trans (bv4.trans (bu4.trans (bv5.trans bu5)))))).ext (LamX.ExtN.of bsT)) (fun s q cl T0 u doc pm cv ctv h => BindsTo.of_defaults rfl h rfl rfl rfl) (fun A outer s H E c' hr' => pe_c C.e_cheapest hr' (by decide) (by rfl) (passes_call (takes_of rfl rfl rfl rfl) fun _ _ _ _ h => h) (pa_cons (pv 13) (pa_cons pe_int pa_nil))) fun Hx E Q sx q => ?_
          have y := Same.refl Hx
          refine ⟨_, rfl, ?_⟩
          have gy := gD.same (sx.trans y)
          exact ⟨.ref nn, 0, [], rfl, rfl, gy.t, .inl ⟨zs, .lst (SqL.of ((sx.trans y) _ _ hnD)) (dpInts7 zs), lz, nok, fun H' s' => q H' (y.trans s')⟩⟩
        · refine works_plD eL rfl ca (lamSD_by (N := N7) (sc := defScope sLaw) (p := "_law_b") (by decide +kernel)) ((RS.IsLamD.w (bi2.ext (LamX.ExtN.of bsC)) bhW (bv3.trans (bu3.trans (bv4.trans (bu4.trans (bv5.trans bu5)))))).ext (LamX.ExtN.of bsT)) (fun s q cl T0 u doc pm cv ctv h => BindsTo.of_defaults rfl h rfl rfl rfl) (fun A outer s H E c' hr' => pe_c C.e_neighbours hr' (by decide) (by rfl) (passes_call (takes_of rfl rfl rfl rfl) fun _ _ _ _ h => h) (pa_cons (pv 13) (pa_cons pe_int pa_nil))) fun Hx E Q sx q => ?_
          have y := Same.refl Hx
          refine ⟨_, rfl, ?_⟩
          have gy := gD.same (sx.trans y)
          exact ⟨.ref nn, 0, [], rfl, rfl, gy.t, .inl ⟨zs, .lst (SqL.of ((sx.trans y) _ _ hnD)) (dpInts7 zs), lz, nok, fun H' s' => q H' (y.trans s')⟩⟩
        · refine works_plD eL rfl ca (lamSD_by (N := N7) (sc := defScope sLaw) (p := "_law_c") (by decide +kernel)) ((RS.IsLamD.w bi3 bw3 (bu3.trans (bv4.trans (bu4.trans (bv5.trans bu5))))).ext (LamX.ExtN.of bsT)) (fun s q cl T0 u doc pm cv ctv h => BindsTo.of_defaults rfl h rfl rfl rfl) (fun A outer s H E c' hr' => pe_c C.e_paper hr' (by decide) (by rfl) (passes_call (takes_of rfl rfl rfl rfl) fun _ _ _ _ h => h) (pa_cons (pv 13) (pa_cons pe_int pa_nil))) fun Hx E Q sx q => ?_
          have y := Same.refl Hx
          refine ⟨_, rfl, ?_⟩
          have gy := gD.same (sx.trans y)
          exact ⟨.ref nn, 0, [], rfl, rfl, gy.t, .inl ⟨zs, .lst (SqL.of ((sx.trans y) _ _ hnD)) (dpInts7 zs), lz, nok, fun H' s' => q H' (y.trans s')⟩⟩
        · refine works_plD eL rfl ca (lamSD_by (N := N7) (sc := defScope sLaw) (p := "_law_d") (by decide +kernel)) ((RS.IsLamD.w bi4 bw4 (bu4.trans (bv5.trans bu5))).ext (LamX.ExtN.of bsT)) (fun s q cl T0 u doc pm cv ctv h => BindsTo.of_defaults rfl h rfl rfl rfl) (fun A outer s H E c' hr' => pe_c C.e_bound hr' (by decide) (by rfl) (passes_call (takes_of rfl rfl rfl rfl) fun _ _ _ _ h => h) (pa_cons (pv 13) (pa_cons pe_int (pa_cons (pe_lst pa_nil) pa_nil)))) fun Hx E Q sx q => ?_
          refine ⟨_, rfl, by show 0 ≤ sizeLine; decide, fun t nt => ?_⟩
          have y := sameNew (o := .lst []) (Same.refl Hx) nt
          have gy := gD.same (sx.trans y)
          exact ⟨.ref nn, 0, [.ref t], rfl, rfl, gy.t, .inl ⟨zs, .lst (SqL.of ((sx.trans y) _ _ hnD)) (dpInts7 zs), lz, nok, fun H' s' => q H' (y.trans s')⟩⟩
        · refine works_plD eL rfl ca (lamSD_by (N := N7) (sc := defScope sLaw) (p := "_law_f") (by decide +kernel)) ((RS.IsLamD.w bi5 bw5 bu5).ext (LamX.ExtN.of bsT)) (fun s q cl T0 u doc pm cv ctv h => BindsTo.of_defaults rfl h rfl rfl rfl) (fun A outer s H E c' hr' => pe_c C.e_written_plan hr' (by decide) (by rfl) (passes_call (takes_of rfl rfl rfl rfl) fun _ _ _ _ h => h) (pa_cons (pv 13) (pa_cons pe_int (pa_cons (pe_tup pa_nil) pa_nil)))) fun Hx E Q sx q => ?_
          refine ⟨_, rfl, by show 0 ≤ sizeLine; decide, fun t nt => ?_⟩
          have y := sameNew (o := .tup []) (Same.refl Hx) nt
          have gy := gD.same (sx.trans y)
          exact ⟨.ref nn, 0, [.ref t], rfl, rfl, gy.t, .inl ⟨zs, .lst (SqL.of ((sx.trans y) _ _ hnD)) (dpInts7 zs), lz, nok, fun H' s' => q H' (y.trans s')⟩⟩
      have bsf := caught_same ca bsZ
      refine ⟨_, rfl, iteF ?_⟩
      have bg := gD.same bsf
      have btS := bx5.ext (bsT.trans bsf)
      have beZ := beF.trans (LamX.ExtN.of bsf)
      generalize off _ bZ = bHZ at bsf bg btS beZ ⊢
      clear ca gD
      have hnn2 := beZ _ _ hnn (fun ps z => nomatch z)
      refine ⟨btS, fun cf0 cA0 ce0 ct0 ci0 cn0 => ⟨ct0, fun cf1 cA1 ce1 ct1 ci1 cn1 => ⟨by show 2 ≤ sizeLine; decide, fun cW ncW => ?_⟩⟩⟩
      have csC := sameNew (o := .lst [.ref cf0, .ref cf1]) (Same.refl cA1) ncW
      have chW : upd cA1 cW (.lst [.ref cf0, .ref cf1]) cW = some (.lst [.ref cf0, .ref cf1]) := upd_same
      generalize upd cA1 cW (.lst [.ref cf0, .ref cf1]) = cC at csC chW ⊢
      have ceB : LamX.ExtN bHZ cA1 := (ce0.trans ce1)
      have ctC := ct1.ext csC
      refine ⟨by show 2 ≤ sizeLine; decide, fun cTT ncTT => ?_⟩
      have csT := sameNew (o := .tup [.str "BadLengths", .int 0]) (Same.refl cC) ncTT
      have chT : upd cC cTT (.tup [.str "BadLengths", .int 0]) cTT = some (.tup [.str "BadLengths", .int 0]) := upd_same
      generalize upd cC cTT (.tup [.str "BadLengths", .int 0]) = cH at csT chT ⊢
      intro cGp ca
      have ceF : LamX.ExtN bHZ cH := ceB.trans ((ExtW.ext ((ExtW.of (LamX.ExtN.of csC)) : ExtW cW cA1 cC) ncW).trans (LamX.ExtN.of csT))
      have gD := bg.ext ceF
      have hnD := ceF _ _ hnn2 (fun ps z => nomatch z)
      refine ⟨cW, [cf0, cf1], .ref cTT, .tuple [.str "BadLengths", .int 0], rfl, ca.some (csT _ _ chW), by show 2 ≤ 20; decide, .tup (SqT.of (ca.some chT)) (.cons (.str _) (.cons (.int _) .nil)), by simp [few, fews], by simp [PyData.depth, PyData.depthAll], fun g hg => ?_, fun cZ csZ => ?_⟩
      · simp only [List.mem_cons, List.not_mem_nil, or_false] at hg
        rcases hg with rfl | rfl
        · refine works_pl eL rfl ca (LamX.lamS_by (sc := defScope sLaw) (by decide +kernel)) ((ci0.ext (ce1.trans (LamX.ExtN.of csC))).ext (LamX.ExtN.of csT)) (fun _ _ _ _ _ => rfl) (fun A outer s H E c' hr' => pe_c C.e_read_plan hr' (by decide) (by rfl) (passes_call (takes_of rfl rfl rfl rfl) fun _ _ _ _ h => h) (pa_cons (pv 13) (pa_cons pe_int (pa_cons pe_str pa_nil)))) fun Hx E Q sx q => ?_
          have y := Same.refl Hx
          refine ⟨_, rfl, ?_⟩
          have gy := gD.same (sx.trans y)
          exact ⟨.ref nn, 2, [.str "0"], rfl, rfl, gy.t, .inl ⟨zs, .lst (SqL.of ((sx.trans y) _ _ hnD)) (dpInts7 zs), lz, nok, fun H' s' => q H' (y.trans s')⟩⟩
        · refine works_plD eL rfl ca (lamSD_by (N := N7) (sc := defScope sLaw) (p := "_law_a") (by decide +kernel)) ((ci1.ext (LamX.ExtN.of csC)).ext (LamX.ExtN.of csT)) (fun s q cl T0 u doc pm cv ctv h => BindsTo.of_defaults rfl h rfl rfl rfl) (fun A outer s H E c' hr' => pe_c C.e_read_plan hr' (by decide) (by rfl) (passes_call (takes_of rfl rfl rfl rfl) fun _ _ _ _ h => h) (pa_cons (pe_lst (pa_cons pe_int pa_nil)) (pa_cons pe_int (pa_cons pe_str pa_nil)))) fun Hx E Q sx q => ?_
          refine ⟨by show 1 ≤ sizeLine; decide, fun t nt => ?_⟩
          have y := sameNew (o := .lst [.int 0]) (Same.refl Hx) nt
          have gy := gD.same (sx.trans y)
          exact ⟨.ref t, 2, [.str "0"], rfl, rfl, gy.t, .inl ⟨[0], .lst (SqL.of upd_same) (dpInts7 [0]), by decide, bad0, fun H' s' => q H' (y.trans s')⟩⟩
      have csf := caught_same ca csZ
      refine ⟨_, rfl, iteF ?_⟩
      have cg := gD.same csf
      have ctS := ctC.ext (csT.trans csf)
      have ceZ := ceF.trans (LamX.ExtN.of csf)
      generalize off _ cZ = cHZ at csf cg ctS ceZ ⊢
      clear ca gD
      exact ⟨_, _, _, _, _, _, _, _, _, _, _, _, rfl, cg.b, cg.t, ctS⟩
    · rintro σ H1 ⟨v2, v3, v4, v5, v6, v7, v8, v9, v10, v11, v12, v13, rfl, b1, tb1, tL1⟩
      refine ⟨by show 1 ≤ sizeLine; decide, fun l nl => ?_⟩
      have s2 := sameNew (o := .lst [.int 1]) (Same.refl H1) nl
      have hl : upd H1 l (.lst [.int 1]) l = some (.lst [.int 1]) := upd_same
      generalize upd H1 l (.lst [.int 1]) = H2 at s2 hl ⊢
      refine ⟨l, 40, _, rfl, rfl, hl, by decide, by decide, by show 1 * 40 ≤ sizeLine; decide, fun R nR => ?_⟩
      rw [rep_int7]
      obtain ⟨nRB, nRL⟩ := (b1.same s2).nb nR
      have s3 := sameNew (o := .lst ((List.replicate (40 : Int).toNat (1 : Int)).map V.int)) (Same.refl H2) nR
      have hR : upd H2 R (.lst ((List.replicate (40 : Int).toNat (1 : Int)).map V.int)) R = some (.lst ((List.replicate (40 : Int).toNat (1 : Int)).map V.int)) := upd_same
      generalize upd H2 R (.lst ((List.replicate (40 : Int).toNat (1 : Int)).map V.int)) = H3 at s3 hR ⊢
      have b3 := (b1.same s2).same s3
      refine ⟨_, rfl, _, rfl, .of_le (by decide) (by decide) (by decide) (by decide), fun r nr => ?_⟩
      have s4 := sameNew (o := .lst (rgV 0 40)) (Same.refl H3) nr
      have hr4 : upd H3 r (.lst (rgV 0 40)) r = some (.lst (rgV 0 40)) := upd_same
      generalize upd H3 r (.lst (rgV 0 40)) = H4 at s4 hr4 ⊢
      have b4 := b3.same s4
      have hr5 : H4 r = some (.lst ((List.range 40).map fun c => V.int (c : Nat))) := by
        rw [hr4]
        simp [rgV]
      refine ⟨B, L, r, 40, 6, rfl, b4, by decide, by decide, by decide, by decide, hr5, fun H5 vp d s5 b5 hp okp => ?_⟩
      have hR5 := s5 _ _ nRB nRL (s4 _ _ hR)
      have tb5 := tab_x7 b1 (((SameX.of s2).trans ((SameX.of s3).trans (SameX.of s4))).trans s5) tb1
      have ones : Dp K H5 (.ref R) (lensD (List.replicate 40 1)) := by
        rw [lens_ints]
        refine .lst (SqL.of hR5) ?_
        have : (List.replicate 40 1).map (fun n : Nat => ((n : Nat) : Int)) = List.replicate 40 (1 : Int) := by rw [List.map_replicate]; rfl
        rw [this]
        exact dpInts7 _
      refine ⟨.ref R, vp, List.replicate 40 1, 6, d, rfl, ones, ⟨by rw [List.length_replicate]; decide, by rw [List.length_replicate]; decide, fun n hn => by rw [List.eq_of_mem_replicate hn]; decide⟩, by decide, by decide, hp, by rw [List.length_replicate]; exact okp, tb5, fun H6 s6 => ?_⟩
      refine ⟨_, _, rfl, rfl, ?_⟩
      have cp := cost_pos okp
      refine ⟨.bl (decide ((0 : Int) < ((costP (List.replicate 40 1) d : Nat) : Int))), .bl true, .bool true, rfl, ?_, .bl true, by simp [few], by simp [PyData.depth], k _ (s6 _ _ tb5)⟩
      rw [decide_eq_true (show (0 : Int) < ((costP (List.replicate 40 1) d : Nat) : Int) by omega)]
      exact .bl true
end
end RS
set_option Elab.async false
set_option maxRecDepth 100000
set_option maxHeartbeats 4000000
set_option pp.maxSteps 400
namespace RS
open PySem PySem.Spec PyProof.Rows L2 GX LM
section
variable {X : Cx} {e : Expr} {es : List Expr} {ta : TA} {p1 p2 pos : Pos}
/-- C.__init__(self, ..), C an own class that has ValueError's -/
theorem pe_veinitC {pl : Sem Bool} {x : Str} {SE : Addr} {mc : Value} (hg : Gl X x) (hm : X.mg x = some (.ref SE)) (cr : ClX.CRead X.K SE mc) (cv : PySem.W.findCls X.K (.ref SE) mc "__init__" = some (.val (.builtin "ValueError.__init__"))) (ha : PA X (e :: es) ta) (hdb : (x == ("__debug__" : Str)) = false := by decide)
    (hc : eval (.Call (.Attribute (.Name x p1) "__init__" p2) (e :: es) [] pos) X.env = (do
      let ov ← eval (.Name x p1) X.env
      standAt p2.atName
      let (f, first) ← holding [ov] (getMethod ov "__init__" pl)
      callWith pos f first (backTo pos (starEach (e :: es) X.env)) (backToKw pos (keywordEach [] X.env))) := by rfl)
    (he : starEach (e :: es) X.env = (false, eval e X.env) :: starEach es X.env := by rfl) (hpl : (backTo pos (starEach es X.env)).any (·.1) = false := by rfl) :
    PE X (.Call (.Attribute (.Name x p1) "__init__" p2) (e :: es) [] pos) (tVeI X.K ta) := by
  refine ⟨fun pins s σ H Q I h => ?_⟩
  refine PySem.W.methodCall_KW (ld_glob I hg hm ?_ hdb) hc
  refine PySem.W.method_cls I.kIn cr.ga (PySem.W.cls_value I.kIn cr.rd cv (by decide +kernel) ?_)
  show wpAny _ _ (callWith pos (Value.builtin "ValueError.__init__") [] (backTo pos (starEach (e :: es) X.env)) []) _ _ _
  refine PyProof.Rows.callWith_method1 (thn (ha.run pos pins _ σ H _ (I.tok _) h) fun us s1 ⟨vs, H1, I1, r1, a, C, ws, ev, hl, T, ea, q⟩ => ?_) he hpl
  subst ev
  cases r1 with
  | @cons _ u0 _ ur ra rw' =>
    obtain rfl : u0 = Value.ref a := ra
    have z : ur.length ≤ sizeLine := by
      rw [← Paired.length rw', sizeLine_eq]
      omega
    exact oinit_ok T I1 ea z fun s' J => ⟨.non, H1, J, rfl, q⟩
end
theorem len_app7 (x y : Str) : (x ++ y).length = x.length + y.length := by
  have e : ∀ z : Str, z.length = (TL.tl z).length := fun z => by simp [TL.tl, Str.length]
  rw [e, e x, e y, TL.tl_append, List.length_append]
/-! ### an error with a number -/
def spNumI (K : PySem.W.Frag) (C : Addr) (f : Str) : Sp := fun vs H Q _ => ∃ (a : Addr) (v : Nat), vs = [.ref a, .int (v : Nat)] ∧ v < 200 ∧ H a = some (exo a C none) ∧
  ∀ dx, H dx = none → dx ≠ a → Q .non (upd (upd H dx (exd dx [(f, .int (v : Nat))])) a (exo a C (some dx)))
theorem txt_small : ∀ n < 200, (toString ((n : Nat) : Int) : Str).length ≤ 20 ∧ ((n : Nat) : Int).natAbs.log2 < 1920 := by decide +kernel
/-- the text's class C: its __init__ tells a text, then keeps the number as f -/
structure NumE (P : Program) (w : World) (K : PySem.W.Frag) (mg : Str → Option Value) (base : Heap) (x f : Str) (C : Addr) : Prop where
  ex : ∃ (fI : Addr) (fd : FuncData), OexC K C ∧ PySem.W.findIn K (.ref C) "__init__" = some (some (.ref fI)) ∧ PySem.W.typeIn K (.ref fI) = some (.type "function") ∧ FnOk P w K mg base CX0 1 fI fd ["self", f] (spNumI K C f) ∧ Binds K fd ["self", f] [] ∧ mg x = some (.ref C)
section
variable {X : Cx} {e : Expr} {te : TE} {p pos : Pos} {x f : Str} {C : Addr}
theorem del_end {H1 : Hp} {a dx : Addr} {o u v y : HO} (hn : H1 a = none) (ne : dx ≠ a) : upd (L2.del (upd (upd (upd H1 a o) dx u) a v) a) dx y = upd H1 dx y := by
  funext b
  by_cases hb : b = dx
  · rw [hb, upd_same, upd_same]
  · rw [upd_ne hb, upd_ne hb]
    by_cases ha : b = a
    · rw [ha, L2.del_same, hn]
    · rw [L2.del_ne ha, upd_ne ha, upd_ne hb, upd_ne ha]
/-- C(e), to be raised -/
theorem pmk_num (N : NumE X.prog X.w X.K X.mg X.base x f C) (hr : Room 2 X.A) (hg : Gl X x) (he : PE X e te) (hs : starEach [e] X.env = (false, eval e X.env) :: starEach [] X.env := by rfl) (hdb : (x == ("__debug__" : Str)) = false := by decide) :
    L2.PMk X (.Call (.Name x p) [e] [] pos) (tMkO C (spNumI X.K C f) [] (tCons te tNil)) := by
  obtain ⟨fI, fd, T, iC, tI, F, hb, hm⟩ := N.ex
  exact pmk_oex T iC tI F hr hb .nil pass0 hg hm (pa_cons he pa_nil hs) hdb hs (by rfl)
/-- its reading, the number known -/
theorem num_end {K : PySem.W.Frag} {n : Nat} {H1 : Hp} {Q : XK} (hn : n < 200) (q : ∀ d, H1 d = none → Q (.ref C) (some d) (upd H1 d (.xd [(f, .int (n : Nat))]))) : [V.int (n : Nat)].length ≤ 1000 ∧ ∀ a, H1 a = none → spNumI K C f (.ref a :: ([V.int (n : Nat)] ++ [])) (upd H1 a (exo a C none))
    (fun v H2 => v = .non ∧ ∃ (d : Addr) (fs : List (Str × V)), H2 a = some (exo a C (some d)) ∧ H2 d = some (exd d fs) ∧ H1 d = none ∧ Q (.ref C) (some d) (upd (L2.del H2 a) d (.xd fs))) (fun _ _ _ => False) := by
  refine ⟨by show 1 ≤ 1000; decide, fun a ha => ⟨a, n, rfl, hn, upd_same, fun dx hd ne => ⟨rfl, dx, [(f, .int (n : Nat))], upd_same, (upd_ne ne).trans upd_same, (upd_ne ne).symm.trans hd, ?_⟩⟩⟩
  rw [del_end ha ne]
  exact q dx ((upd_ne ne).symm.trans hd)
end
section
variable {P : Program} {w : World} {K : PySem.W.Frag} {mg : Str → Option Value} {base : Heap}
theorem scPlaceI : FnScope ["self", "place"] ["self", "place"] (defScope s_BadRows_init) := ⟨rfl, rfl, rfl, by decide +kernel, rfl, by decide +kernel, by decide +kernel⟩
theorem init_place {fI C SE : Addr} {fd : FuncData} {mc : Value} (F : L2.Fun K "__init__" "BadRows.__init__" s_BadRows_init fI fd) (T : OexC K C) (iC : PySem.W.findIn K (.ref C) "__init__" = some (some (.ref fI))) (tI : PySem.W.typeIn K (.ref fI) = some (.type "function")) (hm : mg "BadRows" = some (.ref C)) (nf : PySem.W.findIn K (.ref C) "place" = some none)
    (gS : mg "SortError" = some (.ref SE)) (cr : ClX.CRead K SE mc) (cv : PySem.W.findCls K (.ref SE) mc "__init__" = some (.val (.builtin "ValueError.__init__"))) : NumE P w K mg base "BadRows" "place" C := by
  have sc := scPlaceI
  refine ⟨fI, fd, T, iC, tI, ?_, F.binds (fun _ _ _ _ _ _ us hl => match us, hl with | [_, _], _ => rfl), hm⟩
  refine F.ok sc (fun vs H Q E h => ?_) (fun cdv A outer s H vs Q E hr h => ?_)
  · obtain ⟨a, v, rfl, _⟩ := h
    rfl
  · obtain ⟨a, v, rfl, hv, ha, k⟩ := h
    refine ⟨_, (pss_cons (ps_expr (pe_veinitC (by rfl) gS cr cv (pa_cons (pv 0) (pa_cons (pe_joined (.cons pe_str (.cons (pe_fmt (pv 1)) .nil))) pa_nil)))) (pss_one (ps_ost (pv 0) (pv 1)))), ?_⟩
    obtain ⟨z1, z2⟩ := txt_small v hv
    have big : (1000 : Nat) ≤ sizeLine := by decide
    have e0 : (Str.empty ++ Str.ofString "no row that may stand at place ").length ≤ 100 := by decide +kernel
    refine ⟨_, rfl, _, rfl, by omega, _, rfl, .inr ⟨_, rfl, z2, _, rfl, ?_, a, C, _, rfl, by show 1 ≤ 1000; decide, T, ha, ?_⟩⟩
    · rw [len_app7]
      omega
    · exact ⟨_, rfl, _, rfl, a, C, rfl, T, nf, .inl ⟨ha, fun dx hd ne => k dx hd ne⟩⟩
end
end RS
set_option Elab.async false
set_option maxRecDepth 100000
set_option maxHeartbeats 4000000
namespace RS
open PySem PySem.Spec PyProof.Rows L2 GX LM
/-! ### what one reads of the classes of the errors -/
theorem kit_ne {K : PySem.W.Frag} {D C : Addr} {b : Bool} (hne : D ≠ C) (h1 : PySem.W.isClsIn K C = true) (h2 : PySem.W.typeIn K (.ref C) = some (.type "type")) (h3 : PySem.W.subIn K (.ref D) (.ref C) = some b) : PySem.W.kitOne K (.ref D) (.ref C) = some b := by
  have e0 : ((Value.ref D : Value) == .ref C) = false := by
    rw [beq_eq_false_iff_ne]
    exact fun z => hne (Value.ref.inj z)
  have e2 : ((PySem.W.clsIn K C).isSome && PySem.W.typeIn K (.ref C) == some (.type "type")) = true := by
    have h1' : (PySem.W.clsIn K C).isSome = true := h1
    rw [h1', h2] <;> rfl
  unfold PySem.W.kitOne
  rw [if_neg (by rw [e0]; decide)]
  show (if ((PySem.W.clsIn K C).isSome && PySem.W.typeIn K (.ref C) == some (.type "type")) = true then PySem.W.subIn K (.ref D) (.ref C) else none) = some b
  rw [if_pos e2]
  exact h3
theorem kit_same {K : PySem.W.Frag} {D : Addr} : PySem.W.kitOne K (.ref D) (.ref D) = some true := by
  unfold PySem.W.kitOne
  rw [if_pos (beq_self_eq_true _)]
theorem kit_ve {K : PySem.W.Frag} {D : Addr} (h : PySem.W.subIn K (.ref D) (.type "ValueError") = some true) : PySem.W.kitOne K (.ref D) (.type "ValueError") = some true := by
  unfold PySem.W.kitOne
  rw [if_neg (show ¬((Value.ref D : Value) == .type "ValueError") = true from fun z => by have := beq_iff_eq.mp z; cases this)]
  show (if PySem.W.kitMeta "ValueError" = true then PySem.W.subIn K (.ref D) (.type "ValueError") else none) = some true
  rw [if_pos (by decide +kernel)]
  exact h
theorem exm_mk {K : PySem.W.Frag} {D S : Addr} (h1 : PySem.W.subIn K (.ref S) (.type "BaseException") = some true) (h2 : PySem.W.isClsIn K S = true) (h3 : PySem.W.typeIn K (.ref S) = some (.type "type")) (h4 : PySem.W.subIn K (.ref D) (.ref S) = some true) :
    PySem.W.exmOne K (.ref D) (.ref S) = some true := by
  have e1 : (PySem.W.subIn K (.ref S) (.type "BaseException") == some true) = true := by rw [h1] <;> rfl
  have e2 : ((PySem.W.clsIn K S).isSome && PySem.W.typeIn K (.ref S) == some (.type "type")) = true := by
    have h2' : (PySem.W.clsIn K S).isSome = true := h2
    rw [h2', h3] <;> rfl
  show (if (PySem.W.subIn K (.ref S) (.type "BaseException") == some true) = true then (if ((PySem.W.clsIn K S).isSome && PySem.W.typeIn K (.ref S) == some (.type "type")) = true then PySem.W.subIn K (.ref D) (.ref S) else none) else none) = some true
  rw [if_pos e1, if_pos e2]
  exact h4
/-- what one class of an error shows -/
structure OneE (K : PySem.W.Frag) (SE D : Addr) : Prop where
  exc : ExcC K D
  ve : PySem.W.subIn K (.ref D) (.type "ValueError") = some true
  se : PySem.W.exmOne K (.ref D) (.ref SE) = some true
theorem own15_mk {K : PySem.W.Frag} {C : Nat → Addr} {SE : Addr} {j : Nat} (hj : j < 15) (E : OneE K SE (C j)) (cl : ∀ i < 15, PySem.W.isClsIn K (C i) = true ∧ PySem.W.typeIn K (.ref (C i)) = some (.type "type")) (no : ∀ i < 15, i ≠ j → C j ≠ C i ∧ PySem.W.subIn K (.ref (C j)) (.ref (C i)) = some false) : Own15 K C (C j) j := by
  refine ⟨hj, E.exc, fun i hi => ?_, kit_ve E.ve⟩
  by_cases e : i = j
  · subst e
    rw [kit_same, decide_eq_true rfl]
  · obtain ⟨n1, n2⟩ := no i hi e
    rw [kit_ne n1 (cl i hi).1 (cl i hi).2 n2, decide_eq_false e]
def listC (cs : List Addr) : Nat → Addr := fun i => cs.getD i 0
end RS
set_option Elab.async false
set_option maxRecDepth 100000
set_option maxHeartbeats 8000000
namespace RS
open PySem PySem.Spec PyProof.Rows L2 GX LM
theorem def_at {K : PySem.W.Frag} {h : Heap} {mg : Str → Option Value} {x : Str} {st : Stmt} {f c : Addr} {oc kV doc pm ct : Value} {od an : Option Addr} {osl : Array (Option Value)} (X : K.In h) (G : h.Ns mainGlobals mg) (a : PySem.W.nsIn K mainGlobals x = some (some (.ref f)))
    (l : K.lookup f = some ⟨oc, od, .func (PySem.W.fnOf x x (defArgs st) (defBody st) (defScope st) .none kV doc pm an (.ref c) ct), osl⟩) (e : PySem.W.codeIn K (.ref c) x = true) (k : PySem.W.keepIn K (.ref f) = true) : DefAt K mg x st c :=
  ⟨f, oc, od, kV, doc, pm, an, ct, osl, PySem.W.mg_of X G a, l, e, k⟩
theorem two_in {K : PySem.W.Frag} {a : Addr} {x y : Str} {t u : Tok} {od : Option Addr} {n : Nat} {sl : Array (Option Value)} (h : K.lookup a = some ⟨.type "tuple", od, .seq #[.str x t, .str y u] n, sl⟩) : ∀ H, SqT K H a [.str x, .str y] :=
  fun _ => .inr ⟨_, #[.str x t, .str y u], n, h, rfl, rfl, by show 2 ≤ sizeLine; decide, .cons ⟨t, rfl⟩ (.cons ⟨u, rfl⟩ .nil)⟩
theorem tabB_of {base : Heap} {mg : Str → Option Value} {c P : Addr} (h : LamX.TabB base mg c P) : GxR.TabB base mg c P := ⟨h.code, h.bm, h.gP⟩
theorem tab_in {K : PySem.W.Frag} {x : Str} {st : Stmt} {f c P : Addr} {oc kV doc pm ct e : Value} {od an dd : Option Addr} {osl sl : Array (Option Value)} {vs : Array Value} (a : PySem.W.nsIn K mainGlobals x = some (some (.ref f)))
    (l : K.lookup f = some ⟨oc, od, .func (PySem.W.fnOf x x (defArgs st) (defBody st) (defScope st) .none kV doc pm an (.ref c) ct), osl⟩) (h1 : K.lookup c = some ⟨e, dd, .fields vs, sl⟩) (h2 : vs[11]? = some (.ref P)) : PySem.W.tabIn K x = some (c, P) := by
  unfold PySem.W.tabIn
  rw [a]
  dsimp only
  rw [l]
  show (match K.lookup c with
    | some ⟨_, _, .fields vs, _⟩ => (match (vs[11]? : Option Value) with
      | some (.ref P) => some (c, P)
      | _ => none)
    | _ => none) = some (c, P)
  rw [h1]
  dsimp only
  rw [h2]
theorem all_mk {l : PySem.W.OpenLaw} {w : World} {K : PySem.W.Frag} {h : Heap} {mg : Str → Option Value} {fa pL pZ : Addr} {q : Program} {dL dZ : DefRec} {eL eZ : Value} {ddL ddZ : Option Addr} {vsL vsZ : Array Value} {stL stZ : Array (Option Value)} (tabs : ∀ (y : Str) (d' : DefRec) (c P : Addr), (recsOf q).find? (fun e => e.name == y) = some d' → PySem.W.tabIn K y = some (c, P) → PySem.W.CodeHd h c P ∧ h.get? P = some { cls := .none, data := .fields #[] }) (X : K.In h) (G : h.Ns mainGlobals mg) (hfa : mg "law" = some (.ref fa))
    {f0 c0 : Addr} {oc0 kV0 dc0 pm0 ct0 : Value} {od0 an0 : Option Addr} {sl0 : Array (Option Value)}
    {f1 c1 : Addr} {oc1 kV1 dc1 pm1 ct1 : Value} {od1 an1 : Option Addr} {sl1 : Array (Option Value)}
    {f2 c2 : Addr} {oc2 kV2 dc2 pm2 ct2 : Value} {od2 an2 : Option Addr} {sl2 : Array (Option Value)}
    {f3 c3 : Addr} {oc3 kV3 dc3 pm3 ct3 : Value} {od3 an3 : Option Addr} {sl3 : Array (Option Value)}
    {f4 c4 : Addr} {oc4 kV4 dc4 pm4 ct4 : Value} {od4 an4 : Option Addr} {sl4 : Array (Option Value)}
    {f5 c5 : Addr} {oc5 kV5 dc5 pm5 ct5 : Value} {od5 an5 : Option Addr} {sl5 : Array (Option Value)}
    {f6 c6 : Addr} {oc6 kV6 dc6 pm6 ct6 : Value} {od6 an6 : Option Addr} {sl6 : Array (Option Value)}
    {f7 c7 : Addr} {oc7 kV7 dc7 pm7 ct7 : Value} {od7 an7 : Option Addr} {sl7 : Array (Option Value)}
    {f8 c8 : Addr} {oc8 kV8 dc8 pm8 ct8 : Value} {od8 an8 : Option Addr} {sl8 : Array (Option Value)}
    {f9 c9 : Addr} {oc9 kV9 dc9 pm9 ct9 : Value} {od9 an9 : Option Addr} {sl9 : Array (Option Value)}
    {f10 c10 : Addr} {oc10 kV10 dc10 pm10 ct10 : Value} {od10 an10 : Option Addr} {sl10 : Array (Option Value)}
    {f11 c11 : Addr} {oc11 kV11 dc11 pm11 ct11 : Value} {od11 an11 : Option Addr} {sl11 : Array (Option Value)}
    {f12 c12 : Addr} {oc12 kV12 dc12 pm12 ct12 : Value} {od12 an12 : Option Addr} {sl12 : Array (Option Value)}
    {f13 c13 : Addr} {oc13 kV13 dc13 pm13 ct13 : Value} {od13 an13 : Option Addr} {sl13 : Array (Option Value)}
    {f14 c14 : Addr} {oc14 kV14 dc14 pm14 ct14 : Value} {od14 an14 : Option Addr} {sl14 : Array (Option Value)}
    {f15 c15 : Addr} {oc15 kV15 dc15 pm15 ct15 : Value} {od15 an15 : Option Addr} {sl15 : Array (Option Value)}
    {f16 c16 : Addr} {oc16 kV16 dc16 pm16 ct16 : Value} {od16 an16 : Option Addr} {sl16 : Array (Option Value)}
    {f17 c17 : Addr} {oc17 kV17 dc17 pm17 ct17 : Value} {od17 an17 : Option Addr} {sl17 : Array (Option Value)}
    {f18 c18 : Addr} {oc18 kV18 dc18 pm18 ct18 : Value} {od18 an18 : Option Addr} {sl18 : Array (Option Value)}
    {f19 c19 : Addr} {oc19 kV19 dc19 pm19 ct19 : Value} {od19 an19 : Option Addr} {sl19 : Array (Option Value)}
    {f20 c20 : Addr} {oc20 kV20 dc20 pm20 ct20 : Value} {od20 an20 : Option Addr} {sl20 : Array (Option Value)}
    {f21 c21 : Addr} {oc21 kV21 dc21 pm21 ct21 : Value} {od21 an21 : Option Addr} {sl21 : Array (Option Value)}
    {f22 c22 : Addr} {oc22 kV22 dc22 pm22 ct22 : Value} {od22 an22 : Option Addr} {sl22 : Array (Option Value)}
    {f23 c23 : Addr} {oc23 kV23 dc23 pm23 ct23 : Value} {od23 an23 : Option Addr} {sl23 : Array (Option Value)}
    {f24 c24 : Addr} {oc24 kV24 dc24 pm24 ct24 : Value} {od24 an24 : Option Addr} {sl24 : Array (Option Value)}
    {t1 t2 t3 t4 : Tok}
    {SE CC0 CC1 CC2 CC3 CC4 CC5 CC6 CC7 CC8 CC9 CC10 CC11 CC12 CC13 CC14 : Addr}
    (sg : PySem.W.nsIn K mainGlobals "SortError" = some (some (.ref SE)))
    (scl : PySem.W.isClsIn K SE = true)
    (sty : PySem.W.typeIn K (.ref SE) = some (.type "type"))
    (sbe : PySem.W.subIn K (.ref SE) (.type "BaseException") = some true)
    (srd : PySem.W.readsIn K SE (.type "type") = true)
    (sga : PySem.W.specialIn K (.ref SE) "__getattribute__" = some (some (.builtin "type.__getattribute__")))
    (sfi : PySem.W.findCls K (.ref SE) (.type "type") "__init__" = some (.val (.builtin "ValueError.__init__")))
    (ohn : PySem.W.specialIn K (.builtin "object.__class__") "__get__" = some (some (.builtin "getset_descriptor.__get__")))
    (oht : PySem.W.takesIn K (.builtin "object.__class__") = some true)
    (cg0 : PySem.W.nsIn K mainGlobals "BadKinds" = some (some (.ref CC0)))
    (cc0 : PySem.W.isClsIn K CC0 = true)
    (cy0 : PySem.W.typeIn K (.ref CC0) = some (.type "type"))
    (cg1 : PySem.W.nsIn K mainGlobals "BadOrder" = some (some (.ref CC1)))
    (cc1 : PySem.W.isClsIn K CC1 = true)
    (cy1 : PySem.W.typeIn K (.ref CC1) = some (.type "type"))
    (cg2 : PySem.W.nsIn K mainGlobals "BadRows" = some (some (.ref CC2)))
    (cc2 : PySem.W.isClsIn K CC2 = true)
    (cy2 : PySem.W.typeIn K (.ref CC2) = some (.type "type"))
    (cg3 : PySem.W.nsIn K mainGlobals "BadRuns" = some (some (.ref CC3)))
    (cc3 : PySem.W.isClsIn K CC3 = true)
    (cy3 : PySem.W.typeIn K (.ref CC3) = some (.type "type"))
    (cg4 : PySem.W.nsIn K mainGlobals "BadRoom" = some (some (.ref CC4)))
    (cc4 : PySem.W.isClsIn K CC4 = true)
    (cy4 : PySem.W.typeIn K (.ref CC4) = some (.type "type"))
    (cg5 : PySem.W.nsIn K mainGlobals "BadLengths" = some (some (.ref CC5)))
    (cc5 : PySem.W.isClsIn K CC5 = true)
    (cy5 : PySem.W.typeIn K (.ref CC5) = some (.type "type"))
    (cg6 : PySem.W.nsIn K mainGlobals "BadPlan" = some (some (.ref CC6)))
    (cc6 : PySem.W.isClsIn K CC6 = true)
    (cy6 : PySem.W.typeIn K (.ref CC6) = some (.type "type"))
    (cg7 : PySem.W.nsIn K mainGlobals "BadPaper" = some (some (.ref CC7)))
    (cc7 : PySem.W.isClsIn K CC7 = true)
    (cy7 : PySem.W.typeIn K (.ref CC7) = some (.type "type"))
    (cg8 : PySem.W.nsIn K mainGlobals "BadCount" = some (some (.ref CC8)))
    (cc8 : PySem.W.isClsIn K CC8 = true)
    (cy8 : PySem.W.typeIn K (.ref CC8) = some (.type "type"))
    (cg9 : PySem.W.nsIn K mainGlobals "BadBlock" = some (some (.ref CC9)))
    (cc9 : PySem.W.isClsIn K CC9 = true)
    (cy9 : PySem.W.typeIn K (.ref CC9) = some (.type "type"))
    (cg10 : PySem.W.nsIn K mainGlobals "Stopped" = some (some (.ref CC10)))
    (cc10 : PySem.W.isClsIn K CC10 = true)
    (cy10 : PySem.W.typeIn K (.ref CC10) = some (.type "type"))
    (cg11 : PySem.W.nsIn K mainGlobals "Shut" = some (some (.ref CC11)))
    (cc11 : PySem.W.isClsIn K CC11 = true)
    (cy11 : PySem.W.typeIn K (.ref CC11) = some (.type "type"))
    (cg12 : PySem.W.nsIn K mainGlobals "NotYet" = some (some (.ref CC12)))
    (cc12 : PySem.W.isClsIn K CC12 = true)
    (cy12 : PySem.W.typeIn K (.ref CC12) = some (.type "type"))
    (cg13 : PySem.W.nsIn K mainGlobals "Empty" = some (some (.ref CC13)))
    (cc13 : PySem.W.isClsIn K CC13 = true)
    (cy13 : PySem.W.typeIn K (.ref CC13) = some (.type "type"))
    (cg14 : PySem.W.nsIn K mainGlobals "BadText" = some (some (.ref CC14)))
    (cc14 : PySem.W.isClsIn K CC14 = true)
    (cy14 : PySem.W.typeIn K (.ref CC14) = some (.type "type"))
    (hg4 : PySem.W.findIn K (.ref CC4) "__getattribute__" = some (some (.builtin "BaseException.__getattribute__")))
    (hk4 : PySem.W.findIn K (.ref CC4) "__getattr__" = some none)
    (hs4 : PySem.W.subIn K (.ref CC4) (.type "BaseException") = some true)
    (hd4 : PySem.W.hasDictIn K CC4 = true)
    (ha4 : PySem.W.findIn K (.ref CC4) "__class__" = some (some (.builtin "object.__class__")))
    (hm4 : PySem.W.mroIn K CC4 (.type "object") = some true)
    (hv4 : PySem.W.subIn K (.ref CC4) (.type "ValueError") = some true)
    (hS4 : PySem.W.subIn K (.ref CC4) (.ref SE) = some true)
    (kc4 : PySem.W.keepIn K (.ref CC4) = true)
    (no4_0 : PySem.W.subIn K (.ref CC4) (.ref CC0) = some false)
    (ne4_0 : CC4 ≠ CC0)
    (no4_1 : PySem.W.subIn K (.ref CC4) (.ref CC1) = some false)
    (ne4_1 : CC4 ≠ CC1)
    (no4_2 : PySem.W.subIn K (.ref CC4) (.ref CC2) = some false)
    (ne4_2 : CC4 ≠ CC2)
    (no4_3 : PySem.W.subIn K (.ref CC4) (.ref CC3) = some false)
    (ne4_3 : CC4 ≠ CC3)
    (no4_5 : PySem.W.subIn K (.ref CC4) (.ref CC5) = some false)
    (ne4_5 : CC4 ≠ CC5)
    (no4_6 : PySem.W.subIn K (.ref CC4) (.ref CC6) = some false)
    (ne4_6 : CC4 ≠ CC6)
    (no4_7 : PySem.W.subIn K (.ref CC4) (.ref CC7) = some false)
    (ne4_7 : CC4 ≠ CC7)
    (no4_8 : PySem.W.subIn K (.ref CC4) (.ref CC8) = some false)
    (ne4_8 : CC4 ≠ CC8)
    (no4_9 : PySem.W.subIn K (.ref CC4) (.ref CC9) = some false)
    (ne4_9 : CC4 ≠ CC9)
    (no4_10 : PySem.W.subIn K (.ref CC4) (.ref CC10) = some false)
    (ne4_10 : CC4 ≠ CC10)
    (no4_11 : PySem.W.subIn K (.ref CC4) (.ref CC11) = some false)
    (ne4_11 : CC4 ≠ CC11)
    (no4_12 : PySem.W.subIn K (.ref CC4) (.ref CC12) = some false)
    (ne4_12 : CC4 ≠ CC12)
    (no4_13 : PySem.W.subIn K (.ref CC4) (.ref CC13) = some false)
    (ne4_13 : CC4 ≠ CC13)
    (no4_14 : PySem.W.subIn K (.ref CC4) (.ref CC14) = some false)
    (ne4_14 : CC4 ≠ CC14)
    (hg5 : PySem.W.findIn K (.ref CC5) "__getattribute__" = some (some (.builtin "BaseException.__getattribute__")))
    (hk5 : PySem.W.findIn K (.ref CC5) "__getattr__" = some none)
    (hs5 : PySem.W.subIn K (.ref CC5) (.type "BaseException") = some true)
    (hd5 : PySem.W.hasDictIn K CC5 = true)
    (ha5 : PySem.W.findIn K (.ref CC5) "__class__" = some (some (.builtin "object.__class__")))
    (hm5 : PySem.W.mroIn K CC5 (.type "object") = some true)
    (hv5 : PySem.W.subIn K (.ref CC5) (.type "ValueError") = some true)
    (hS5 : PySem.W.subIn K (.ref CC5) (.ref SE) = some true)
    (kc5 : PySem.W.keepIn K (.ref CC5) = true)
    (no5_0 : PySem.W.subIn K (.ref CC5) (.ref CC0) = some false)
    (ne5_0 : CC5 ≠ CC0)
    (no5_1 : PySem.W.subIn K (.ref CC5) (.ref CC1) = some false)
    (ne5_1 : CC5 ≠ CC1)
    (no5_2 : PySem.W.subIn K (.ref CC5) (.ref CC2) = some false)
    (ne5_2 : CC5 ≠ CC2)
    (no5_3 : PySem.W.subIn K (.ref CC5) (.ref CC3) = some false)
    (ne5_3 : CC5 ≠ CC3)
    (no5_4 : PySem.W.subIn K (.ref CC5) (.ref CC4) = some false)
    (ne5_4 : CC5 ≠ CC4)
    (no5_6 : PySem.W.subIn K (.ref CC5) (.ref CC6) = some false)
    (ne5_6 : CC5 ≠ CC6)
    (no5_7 : PySem.W.subIn K (.ref CC5) (.ref CC7) = some false)
    (ne5_7 : CC5 ≠ CC7)
    (no5_8 : PySem.W.subIn K (.ref CC5) (.ref CC8) = some false)
    (ne5_8 : CC5 ≠ CC8)
    (no5_9 : PySem.W.subIn K (.ref CC5) (.ref CC9) = some false)
    (ne5_9 : CC5 ≠ CC9)
    (no5_10 : PySem.W.subIn K (.ref CC5) (.ref CC10) = some false)
    (ne5_10 : CC5 ≠ CC10)
    (no5_11 : PySem.W.subIn K (.ref CC5) (.ref CC11) = some false)
    (ne5_11 : CC5 ≠ CC11)
    (no5_12 : PySem.W.subIn K (.ref CC5) (.ref CC12) = some false)
    (ne5_12 : CC5 ≠ CC12)
    (no5_13 : PySem.W.subIn K (.ref CC5) (.ref CC13) = some false)
    (ne5_13 : CC5 ≠ CC13)
    (no5_14 : PySem.W.subIn K (.ref CC5) (.ref CC14) = some false)
    (ne5_14 : CC5 ≠ CC14)
    (hg6 : PySem.W.findIn K (.ref CC6) "__getattribute__" = some (some (.builtin "BaseException.__getattribute__")))
    (hk6 : PySem.W.findIn K (.ref CC6) "__getattr__" = some none)
    (hs6 : PySem.W.subIn K (.ref CC6) (.type "BaseException") = some true)
    (hd6 : PySem.W.hasDictIn K CC6 = true)
    (ha6 : PySem.W.findIn K (.ref CC6) "__class__" = some (some (.builtin "object.__class__")))
    (hm6 : PySem.W.mroIn K CC6 (.type "object") = some true)
    (hv6 : PySem.W.subIn K (.ref CC6) (.type "ValueError") = some true)
    (hS6 : PySem.W.subIn K (.ref CC6) (.ref SE) = some true)
    (kc6 : PySem.W.keepIn K (.ref CC6) = true)
    (no6_0 : PySem.W.subIn K (.ref CC6) (.ref CC0) = some false)
    (ne6_0 : CC6 ≠ CC0)
    (no6_1 : PySem.W.subIn K (.ref CC6) (.ref CC1) = some false)
    (ne6_1 : CC6 ≠ CC1)
    (no6_2 : PySem.W.subIn K (.ref CC6) (.ref CC2) = some false)
    (ne6_2 : CC6 ≠ CC2)
    (no6_3 : PySem.W.subIn K (.ref CC6) (.ref CC3) = some false)
    (ne6_3 : CC6 ≠ CC3)
    (no6_4 : PySem.W.subIn K (.ref CC6) (.ref CC4) = some false)
    (ne6_4 : CC6 ≠ CC4)
    (no6_5 : PySem.W.subIn K (.ref CC6) (.ref CC5) = some false)
    (ne6_5 : CC6 ≠ CC5)
    (no6_7 : PySem.W.subIn K (.ref CC6) (.ref CC7) = some false)
    (ne6_7 : CC6 ≠ CC7)
    (no6_8 : PySem.W.subIn K (.ref CC6) (.ref CC8) = some false)
    (ne6_8 : CC6 ≠ CC8)
    (no6_9 : PySem.W.subIn K (.ref CC6) (.ref CC9) = some false)
    (ne6_9 : CC6 ≠ CC9)
    (no6_10 : PySem.W.subIn K (.ref CC6) (.ref CC10) = some false)
    (ne6_10 : CC6 ≠ CC10)
    (no6_11 : PySem.W.subIn K (.ref CC6) (.ref CC11) = some false)
    (ne6_11 : CC6 ≠ CC11)
    (no6_12 : PySem.W.subIn K (.ref CC6) (.ref CC12) = some false)
    (ne6_12 : CC6 ≠ CC12)
    (no6_13 : PySem.W.subIn K (.ref CC6) (.ref CC13) = some false)
    (ne6_13 : CC6 ≠ CC13)
    (no6_14 : PySem.W.subIn K (.ref CC6) (.ref CC14) = some false)
    (ne6_14 : CC6 ≠ CC14)
    (xE4 : PySem.W.excIn K CC4 [.type "ValueError", .type "Exception", .type "BaseException", .type "object"] "ValueError.__new__" = true)
    (xE5 : PySem.W.excIn K CC5 [.type "ValueError", .type "Exception", .type "BaseException", .type "object"] "ValueError.__new__" = true)
    (xE6 : PySem.W.excIn K CC6 [.type "ValueError", .type "Exception", .type "BaseException", .type "object"] "ValueError.__new__" = true)
    (a0 : PySem.W.nsIn K mainGlobals "is_number" = some (some (.ref f0))) (l0 : K.lookup f0 = some ⟨oc0, od0, .func (PySem.W.fnOf "is_number" "is_number" (defArgs sIsNumber) (defBody sIsNumber) (defScope sIsNumber) .none kV0 dc0 pm0 an0 (.ref c0) ct0), sl0⟩) (e0 : PySem.W.codeIn K (.ref c0) "is_number" = true) (k0 : PySem.W.keepIn K (.ref f0) = true)
    (a1 : PySem.W.nsIn K mainGlobals "check_lengths" = some (some (.ref f1))) (l1 : K.lookup f1 = some ⟨oc1, od1, .func (PySem.W.fnOf "check_lengths" "check_lengths" (defArgs s_check_lengths) (defBody s_check_lengths) (defScope s_check_lengths) .none kV1 dc1 pm1 an1 (.ref c1) ct1), sl1⟩) (e1 : PySem.W.codeIn K (.ref c1) "check_lengths" = true) (k1 : PySem.W.keepIn K (.ref f1) = true)
    (a2 : PySem.W.nsIn K mainGlobals "check_ways" = some (some (.ref f2))) (l2 : K.lookup f2 = some ⟨oc2, od2, .func (PySem.W.fnOf "check_ways" "check_ways" (defArgs s_check_ways) (defBody s_check_ways) (defScope s_check_ways) .none kV2 dc2 pm2 an2 (.ref c2) ct2), sl2⟩) (e2 : PySem.W.codeIn K (.ref c2) "check_ways" = true) (k2 : PySem.W.keepIn K (.ref f2) = true)
    (a3 : PySem.W.nsIn K mainGlobals "check_plan" = some (some (.ref f3))) (l3 : K.lookup f3 = some ⟨oc3, od3, .func (PySem.W.fnOf "check_plan" "check_plan" (defArgs s_check_plan) (defBody s_check_plan) (defScope s_check_plan) .none kV3 dc3 pm3 an3 (.ref c3) ct3), sl3⟩) (e3 : PySem.W.codeIn K (.ref c3) "check_plan" = true) (k3 : PySem.W.keepIn K (.ref f3) = true)
    (a4 : PySem.W.nsIn K mainGlobals "check_merging" = some (some (.ref f4))) (l4 : K.lookup f4 = some ⟨oc4, od4, .func (PySem.W.fnOf "check_merging" "check_merging" (defArgs s_check_merging) (defBody s_check_merging) (defScope s_check_merging) .none kV4 dc4 pm4 an4 (.ref c4) ct4), sl4⟩) (e4 : PySem.W.codeIn K (.ref c4) "check_merging" = true) (k4 : PySem.W.keepIn K (.ref f4) = true)
    (a5 : PySem.W.nsIn K mainGlobals "cost" = some (some (.ref f5))) (l5 : K.lookup f5 = some ⟨oc5, od5, .func (PySem.W.fnOf "cost" "cost" (defArgs s_cost) (defBody s_cost) (defScope s_cost) .none kV5 dc5 pm5 an5 (.ref c5) ct5), sl5⟩) (e5 : PySem.W.codeIn K (.ref c5) "cost" = true) (k5 : PySem.W.keepIn K (.ref f5) = true)
    (a6 : PySem.W.nsIn K mainGlobals "cheapest" = some (some (.ref f6))) (l6 : K.lookup f6 = some ⟨oc6, od6, .func (PySem.W.fnOf "cheapest" "cheapest" (defArgs s_cheapest) (defBody s_cheapest) (defScope s_cheapest) .none kV6 dc6 pm6 an6 (.ref c6) ct6), sl6⟩) (e6 : PySem.W.codeIn K (.ref c6) "cheapest" = true) (k6 : PySem.W.keepIn K (.ref f6) = true)
    (a7 : PySem.W.nsIn K mainGlobals "neighbours" = some (some (.ref f7))) (l7 : K.lookup f7 = some ⟨oc7, od7, .func (PySem.W.fnOf "neighbours" "neighbours" (defArgs s_neighbours) (defBody s_neighbours) (defScope s_neighbours) .none kV7 dc7 pm7 an7 (.ref c7) ct7), sl7⟩) (e7 : PySem.W.codeIn K (.ref c7) "neighbours" = true) (k7 : PySem.W.keepIn K (.ref f7) = true)
    (a8 : PySem.W.nsIn K mainGlobals "bound" = some (some (.ref f8))) (l8 : K.lookup f8 = some ⟨oc8, od8, .func (PySem.W.fnOf "bound" "bound" (defArgs s_bound) (defBody s_bound) (defScope s_bound) .none kV8 dc8 pm8 an8 (.ref c8) ct8), sl8⟩) (e8 : PySem.W.codeIn K (.ref c8) "bound" = true) (k8 : PySem.W.keepIn K (.ref f8) = true)
    (a9 : PySem.W.nsIn K mainGlobals "paper" = some (some (.ref f9))) (l9 : K.lookup f9 = some ⟨oc9, od9, .func (PySem.W.fnOf "paper" "paper" (defArgs s_paper) (defBody s_paper) (defScope s_paper) .none kV9 dc9 pm9 an9 (.ref c9) ct9), sl9⟩) (e9 : PySem.W.codeIn K (.ref c9) "paper" = true) (k9 : PySem.W.keepIn K (.ref f9) = true)
    (a10 : PySem.W.nsIn K mainGlobals "written_plan" = some (some (.ref f10))) (l10 : K.lookup f10 = some ⟨oc10, od10, .func (PySem.W.fnOf "written_plan" "written_plan" (defArgs s_written_plan) (defBody s_written_plan) (defScope s_written_plan) .none kV10 dc10 pm10 an10 (.ref c10) ct10), sl10⟩) (e10 : PySem.W.codeIn K (.ref c10) "written_plan" = true) (k10 : PySem.W.keepIn K (.ref f10) = true)
    (a11 : PySem.W.nsIn K mainGlobals "read_plan" = some (some (.ref f11))) (l11 : K.lookup f11 = some ⟨oc11, od11, .func (PySem.W.fnOf "read_plan" "read_plan" (defArgs s_read_plan) (defBody s_read_plan) (defScope s_read_plan) .none kV11 dc11 pm11 an11 (.ref c11) ct11), sl11⟩) (e11 : PySem.W.codeIn K (.ref c11) "read_plan" = true) (k11 : PySem.W.keepIn K (.ref f11) = true)
    (a12 : PySem.W.nsIn K mainGlobals "_law_begun" = some (some (.ref f12))) (l12 : K.lookup f12 = some ⟨oc12, od12, .func (PySem.W.fnOf "_law_begun" "_law_begun" (defArgs sBegun) (defBody sBegun) (defScope sBegun) .none kV12 dc12 pm12 an12 (.ref c12) ct12), sl12⟩) (e12 : PySem.W.codeIn K (.ref c12) "_law_begun" = true) (k12 : PySem.W.keepIn K (.ref f12) = true)
    (a13 : PySem.W.nsIn K mainGlobals "_law_take" = some (some (.ref f13))) (l13 : K.lookup f13 = some ⟨oc13, od13, .func (PySem.W.fnOf "_law_take" "_law_take" (defArgs sTake) (defBody sTake) (defScope sTake) .none kV13 dc13 pm13 an13 (.ref c13) ct13), sl13⟩) (e13 : PySem.W.codeIn K (.ref c13) "_law_take" = true) (k13 : PySem.W.keepIn K (.ref f13) = true)
    (a14 : PySem.W.nsIn K mainGlobals "_law_alike" = some (some (.ref f14))) (l14 : K.lookup f14 = some ⟨oc14, od14, .func (PySem.W.fnOf "_law_alike" "_law_alike" (defArgs sAlike) (defBody sAlike) (defScope sAlike) .none kV14 dc14 pm14 an14 (.ref c14) ct14), sl14⟩) (e14 : PySem.W.codeIn K (.ref c14) "_law_alike" = true) (k14 : PySem.W.keepIn K (.ref f14) = true)
    (a15 : PySem.W.nsIn K mainGlobals "_law_class" = some (some (.ref f15))) (l15 : K.lookup f15 = some ⟨oc15, od15, .func (PySem.W.fnOf "_law_class" "_law_class" (defArgs sClass) (defBody sClass) (defScope sClass) .none kV15 dc15 pm15 an15 (.ref c15) ct15), sl15⟩) (e15 : PySem.W.codeIn K (.ref c15) "_law_class" = true) (k15 : PySem.W.keepIn K (.ref f15) = true)
    (a16 : PySem.W.nsIn K mainGlobals "_law_told" = some (some (.ref f16))) (l16 : K.lookup f16 = some ⟨oc16, od16, .func (PySem.W.fnOf "_law_told" "_law_told" (defArgs sTold) (defBody sTold) (defScope sTold) .none kV16 dc16 pm16 an16 (.ref c16) ct16), sl16⟩) (e16 : PySem.W.codeIn K (.ref c16) "_law_told" = true) (k16 : PySem.W.keepIn K (.ref f16) = true)
    (a17 : PySem.W.nsIn K mainGlobals "_law_all" = some (some (.ref f17))) (l17 : K.lookup f17 = some ⟨oc17, od17, .func (PySem.W.fnOf "_law_all" "_law_all" (defArgs sAll) (defBody sAll) (defScope sAll) .none kV17 dc17 pm17 an17 (.ref c17) ct17), sl17⟩) (e17 : PySem.W.codeIn K (.ref c17) "_law_all" = true) (k17 : PySem.W.keepIn K (.ref f17) = true)
    (a18 : PySem.W.nsIn K mainGlobals "_law_lengths" = some (some (.ref f18))) (l18 : K.lookup f18 = some ⟨oc18, od18, .func (PySem.W.fnOf "_law_lengths" "_law_lengths" (defArgs s__law_lengths) (defBody s__law_lengths) (defScope s__law_lengths) .none kV18 dc18 pm18 an18 (.ref c18) ct18), sl18⟩) (e18 : PySem.W.codeIn K (.ref c18) "_law_lengths" = true) (k18 : PySem.W.keepIn K (.ref f18) = true)
    (a19 : PySem.W.nsIn K mainGlobals "_law_plan" = some (some (.ref f19))) (l19 : K.lookup f19 = some ⟨oc19, od19, .func (PySem.W.fnOf "_law_plan" "_law_plan" (defArgs s__law_plan) (defBody s__law_plan) (defScope s__law_plan) .none kV19 dc19 pm19 an19 (.ref c19) ct19), sl19⟩) (e19 : PySem.W.codeIn K (.ref c19) "_law_plan" = true) (k19 : PySem.W.keepIn K (.ref f19) = true)
    (a20 : PySem.W.nsIn K mainGlobals "_law_in" = some (some (.ref f20))) (l20 : K.lookup f20 = some ⟨oc20, od20, .func (PySem.W.fnOf "_law_in" "_law_in" (defArgs s__law_in) (defBody s__law_in) (defScope s__law_in) .none kV20 dc20 pm20 an20 (.ref c20) ct20), sl20⟩) (e20 : PySem.W.codeIn K (.ref c20) "_law_in" = true) (k20 : PySem.W.keepIn K (.ref f20) = true)
    (a21 : PySem.W.nsIn K mainGlobals "_law_cost" = some (some (.ref f21))) (l21 : K.lookup f21 = some ⟨oc21, od21, .func (PySem.W.fnOf "_law_cost" "_law_cost" (defArgs s__law_cost) (defBody s__law_cost) (defScope s__law_cost) .none kV21 dc21 pm21 an21 (.ref c21) ct21), sl21⟩) (e21 : PySem.W.codeIn K (.ref c21) "_law_cost" = true) (k21 : PySem.W.keepIn K (.ref f21) = true)
    (a22 : PySem.W.nsIn K mainGlobals "_law_fits" = some (some (.ref f22))) (l22 : K.lookup f22 = some ⟨oc22, od22, .func (PySem.W.fnOf "_law_fits" "_law_fits" (defArgs s__law_fits) (defBody s__law_fits) (defScope s__law_fits) .none kV22 dc22 pm22 an22 (.ref c22) ct22), sl22⟩) (e22 : PySem.W.codeIn K (.ref c22) "_law_fits" = true) (k22 : PySem.W.keepIn K (.ref f22) = true)
    (a23 : PySem.W.nsIn K mainGlobals "_law_bad" = some (some (.ref f23))) (l23 : K.lookup f23 = some ⟨oc23, od23, .func (PySem.W.fnOf "_law_bad" "_law_bad" (defArgs s__law_bad) (defBody s__law_bad) (defScope s__law_bad) .none kV23 dc23 pm23 an23 (.ref c23) ct23), sl23⟩) (e23 : PySem.W.codeIn K (.ref c23) "_law_bad" = true) (k23 : PySem.W.keepIn K (.ref f23) = true)
    (a24 : PySem.W.nsIn K mainGlobals "law" = some (some (.ref f24))) (l24 : K.lookup f24 = some ⟨oc24, od24, .func (PySem.W.fnOf "law" "law" (defArgs sLaw) (defBody sLaw) (defScope sLaw) .none kV24 dc24 pm24 an24 (.ref c24) ct24), sl24⟩) (e24 : PySem.W.codeIn K (.ref c24) "law" = true) (k24 : PySem.W.keepIn K (.ref f24) = true)
    (z0 : PySem.W.nsIn K mainGlobals "isinstance" = some none)
    (z1 : PySem.W.nsIn K mainGlobals "int" = some none)
    (z2 : PySem.W.nsIn K mainGlobals "bool" = some none)
    (z3 : PySem.W.nsIn K mainGlobals "str" = some none)
    (z4 : PySem.W.nsIn K mainGlobals "list" = some none)
    (z5 : PySem.W.nsIn K mainGlobals "tuple" = some none)
    (z6 : PySem.W.nsIn K mainGlobals "len" = some none)
    (z7 : PySem.W.nsIn K mainGlobals "all" = some none)
    (z8 : PySem.W.nsIn K mainGlobals "zip" = some none)
    (z9 : PySem.W.nsIn K mainGlobals "enumerate" = some none)
    (z10 : PySem.W.nsIn K mainGlobals "ord" = some none)
    (z11 : PySem.W.nsIn K mainGlobals "range" = some none)
    (z12 : PySem.W.nsIn K mainGlobals "sorted" = some none)
    (z13 : PySem.W.nsIn K mainGlobals "max" = some none)
    (z14 : PySem.W.nsIn K mainGlobals "min" = some none)
    (y0 : PySem.W.nsIn K mainGlobals "MOST_LENGTHS" = some (some (.int 40 t1)))
    (y1 : PySem.W.nsIn K mainGlobals "MOST_LENGTH" = some (some (.int 1000000 t2)))
    (y2 : PySem.W.nsIn K mainGlobals "LEAST_WAYS" = some (some (.int 2 t3)))
    (y3 : PySem.W.nsIn K mainGlobals "MOST_WAYS" = some (some (.int 6 t4)))
    (zzValueError : PySem.W.nsIn K mainGlobals "ValueError" = some none)
    (zzsum : PySem.W.nsIn K mainGlobals "sum" = some none)
    (rL : (recsOf q).find? (fun e => e.name == ("check_lengths" : Str)) = some dL) (hL : K.lookup c1 = some ⟨eL, ddL, .fields vsL, stL⟩) (iL : vsL[11]? = some (.ref pL)) (nL' : K.lookup pL = none)
    (rZ : (recsOf q).find? (fun e => e.name == ("law" : Str)) = some dZ) (hZ : K.lookup c24 = some ⟨eZ, ddZ, .fields vsZ, stZ⟩) (iZ : vsZ[11]? = some (.ref pZ)) (nZ' : K.lookup pZ = none)
    (dZL' : pZ ≠ pL)
    : LamX.LawAtS l w K CX0 85 63 "_law_script" mg fa h := by
  have efa := hfa.symm.trans (PySem.W.mg_of X G a24)
  cases efa
  have gL := tabs "check_lengths" dL c1 pL rL (tab_in (st := s_check_lengths) a1 l1 hL iL)
  have gZ := tabs "law" dZ c24 pZ rZ (tab_in (st := sLaw) a24 l24 hZ iZ)
  have T : Txt K mg := ⟨PySem.W.mg_none_of X G z0, PySem.W.mg_none_of X G z1, PySem.W.mg_none_of X G z2, PySem.W.mg_none_of X G z3, PySem.W.mg_none_of X G z4, PySem.W.mg_none_of X G z5, PySem.W.mg_none_of X G z6, PySem.W.mg_none_of X G z7, PySem.W.mg_none_of X G z8, PySem.W.mg_none_of X G z9, PySem.W.mg_none_of X G z10, PySem.W.mg_none_of X G z11, PySem.W.mg_none_of X G z12, PySem.W.mg_none_of X G z13, PySem.W.mg_none_of X G z14, ⟨t1, PySem.W.mg_of X G y0⟩, ⟨t2, PySem.W.mg_of X G y1⟩, ⟨t3, PySem.W.mg_of X G y2⟩, ⟨t4, PySem.W.mg_of X G y3⟩⟩
  have ZValueError : mg "ValueError" = none := PySem.W.mg_none_of X G zzValueError
  have Zsum : mg "sum" = none := PySem.W.mg_none_of X G zzsum
  have D0 := def_at (st := sIsNumber) X G a0 l0 e0 k0
  have D1 := def_at (st := s_check_lengths) X G a1 l1 e1 k1
  have D2 := def_at (st := s_check_ways) X G a2 l2 e2 k2
  have D3 := def_at (st := s_check_plan) X G a3 l3 e3 k3
  have D4 := def_at (st := s_check_merging) X G a4 l4 e4 k4
  have D5 := def_at (st := s_cost) X G a5 l5 e5 k5
  have D6 := def_at (st := s_cheapest) X G a6 l6 e6 k6
  have D7 := def_at (st := s_neighbours) X G a7 l7 e7 k7
  have D8 := def_at (st := s_bound) X G a8 l8 e8 k8
  have D9 := def_at (st := s_paper) X G a9 l9 e9 k9
  have D10 := def_at (st := s_written_plan) X G a10 l10 e10 k10
  have D11 := def_at (st := s_read_plan) X G a11 l11 e11 k11
  have D12 := def_at (st := sBegun) X G a12 l12 e12 k12
  have D13 := def_at (st := sTake) X G a13 l13 e13 k13
  have D14 := def_at (st := sAlike) X G a14 l14 e14 k14
  have D15 := def_at (st := sClass) X G a15 l15 e15 k15
  have D16 := def_at (st := sTold) X G a16 l16 e16 k16
  have D17 := def_at (st := sAll) X G a17 l17 e17 k17
  have D18 := def_at (st := s__law_lengths) X G a18 l18 e18 k18
  have D19 := def_at (st := s__law_plan) X G a19 l19 e19 k19
  have D20 := def_at (st := s__law_in) X G a20 l20 e20 k20
  have D21 := def_at (st := s__law_cost) X G a21 l21 e21 k21
  have D22 := def_at (st := s__law_fits) X G a22 l22 e22 k22
  have D23 := def_at (st := s__law_bad) X G a23 l23 e23 k23
  have D24 := def_at (st := sLaw) X G a24 l24 e24 k24
  refine ⟨PySem.W.fnOf "law" "law" (defArgs sLaw) (defBody sLaw) (defScope sLaw) .none kV24 dc24 pm24 an24 (.ref c24) ct24, [(c1, pL), (c24, pZ)], spT [pL] (spLaw7 K pL pZ), ?_, ?_, ?_, fun s v => .of_eq rfl, ?_, fun base KB GB TB => ?_⟩
  · intro p hp
    simp only [List.mem_cons, List.not_mem_nil, or_false] at hp
    rcases hp with rfl | rfl
    · exact gL.2
    · exact gZ.2
  · intro p hp
    simp only [List.mem_cons, List.not_mem_nil, or_false] at hp
    rcases hp with rfl | rfl
    · exact nL'
    · exact nZ'
  · intro p hp
    simp only [List.mem_cons, List.not_mem_nil, or_false] at hp
    rcases hp with rfl | rfl
    · exact gL.1
    · exact gZ.1
  · intro H a ns hl hb hT hS
    have hT2 : ∀ b ∈ [pL], H b = some (.tbl #[]) := fun b hb => by
      simp only [List.mem_cons, List.not_mem_nil, or_false] at hb
      rcases hb with rfl
      · exact hT (c1, b) (by simp)
    have hFZ : H pZ = some (.tbl #[]) := hT (c24, pZ) (by simp)
    refine ⟨hT2, a, ns, rfl, ?_, ext_in (by simp), .nil ((ext_out (by simp [dZL'])).trans hFZ), fun H' tL => ⟨fun b hb => ?_, fun _ => rfl⟩⟩
    · rcases hS with (hS | ⟨o, hS⟩) | hS
      · refine .inl (.inl ?_)
        rw [ext_out fun hb => by rw [hT2 a hb] at hS; cases hS]
        exact hS
      · refine .inl (.inr ⟨o, ?_⟩)
        rw [ext_out fun hb => by rw [hT2 a hb] at hS; cases hS]
        exact hS
      · exact .inr hS
    · simp only [List.mem_cons, List.not_mem_nil, or_false] at hb
      rcases hb with rfl
      · exact tL
  · have bL := TB (c1, pL) (by simp)
    have bZ := TB (c24, pZ) (by simp)
    let CC : Nat → Addr := listC [CC0, CC1, CC2, CC3, CC4, CC5, CC6, CC7, CC8, CC9, CC10, CC11, CC12, CC13, CC14]
    have gSE := PySem.W.mg_of X G sg
    have G15 : Cls15 mg CC := ⟨PySem.W.mg_of X G cg0, PySem.W.mg_of X G cg1, PySem.W.mg_of X G cg2, PySem.W.mg_of X G cg3, PySem.W.mg_of X G cg4, PySem.W.mg_of X G cg5, PySem.W.mg_of X G cg6, PySem.W.mg_of X G cg7, PySem.W.mg_of X G cg8, PySem.W.mg_of X G cg9, PySem.W.mg_of X G cg10, PySem.W.mg_of X G cg11, PySem.W.mg_of X G cg12, PySem.W.mg_of X G cg13, PySem.W.mg_of X G cg14⟩
    have cl15 : ∀ i < 15, PySem.W.isClsIn K (CC i) = true ∧ PySem.W.typeIn K (.ref (CC i)) = some (.type "type") := fun i hi => match i, hi with
      | 0, _ => ⟨cc0, cy0⟩
      | 1, _ => ⟨cc1, cy1⟩
      | 2, _ => ⟨cc2, cy2⟩
      | 3, _ => ⟨cc3, cy3⟩
      | 4, _ => ⟨cc4, cy4⟩
      | 5, _ => ⟨cc5, cy5⟩
      | 6, _ => ⟨cc6, cy6⟩
      | 7, _ => ⟨cc7, cy7⟩
      | 8, _ => ⟨cc8, cy8⟩
      | 9, _ => ⟨cc9, cy9⟩
      | 10, _ => ⟨cc10, cy10⟩
      | 11, _ => ⟨cc11, cy11⟩
      | 12, _ => ⟨cc12, cy12⟩
      | 13, _ => ⟨cc13, cy13⟩
      | 14, _ => ⟨cc14, cy14⟩
    have oe4 : OneE K SE CC4 := ⟨⟨hg4, hk4, hs4, hd4, ha4, ohn, oht, hm4⟩, hv4, exm_mk sbe scl sty hS4⟩
    have o15_4 : Own15 K CC CC4 4 := own15_mk (C := CC) (j := 4) (by decide) oe4 cl15 fun i hi n => match i, hi, n with
      | 0, _, _ => ⟨ne4_0, no4_0⟩
      | 1, _, _ => ⟨ne4_1, no4_1⟩
      | 2, _, _ => ⟨ne4_2, no4_2⟩
      | 3, _, _ => ⟨ne4_3, no4_3⟩
      | 4, _, n => absurd rfl n
      | 5, _, _ => ⟨ne4_5, no4_5⟩
      | 6, _, _ => ⟨ne4_6, no4_6⟩
      | 7, _, _ => ⟨ne4_7, no4_7⟩
      | 8, _, _ => ⟨ne4_8, no4_8⟩
      | 9, _, _ => ⟨ne4_9, no4_9⟩
      | 10, _, _ => ⟨ne4_10, no4_10⟩
      | 11, _, _ => ⟨ne4_11, no4_11⟩
      | 12, _, _ => ⟨ne4_12, no4_12⟩
      | 13, _, _ => ⟨ne4_13, no4_13⟩
      | 14, _, _ => ⟨ne4_14, no4_14⟩
    have oe5 : OneE K SE CC5 := ⟨⟨hg5, hk5, hs5, hd5, ha5, ohn, oht, hm5⟩, hv5, exm_mk sbe scl sty hS5⟩
    have o15_5 : Own15 K CC CC5 5 := own15_mk (C := CC) (j := 5) (by decide) oe5 cl15 fun i hi n => match i, hi, n with
      | 0, _, _ => ⟨ne5_0, no5_0⟩
      | 1, _, _ => ⟨ne5_1, no5_1⟩
      | 2, _, _ => ⟨ne5_2, no5_2⟩
      | 3, _, _ => ⟨ne5_3, no5_3⟩
      | 4, _, _ => ⟨ne5_4, no5_4⟩
      | 5, _, n => absurd rfl n
      | 6, _, _ => ⟨ne5_6, no5_6⟩
      | 7, _, _ => ⟨ne5_7, no5_7⟩
      | 8, _, _ => ⟨ne5_8, no5_8⟩
      | 9, _, _ => ⟨ne5_9, no5_9⟩
      | 10, _, _ => ⟨ne5_10, no5_10⟩
      | 11, _, _ => ⟨ne5_11, no5_11⟩
      | 12, _, _ => ⟨ne5_12, no5_12⟩
      | 13, _, _ => ⟨ne5_13, no5_13⟩
      | 14, _, _ => ⟨ne5_14, no5_14⟩
    have oe6 : OneE K SE CC6 := ⟨⟨hg6, hk6, hs6, hd6, ha6, ohn, oht, hm6⟩, hv6, exm_mk sbe scl sty hS6⟩
    have o15_6 : Own15 K CC CC6 6 := own15_mk (C := CC) (j := 6) (by decide) oe6 cl15 fun i hi n => match i, hi, n with
      | 0, _, _ => ⟨ne6_0, no6_0⟩
      | 1, _, _ => ⟨ne6_1, no6_1⟩
      | 2, _, _ => ⟨ne6_2, no6_2⟩
      | 3, _, _ => ⟨ne6_3, no6_3⟩
      | 4, _, _ => ⟨ne6_4, no6_4⟩
      | 5, _, _ => ⟨ne6_5, no6_5⟩
      | 6, _, n => absurd rfl n
      | 7, _, _ => ⟨ne6_7, no6_7⟩
      | 8, _, _ => ⟨ne6_8, no6_8⟩
      | 9, _, _ => ⟨ne6_9, no6_9⟩
      | 10, _, _ => ⟨ne6_10, no6_10⟩
      | 11, _, _ => ⟨ne6_11, no6_11⟩
      | 12, _, _ => ⟨ne6_12, no6_12⟩
      | 13, _, _ => ⟨ne6_13, no6_13⟩
      | 14, _, _ => ⟨ne6_14, no6_14⟩
    have X4 : PlE K mg "BadRoom" CC4 := ⟨xE4, PySem.W.mg_of X G cg4, kc4, hs4, cy4⟩
    have X5 : PlE K mg "BadLengths" CC5 := ⟨xE5, PySem.W.mg_of X G cg5, kc5, hs5, cy5⟩
    have X6 : PlE K mg "BadPlan" CC6 := ⟨xE6, PySem.W.mg_of X G cg6, kc6, hs6, cy6⟩
    have erM : ErrP K SE CC CC4 4 := ⟨o15_4, oe4.se, by decide⟩
    have erL : ErrP K SE CC CC5 5 := ⟨o15_5, oe5.se, by decide⟩
    have erP : ErrP K SE CC CC6 6 := ⟨o15_6, oe6.se, by decide⟩
    have P0 : Cal l.prog w K mg base CX0 1 "is_number" ["value"] (spNum K) := is_number_ok D0 T
    have P1 : Cal l.prog w K mg base CX0 3 "check_lengths" ["lengths"] (spCheckLengths K pL) := check_lengths_ok D1 T (tabB_of bL) P0
    have P2 : Cal l.prog w K mg base CX0 2 "check_ways" ["ways"] (spCheckWays) := check_ways_ok D2 T P0
    have P3 : Cal l.prog w K mg base CX0 2 "check_plan" ["lengths", "ways", "plan"] (spCheckPlan K) := check_plan_ok D3 T P0
    have P4 : Cal l.prog w K mg base CX0 4 "check_merging" ["lengths", "ways"] (spCheckMerging K pL) := check_merging_ok D4 P1 P2
    have P5 : Cal l.prog w K mg base CX0 5 "cost" ["lengths", "ways", "plan"] (spCost K pL) := cost_ok D5 T P4 P3
    have P12 : Cal l.prog w K mg base CX0 1 "_law_begun" ["_law_script"] (spBegun K) := begun_ok D12 T
    have P13 : Cal l.prog w K mg base CX0 1 "_law_take" ["_law_box", "_law_many"] (spTake) := take_ok D13
    have P14 : Cal l.prog w K mg base CX0 42 "_law_alike" ["_law_found", "_law_due"] (spAlike K 40) := alike_ok D14 T 40
    have P15 : CalW l.prog w K mg base 1 "_law_class" ["_law_e"] (spClass K CC) := class_ok D15 T G15 ZValueError
    have P16 : Cal l.prog w K mg base CX0 8 "_law_told" ["_law_work"] (spTold l.prog w K mg base SE CC 7) := told_ok D16 7 (by decide) gSE P15
    have P17 : Cal l.prog w K mg base CX0 43 "_law_all" ["_law_works", "_law_due"] (spAll l.prog w K mg base SE CC 7) := all_ok D17 7 42 (by decide) (by decide) P16 P14
    have P18 : Cal l.prog w K mg base CX0 2 "_law_lengths" ["_law_box", "_law_most"] (spLens) := lens_ok D18 T P13
    have P19 : Cal l.prog w K mg base CX0 2 "_law_plan" ["_law_box", "_law_runs", "_law_ways"] (spLPlan K) := lplan_ok D19 T P13
    have P20 : Cal l.prog w K mg base CX0 42 "_law_in" ["_law_plan_here"] (spIn K 40) := in_ok D20 T 40
    have P21 : Cal l.prog w K mg base CX0 83 "_law_cost" ["_law_lengths_here", "_law_plan_here"] (spLCost K 40) := lcost_ok D21 T Zsum P20 40 (Nat.le_refl _)
    have PinG : Cal l.prog w K mg base CX0 52 "_law_in" ["_law_plan_here"] (spInG K 50) := inG_ok D20 T 50
    have PfitG : Cal l.prog w K mg base CX0 52 "_law_fits" ["_law_plan_here", "_law_ways"] (spFitG K 50) := fitG_ok D22 T 50 (by decide)
    have P23 : Cal l.prog w K mg base CX0 53 "_law_bad" ["_law_box", "_law_many", "_law_ways", "_law_plan_here"] (spBadP K) := badP_ok D23 T P13 PinG PfitG
    have PlenE : Cal l.prog w K mg base (L2.CX l.prog w) 3 "check_lengths" ["lengths"] (spLenE K CC5 pL) := check_lengthsE_ok D1 T (tabB_of bL) X5 P0
    have PwayE : Cal l.prog w K mg base (L2.CX l.prog w) 2 "check_ways" ["ways"] (spWaysE CC4) := check_waysE_ok D2 T X4 P0
    have PmergE : Cal l.prog w K mg base (L2.CX l.prog w) 4 "check_merging" ["lengths", "ways"] (spMergB K CC5 CC4 pL 0) := check_mergingE_ok D4 P1 PlenE PwayE
    have Pe_cost : Cal l.prog w K mg base (L2.CX l.prog w) 5 "cost" ["lengths", "ways", "plan"] (spMergB K CC5 CC4 pL 1) := costE_ok D5 PmergE
    have Pe_cheapest : Cal l.prog w K mg base (L2.CX l.prog w) 5 "cheapest" ["lengths", "ways"] (spMergB K CC5 CC4 pL 0) := cheapestE_ok D6 PmergE
    have Pe_neighbours : Cal l.prog w K mg base (L2.CX l.prog w) 5 "neighbours" ["lengths", "ways"] (spMergB K CC5 CC4 pL 0) := neighboursE_ok D7 PmergE
    have Pe_paper : Cal l.prog w K mg base (L2.CX l.prog w) 5 "paper" ["lengths", "ways"] (spMergB K CC5 CC4 pL 0) := paperE_ok D9 PmergE
    have Pe_bound : Cal l.prog w K mg base (L2.CX l.prog w) 5 "bound" ["lengths", "ways", "told"] (spMergB K CC5 CC4 pL 1) := boundE_ok D8 PmergE
    have Pe_written_plan : Cal l.prog w K mg base (L2.CX l.prog w) 5 "written_plan" ["lengths", "ways", "plan"] (spMergB K CC5 CC4 pL 1) := written_planE_ok D10 PmergE
    have Pe_read_plan : Cal l.prog w K mg base (L2.CX l.prog w) 5 "read_plan" ["lengths", "ways", "text"] (spMergB K CC5 CC4 pL 1) := read_planE_ok D11 PmergE
    have PplanE : Cal l.prog w K mg base (L2.CX l.prog w) 2 "check_plan" ["lengths", "ways", "plan"] (spPlanE K CC6) := check_planE_ok D3 T X6 P0
    have Pp_cost : Cal l.prog w K mg base (L2.CX l.prog w) 5 "cost" ["lengths", "ways", "plan"] (spPlanB K CC6 pL) := costP_ok D5 P4 PplanE
    have Pp_written_plan : Cal l.prog w K mg base (L2.CX l.prog w) 5 "written_plan" ["lengths", "ways", "plan"] (spPlanB K CC6 pL) := written_planP_ok D10 P4 PplanE
    exact FnOk.tables (law7_fn l24 e24 T bZ erL erM erP ⟨P12, P13, P18, P19, P5, P21, P14, P23, P17, Pe_cost, Pe_cheapest, Pe_neighbours, Pe_paper, Pe_bound, Pe_written_plan, Pe_read_plan, Pp_cost, Pp_written_plan⟩)
end RS
set_option Elab.async false
open PySem PySem.W PyProof.Rows in
set_option maxRecDepth 100000 in
set_option maxHeartbeats 0 in
theorem PySem.Challenge.cw_runsorts_k07_plans_and_costs_holds : PySem.Challenge.rw_runsorts_k07_plans_and_costs.Holds := by
  w_on; o_law; k_head; (case hw => w_witness2)
  k_fill
  refine RS.walk_tabs (l := PySem.Challenge.rw_runsorts_k07_plans_and_costs) (n := 63) (k := 85) (x := "_law_script") rfl (by decide) rfl ⟨rfl, by decide, by decide⟩ (fun w h Y => PySem.W.km_in_of Y) ?F
  case F =>
    intro w mg fa h KX G hmg tabs
    refine' RS.all_mk tabs KX G hmg ?sg ?scl ?sty ?sbe ?srd ?sga ?sfi ?ohn ?oht ?cg0 ?cc0 ?cy0 ?cg1 ?cc1 ?cy1 ?cg2 ?cc2 ?cy2 ?cg3 ?cc3 ?cy3 ?cg4 ?cc4 ?cy4 ?cg5 ?cc5 ?cy5 ?cg6 ?cc6 ?cy6 ?cg7 ?cc7 ?cy7 ?cg8 ?cc8 ?cy8 ?cg9 ?cc9 ?cy9 ?cg10 ?cc10 ?cy10 ?cg11 ?cc11 ?cy11 ?cg12 ?cc12 ?cy12 ?cg13 ?cc13 ?cy13 ?cg14 ?cc14 ?cy14 ?hg4 ?hk4 ?hs4 ?hd4 ?ha4 ?hm4 ?hv4 ?hS4 ?kc4 ?no4_0 ?ne4_0 ?no4_1 ?ne4_1 ?no4_2 ?ne4_2 ?no4_3 ?ne4_3 ?no4_5 ?ne4_5 ?no4_6 ?ne4_6 ?no4_7 ?ne4_7 ?no4_8 ?ne4_8 ?no4_9 ?ne4_9 ?no4_10 ?ne4_10 ?no4_11 ?ne4_11 ?no4_12 ?ne4_12 ?no4_13 ?ne4_13 ?no4_14 ?ne4_14 ?hg5 ?hk5 ?hs5 ?hd5 ?ha5 ?hm5 ?hv5 ?hS5 ?kc5 ?no5_0 ?ne5_0 ?no5_1 ?ne5_1 ?no5_2 ?ne5_2 ?no5_3 ?ne5_3 ?no5_4 ?ne5_4 ?no5_6 ?ne5_6 ?no5_7 ?ne5_7 ?no5_8 ?ne5_8 ?no5_9 ?ne5_9 ?no5_10 ?ne5_10 ?no5_11 ?ne5_11 ?no5_12 ?ne5_12 ?no5_13 ?ne5_13 ?no5_14 ?ne5_14 ?hg6 ?hk6 ?hs6 ?hd6 ?ha6 ?hm6 ?hv6 ?hS6 ?kc6 ?no6_0 ?ne6_0 ?no6_1 ?ne6_1 ?no6_2 ?ne6_2 ?no6_3 ?ne6_3 ?no6_4 ?ne6_4 ?no6_5 ?ne6_5 ?no6_7 ?ne6_7 ?no6_8 ?ne6_8 ?no6_9 ?ne6_9 ?no6_10 ?ne6_10 ?no6_11 ?ne6_11 ?no6_12 ?ne6_12 ?no6_13 ?ne6_13 ?no6_14 ?ne6_14 ?xE4 ?xE5 ?xE6 ?a0 ?l0 ?e0 ?k0 ?a1 ?l1 ?e1 ?k1 ?a2 ?l2 ?e2 ?k2 ?a3 ?l3 ?e3 ?k3 ?a4 ?l4 ?e4 ?k4 ?a5 ?l5 ?e5 ?k5 ?a6 ?l6 ?e6 ?k6 ?a7 ?l7 ?e7 ?k7 ?a8 ?l8 ?e8 ?k8 ?a9 ?l9 ?e9 ?k9 ?a10 ?l10 ?e10 ?k10 ?a11 ?l11 ?e11 ?k11 ?a12 ?l12 ?e12 ?k12 ?a13 ?l13 ?e13 ?k13 ?a14 ?l14 ?e14 ?k14 ?a15 ?l15 ?e15 ?k15 ?a16 ?l16 ?e16 ?k16 ?a17 ?l17 ?e17 ?k17 ?a18 ?l18 ?e18 ?k18 ?a19 ?l19 ?e19 ?k19 ?a20 ?l20 ?e20 ?k20 ?a21 ?l21 ?e21 ?k21 ?a22 ?l22 ?e22 ?k22 ?a23 ?l23 ?e23 ?k23 ?a24 ?l24 ?e24 ?k24 ?z0 ?z1 ?z2 ?z3 ?z4 ?z5 ?z6 ?z7 ?z8 ?z9 ?z10 ?z11 ?z12 ?z13 ?z14 ?y0 ?y1 ?y2 ?y3 ?zzValueError ?zzsum ?rL ?hL ?iL ?nL2 ?rZ ?hZ ?iZ ?nZ2 ?dZL2
    (case sg => k_is)
    (case scl => k_is)
    (case sty => k_is)
    (case sbe => k_is)
    (case srd => k_is)
    (case sga => k_is)
    (case sfi => k_is)
    (case ohn => k_is)
    (case oht => k_is)
    (case cg0 => k_is)
    (case cc0 => k_is)
    (case cy0 => k_is)
    (case cg1 => k_is)
    (case cc1 => k_is)
    (case cy1 => k_is)
    (case cg2 => k_is)
    (case cc2 => k_is)
    (case cy2 => k_is)
    (case cg3 => k_is)
    (case cc3 => k_is)
    (case cy3 => k_is)
    (case cg4 => k_is)
    (case cc4 => k_is)
    (case cy4 => k_is)
    (case cg5 => k_is)
    (case cc5 => k_is)
    (case cy5 => k_is)
    (case cg6 => k_is)
    (case cc6 => k_is)
    (case cy6 => k_is)
    (case cg7 => k_is)
    (case cc7 => k_is)
    (case cy7 => k_is)
    (case cg8 => k_is)
    (case cc8 => k_is)
    (case cy8 => k_is)
    (case cg9 => k_is)
    (case cc9 => k_is)
    (case cy9 => k_is)
    (case cg10 => k_is)
    (case cc10 => k_is)
    (case cy10 => k_is)
    (case cg11 => k_is)
    (case cc11 => k_is)
    (case cy11 => k_is)
    (case cg12 => k_is)
    (case cc12 => k_is)
    (case cy12 => k_is)
    (case cg13 => k_is)
    (case cc13 => k_is)
    (case cy13 => k_is)
    (case cg14 => k_is)
    (case cc14 => k_is)
    (case cy14 => k_is)
    (case hg4 => k_is)
    (case hk4 => k_is)
    (case hs4 => k_is)
    (case hd4 => k_is)
    (case ha4 => k_is)
    (case hm4 => k_is)
    (case hv4 => k_is)
    (case hS4 => k_is)
    (case kc4 => k_is)
    (case no4_0 => k_is)
    (case ne4_0 => decide)
    (case no4_1 => k_is)
    (case ne4_1 => decide)
    (case no4_2 => k_is)
    (case ne4_2 => decide)
    (case no4_3 => k_is)
    (case ne4_3 => decide)
    (case no4_5 => k_is)
    (case ne4_5 => decide)
    (case no4_6 => k_is)
    (case ne4_6 => decide)
    (case no4_7 => k_is)
    (case ne4_7 => decide)
    (case no4_8 => k_is)
    (case ne4_8 => decide)
    (case no4_9 => k_is)
    (case ne4_9 => decide)
    (case no4_10 => k_is)
    (case ne4_10 => decide)
    (case no4_11 => k_is)
    (case ne4_11 => decide)
    (case no4_12 => k_is)
    (case ne4_12 => decide)
    (case no4_13 => k_is)
    (case ne4_13 => decide)
    (case no4_14 => k_is)
    (case ne4_14 => decide)
    (case hg5 => k_is)
    (case hk5 => k_is)
    (case hs5 => k_is)
    (case hd5 => k_is)
    (case ha5 => k_is)
    (case hm5 => k_is)
    (case hv5 => k_is)
    (case hS5 => k_is)
    (case kc5 => k_is)
    (case no5_0 => k_is)
    (case ne5_0 => decide)
    (case no5_1 => k_is)
    (case ne5_1 => decide)
    (case no5_2 => k_is)
    (case ne5_2 => decide)
    (case no5_3 => k_is)
    (case ne5_3 => decide)
    (case no5_4 => k_is)
    (case ne5_4 => decide)
    (case no5_6 => k_is)
    (case ne5_6 => decide)
    (case no5_7 => k_is)
    (case ne5_7 => decide)
    (case no5_8 => k_is)
    (case ne5_8 => decide)
    (case no5_9 => k_is)
    (case ne5_9 => decide)
    (case no5_10 => k_is)
    (case ne5_10 => decide)
    (case no5_11 => k_is)
    (case ne5_11 => decide)
    (case no5_12 => k_is)
    (case ne5_12 => decide)
    (case no5_13 => k_is)
    (case ne5_13 => decide)
    (case no5_14 => k_is)
    (case ne5_14 => decide)
    (case hg6 => k_is)
    (case hk6 => k_is)
    (case hs6 => k_is)
    (case hd6 => k_is)
    (case ha6 => k_is)
    (case hm6 => k_is)
    (case hv6 => k_is)
    (case hS6 => k_is)
    (case kc6 => k_is)
    (case no6_0 => k_is)
    (case ne6_0 => decide)
    (case no6_1 => k_is)
    (case ne6_1 => decide)
    (case no6_2 => k_is)
    (case ne6_2 => decide)
    (case no6_3 => k_is)
    (case ne6_3 => decide)
    (case no6_4 => k_is)
    (case ne6_4 => decide)
    (case no6_5 => k_is)
    (case ne6_5 => decide)
    (case no6_7 => k_is)
    (case ne6_7 => decide)
    (case no6_8 => k_is)
    (case ne6_8 => decide)
    (case no6_9 => k_is)
    (case ne6_9 => decide)
    (case no6_10 => k_is)
    (case ne6_10 => decide)
    (case no6_11 => k_is)
    (case ne6_11 => decide)
    (case no6_12 => k_is)
    (case ne6_12 => decide)
    (case no6_13 => k_is)
    (case ne6_13 => decide)
    (case no6_14 => k_is)
    (case ne6_14 => decide)
    (case xE4 => k_exc)
    (case xE5 => k_exc)
    (case xE6 => k_exc)
    (case a0 => k_is)
    (case l0 => k_is)
    (case e0 => k_is)
    (case k0 => k_is)
    (case a1 => k_is)
    (case l1 => k_is)
    (case e1 => k_is)
    (case k1 => k_is)
    (case a2 => k_is)
    (case l2 => k_is)
    (case e2 => k_is)
    (case k2 => k_is)
    (case a3 => k_is)
    (case l3 => k_is)
    (case e3 => k_is)
    (case k3 => k_is)
    (case a4 => k_is)
    (case l4 => k_is)
    (case e4 => k_is)
    (case k4 => k_is)
    (case a5 => k_is)
    (case l5 => k_is)
    (case e5 => k_is)
    (case k5 => k_is)
    (case a6 => k_is)
    (case l6 => k_is)
    (case e6 => k_is)
    (case k6 => k_is)
    (case a7 => k_is)
    (case l7 => k_is)
    (case e7 => k_is)
    (case k7 => k_is)
    (case a8 => k_is)
    (case l8 => k_is)
    (case e8 => k_is)
    (case k8 => k_is)
    (case a9 => k_is)
    (case l9 => k_is)
    (case e9 => k_is)
    (case k9 => k_is)
    (case a10 => k_is)
    (case l10 => k_is)
    (case e10 => k_is)
    (case k10 => k_is)
    (case a11 => k_is)
    (case l11 => k_is)
    (case e11 => k_is)
    (case k11 => k_is)
    (case a12 => k_is)
    (case l12 => k_is)
    (case e12 => k_is)
    (case k12 => k_is)
    (case a13 => k_is)
    (case l13 => k_is)
    (case e13 => k_is)
    (case k13 => k_is)
    (case a14 => k_is)
    (case l14 => k_is)
    (case e14 => k_is)
    (case k14 => k_is)
    (case a15 => k_is)
    (case l15 => k_is)
    (case e15 => k_is)
    (case k15 => k_is)
    (case a16 => k_is)
    (case l16 => k_is)
    (case e16 => k_is)
    (case k16 => k_is)
    (case a17 => k_is)
    (case l17 => k_is)
    (case e17 => k_is)
    (case k17 => k_is)
    (case a18 => k_is)
    (case l18 => k_is)
    (case e18 => k_is)
    (case k18 => k_is)
    (case a19 => k_is)
    (case l19 => k_is)
    (case e19 => k_is)
    (case k19 => k_is)
    (case a20 => k_is)
    (case l20 => k_is)
    (case e20 => k_is)
    (case k20 => k_is)
    (case a21 => k_is)
    (case l21 => k_is)
    (case e21 => k_is)
    (case k21 => k_is)
    (case a22 => k_is)
    (case l22 => k_is)
    (case e22 => k_is)
    (case k22 => k_is)
    (case a23 => k_is)
    (case l23 => k_is)
    (case e23 => k_is)
    (case k23 => k_is)
    (case a24 => k_is)
    (case l24 => k_is)
    (case e24 => k_is)
    (case k24 => k_is)
    (case z0 => k_is)
    (case z1 => k_is)
    (case z2 => k_is)
    (case z3 => k_is)
    (case z4 => k_is)
    (case z5 => k_is)
    (case z6 => k_is)
    (case z7 => k_is)
    (case z8 => k_is)
    (case z9 => k_is)
    (case z10 => k_is)
    (case z11 => k_is)
    (case z12 => k_is)
    (case z13 => k_is)
    (case z14 => k_is)
    (case y0 => k_is)
    (case y1 => k_is)
    (case y2 => k_is)
    (case y3 => k_is)
    (case zzValueError => k_is)
    (case zzsum => k_is)
    (case rL => rfl)
    (case hL => k_is)
    (case iL => rfl)
    (case nL2 => first | kernel_rfl | rfl)
    (case rZ => rfl)
    (case hZ => k_is)
    (case iZ => rfl)
    (case nZ2 => first | kernel_rfl | rfl)
    (case dZL2 => decide)
