import PyProof.Rows.All
import Wide.All
import OpenK.AllK
import Wide.FinOn
import HandS.ForMost
import HandS.AnyAll
import HandS.GenList
import HandS.IsInst
import HandS.Zip
import HandS.Deep
import HandS.StrMore
import HandS.Codes
import HandS.FStr
import KE.KDictZip
import HandS.More
import HandS.Wide
import HandS.Text
import PyProof.AutoSeq1
import HandS.Lambda
import HandS.ExcOwn
import HandS.TupAny
import HandS.HotCalls
import HandS.ExcIs
import HandS.ExcField
import KE.KExcIs
import HandS.ExcInit
import HandS.ClsMeth
import HandS.WordsExc
import HandS.Iter
import HandS.Conv
import HandS.SortInts
import HandS.EndTab
import PySem.Challenge.RW_runsorts_k22_texts_refused
set_option Elab.async false
set_option maxRecDepth 100000
set_option maxHeartbeats 4000000
namespace GX
open PySem PySem.Spec PyProof.Rows L2

/-- the table of a def's code objects, whatever has come into it -/
def TabE (P : Addr) : Heap → Prop := fun g =>
  ∃ rs : Array Value, g.get? P = some { cls := .none, data := .fields rs } ∧ TriplesOk rs.toList
def Tab (H : Hp) (P : Addr) : Prop := H P = some (.ext (TabE P))
theorem tabE_stable {P : Addr} : ∀ g1 g2 : Heap, TabE P g1 → (∀ o, g1.get? P = some o → g2.get? P = some o) → TabE P g2 :=
  fun _ _ ⟨rs, e, t⟩ k => ⟨rs, k _ e, t⟩

section
variable {X : Cx} {pins : List (Addr × Obj)} {σ : L2.St} {H : Hp} {s : Shared}

/-- the table has grown; what else stood is kept -/
theorem tab_grown {P : Addr} {rs : Array Value} {g : Heap} {G : Array GenState} {dd : Drawn} {tk : Nat}
    (I : Inv X pins σ H s) (hP : Tab H P)
    (kp : ∀ b o, b ≠ P → s.heap.get? b = some o → g.get? b = some o)
    (at_ : g.get? P = some { cls := .none, data := .fields rs }) (ht : TriplesOk rs.toList) (hG : AllBare G) :
    Inv X pins σ H { s with heap := g, gens := G, drawn := dd, toks := tk } := by
  have free_ne : ∀ b, H b = none → b ≠ P := fun b e z => by
    subst z
    have q : H b = some (.ext (TabE b)) := hP
    rw [q] at e
    cases e
  have own_ne : ∀ b c, H b = some (.own c) → b ≠ P := fun b c e z => by
    subst z
    have q : H b = some (.ext (TabE b)) := hP
    rw [q] at e
    cases e
  refine I.step (g' := G) (d' := dd) (ch := []) (fun b hb => by cases hb) (fun b o _ _ _ e n => kp b o (free_ne b n) e)
    (fun b o _ _ _ e n => ⟨o.slots, kp b o (free_ne b n) e⟩) (fun _ _ _ _ n => n) (fun b o _ e => ?_)
    (fun _ _ e => e) (fun _ _ _ e => e) (fun b qs e => ⟨#[], by rw [e, Array.append_empty]⟩) (fun m hm => ?_) (fun b u e => ?_) hG
  · by_cases z : b = P
    · subst z
      exact ⟨_, at_⟩
    · exact ⟨o, kp b o z e⟩
  · obtain ⟨o, es, ep, ho, r⟩ := hm
    exact ⟨o, es, ep, kp _ o (free_ne _ I.free) ho, r⟩
  · by_cases z : b = P
    · subst z
      have q : H b = some (.ext (TabE b)) := hP
      rw [q] at e
      cases e
      exact ⟨⟨rs, at_, ht⟩, ⟨_, at_⟩, tabE_stable⟩
    · refine (I.hok b u e).stay (fun c o hc q => kp c o ?_ q) (fun _ q => q) (fun _ _ q => q)
      rcases hc with y | y
      · rw [y]
        exact z
      · exact own_ne c b y

/-- the context of a generator expression's element -/
abbrev genCx (X : Cx) (B : Around) (s0 : Shared) (H0 : Hp) (ce : Env) (fp : List Addr) (pn : List (Addr × Obj)) : Cx :=
  { X with A := B, s_0 := s0, H_0 := H0, env := ce, outer := X.stack, stack := ce :: X.stack, ex := fp, fn := fun _ => false, pn := pn, xe := fun _ _ => False }
/-- its environment -/
abbrev gEnv (X : Cx) (sc : Scope) (C : Addr) (cv : Value) : Env :=
  genEnv sc (cloFrom X.env.cells sc.names []) C cv builtinsNs X.env

theorem gen_start {B : Around} {sc : Scope} {own : List (Str × Nat)} {fp : List Addr} {cv : Value} {g : Heap} {go fo : Obj} {m : Str → Option Value} {gs : GenState} {tk : Nat}
    (I : Inv X pins σ H s) (ok : BlkOk X.N X.env.scope sc own) (nocell : ∀ y ∈ sc.names, y.2 ≠ .cell) (hN : X.N.Nodup)
    (hfp : ∀ b ∈ fp, FpOk X pins H b ∧ b < s.heap.objs.size) (hB : X.calm = true → B.handled = none)
    (hF : B.frames = some (gEnv X sc s.heap.objs.size cv :: X.stack))
    (hn : g.Ns s.heap.objs.size m) (hs : Heap.SameBut s.heap.objs.size (s.heap.push fo) g)
    (hgo : ∀ v, go.data ≠ .cell v) (hgp : (g.push go).get? g.objs.size = some go) (hgs : gs.bare = true) :
    Inv (genCx X B s H (gEnv X sc s.heap.objs.size cv) fp [(g.objs.size, go)]) [] (wipe σ (own.map (·.2))) H
      { s with gens := s.gens.push gs, toks := tk, heap := g.push go } := by
  have caught : ∀ y ∈ sc.names, y.2 = .free → ∃ c, X.env.cells.lookup y.1 = some c := fun y hy e =>
    (ok.free y hy e).elim (fun z => I.ok.has _ (.inl z)) (fun z => I.ok.has _ (.inr z))
  have gsz : g.objs.size = s.heap.objs.size + 1 := by rw [hs.1, Heap.size_push]
  have kp1 : ∀ b o, s.heap.get? b = some o → g.get? b = some o := fun b o e =>
    hs.extBut b o (Nat.ne_of_lt (Heap.lt_size e)) (Heap.get?_push_of_some _ e)
  have kp : ∀ b o, s.heap.get? b = some o → (g.push go).get? b = some o := fun b o e => Heap.get?_push_of_some _ (kp1 b o e)
  have down : ∀ {y c}, (gEnv X sc s.heap.objs.size cv).cells.lookup y = some c → X.env.cells.lookup y = some c ∧ c < s.heap.objs.size := fun {y c} e => by
    have e' : (cloFrom X.env.cells sc.names []).lookup y = some c := e
    rcases cloFrom_mem (PySem.mem_of_lookup e') with q | ⟨q1, q2⟩
    · cases q
    · obtain ⟨c', hc'⟩ := caught _ q1 rfl
      have hc2 : X.env.cells.lookup y = some c' := hc'
      rw [hc2] at q2
      have q3 : c = c' := q2
      subst q3
      obtain ⟨v, z⟩ := I.cell _ _ hc2
      exact ⟨hc2, z.lt⟩
  have up : ∀ {y}, sc.names.lookup y = some .free → ∃ c, (gEnv X sc s.heap.objs.size cv).cells.lookup y = some c ∧ X.env.cells.lookup y = some c := fun {y} hl => by
    obtain ⟨c, e⟩ := mem_lookup (cloFrom_has (cells := X.env.cells) (acc := []) (PySem.mem_of_lookup hl))
    exact ⟨c, e, (down e).1⟩
  have young : ∀ b, b < s.heap.objs.size → b ≠ s.heap.objs.size := fun b hb => Nat.ne_of_lt hb
  have okG : (genCx X B s H (gEnv X sc s.heap.objs.size cv) fp [(g.objs.size, go)]).Ok := by
    refine ⟨I.ok.mod, ok.kind, I.ok.glob, rfl, Nat.le_refl _, fun y z c e1 e2 => I.ok.inj y z c (down e1).1 (down e2).1, fun y hy => ?_,
      (fun y c z _ => nomatch z), hB, hF, .inr ⟨rfl, rfl⟩, fun b hb => ⟨young b (hfp b hb).2, fun y c e z => ?_⟩, I.bs, Nat.le_trans I.ok.bsz I.sz,
      fun b o e hb => ?_, fun b hb z => ?_, I.stack, I.stkFree⟩
    · rcases hy with z | z
      · exact absurd rfl (nocell _ (PySem.mem_of_lookup z))
      · obtain ⟨c, e, _⟩ := up z
        exact ⟨c, e⟩
    · exact (hfp b hb).1.2.2.2.2.1 y c (down e).1 z
    · rcases (hfp b hb).1.2.2.2.1 with z | z
      · exact I.ok.noex b o e z
      · exact Nat.lt_irrefl _ (Nat.lt_of_lt_of_le (Heap.lt_size e) (Nat.le_trans I.ok.bsz z))
    · rcases List.mem_cons.mp (I.stkSub b z) with y | y
      · exact (hfp b hb).1.2.1 y
      · exact (hfp b hb).1.2.2.1 y
  refine ⟨okG, rfl, I.bare.push hgs, Un.kept kp, ⟨m, ?_, fun i y av e1 e2 e3 => ?_⟩, fun y c e => ?_, I.hok.fresh (Nat.le_refl _), fun y c e => I.freeC y c (down e).1, fun p hp => ?_, I.hok.kept kp, by rw [wipe_length]; exact I.len⟩
  · exact hn.push _
  · obtain ⟨e2, ne⟩ := wipe_some e2
    have notOwn : ∀ k, sc.names.lookup y = some k → k = .local ∨ k = .cell → False := fun k hk hk' => by
      rcases ok.own _ (PySem.mem_of_lookup hk) hk' with q | q
      · obtain ⟨p, hp, hpy⟩ := List.mem_map.mp q
        have e4 := ok.ix p hp
        have hpy' : p.1 = y := hpy
        rw [hpy'] at e4
        exact ne (List.mem_map.mpr ⟨p, hp, nodup_ix hN e4 e1⟩)
      · exact q (List.mem_of_getElem? e1)
    have hfree : sc.names.lookup y = some .free := by
      rcases e3 with z | z | z
      · exact (notOwn _ z (.inl rfl)).elim
      · exact (notOwn _ z (.inr rfl)).elim
      · exact z
    obtain ⟨m', _, hl⟩ := I.loc
    have q0 := ok.free _ (PySem.mem_of_lookup hfree) rfl
    have hv : Vis X.env.scope y := q0.elim (fun z => .inr (.inl z)) (fun z => .inr (.inr z))
    obtain ⟨u, r, q⟩ := hl i y av e1 e2 hv
    obtain ⟨c, h1, h2⟩ := up hfree
    refine ⟨u, r, .inr ⟨.inr hfree, c, h1, ?_⟩⟩
    rcases q with ⟨k, _⟩ | ⟨_, c', e', z⟩
    · have k' : X.env.scope.names.lookup y = some .local := k
      rcases q0 with z | z
      · have z' : X.env.scope.names.lookup y = some .cell := z
        rw [z'] at k'
        cases k'
      · have z' : X.env.scope.names.lookup y = some .free := z
        rw [z'] at k'
        cases k'
    · rw [h2] at e'
      cases e'
      exact z.keeps kp
  · obtain ⟨v, z⟩ := I.cell y c (down e).1
    exact ⟨v, z.keeps kp⟩
  · have e : p = (g.objs.size, go) := by simpa using hp
    subst e
    refine ⟨hgp, I.hok.fresh (by rw [gsz]; exact Nat.le_succ _), ?_, fun z => ?_, hgo⟩
    · show g.objs.size ≠ s.heap.objs.size
      rw [gsz]
      exact Nat.succ_ne_self _
    · have z' : g.objs.size ∈ frs X.stack := z
      obtain ⟨_, o, ho, _⟩ := I.stack.mem z'
      have q := Heap.lt_size ho
      rw [gsz] at q
      exact absurd q (Nat.not_lt.mpr (Nat.le_succ _))
end
end GX
set_option Elab.async false
set_option maxRecDepth 100000
set_option maxHeartbeats 4000000
namespace GX
open PySem PySem.Spec PyProof.Rows L2

/-- what is known when an element has been handed out: a truth; where it is true, the generator goes on at any state with the same heap -/
def YAll (Y : Cx) (τ : L2.St) (Qf : Hp → Prop) : Protocol := fun _ _ v s kap =>
  ∃ (b : Bool) (H : Hp), v = .bool b ∧ Inv Y [] τ H s ∧ (b = false → Qf H) ∧
    (b = true → ∀ s2 : Shared, s2.heap = s.heap → s2.os = s.os → AllBare s2.gens → kap (.send .none) s2)
abbrev RAll (Y : Cx) (τ : L2.St) (Qt : Hp → Prop) : Nat → Shared → Shared → Prop := fun _ _ s =>
  ∃ H : Hp, Inv Y [] τ H s ∧ Qt H
theorem inv_samehp {Y : Cx} {pins : List (Addr × Obj)} {τ : L2.St} {H : Hp} {s s2 : Shared} (I : Inv Y pins τ H s) (h : s2.heap = s.heap) (ho : s2.os = s.os) (hb : AllBare s2.gens) : Inv Y pins τ H s2 := by
  have J := I.call' (s' := s2) (H' := H) (ch := []) ho (by rw [h]; exact Un.refl) (by rw [h]; exact I.hok) hb (fun b z => by cases z)
  exact J

section
variable {Y : Cx} {B : Around} {elt tg iter : Expr} {sc : Scope} {gpos : Pos} {it : Addr} {fp : List Addr} {tn : Nat → Heap → Prop} {J : It} {g : TG} {te : TE} {vs : List Nat}

/-- one turn of the walk that a generator expression's elements pass -/
def Step (J : It) (g : TG) (te : TE) (vs : List Nat) (τ : L2.St) (Qt Qf : Hp → Prop) (W : Nat → Nat → Hp → Prop) : Prop :=
  ∀ i m H, W i m H → (J.stop i H ∧ Qt H) ∨ (J.go i H ∧ ∀ x H', J.yld i H x H' → g x τ H' fun τ2 H2 => wipe τ2 vs = τ ∧
    te τ2 H2 fun y H3 => ∃ b, y = V.bl b ∧ (b = true → ∃ m', m' < m ∧ W (i + 1) m' H3) ∧ (b = false → Qf H3))

theorem seg_all {τ : L2.St} {Qt Qf : Hp → Prop} {W : Nat → Nat → Hp → Prop}
    (hA : Y.A = B.over (.compLoop (.GeneratorExp elt [⟨tg, iter, [], 0⟩] sc gpos) 0 (.ref it) .none Y.env) [])
    (hc : Y.calm = true) (hco : Y.env.scope.isCoroutine = false) (hfp : ∀ b ∈ fp, b ∈ Y.ex) (hpn : ∀ p ∈ Y.pn, p.1 ∉ fp)
    (xe : Y.xe = fun _ _ => False)
    (pg : PG Y tg g) (pe : PE Y elt te) (T : Turn Y.prog Y.w Y.K tg J fp it tn) (turn : Step J g te vs τ Qt Qf W) (hτ : ∀ τ2, wipe τ2 vs = τ → ∀ (k : Nat) v, τ[k]? = some (some v) → τ2[k]? = some (some v)) :
    ∀ (n i m : Nat) (s0 s : Shared) (H : Hp), m < n → Inv Y [] τ H s → tn i s.heap → (∀ b ∈ fp, H b = none) → W i m H →
      Seg (model Y.prog Y.w) B (fun n s₀ r s₁ => r = .ok .next ∧ RAll Y τ Qt n s₀ s₁) (YAll Y τ Qf) n s0
        (.compLoop (.GeneratorExp elt [⟨tg, iter, [], 0⟩] sc gpos) 0 (.ref it) .none Y.env)
        ((model Y.prog Y.w).den (.compLoop (.GeneratorExp elt [⟨tg, iter, [], 0⟩] sc gpos) 0 (.ref it) .none Y.env)) [] s := by
  intro n
  induction n with
  | zero => intro i m s0 s H hm; exact absurd hm (Nat.not_lt_zero _)
  | succ n ih =>
    intro i m s0 s H hm I st nf w0
    have fpo : ∀ {pins' : List (Addr × Obj)} {τ' : L2.St} {H' : Hp} {s' : Shared}, Inv Y pins' τ' H' s' → (∀ p ∈ pins', p.1 ∉ fp) → (∀ b ∈ fp, H' b = none) → ∀ b ∈ fp, FpOk Y pins' H' b := fun {pins' τ' H' s'} I' hp hn b hb =>
      ⟨hn b hb, (I'.ok.exf b (hfp b hb)).1, I'.ok.exfs b (hfp b hb), .inl (hfp b hb), fun x c e => (I'.ok.exf b (hfp b hb)).2 x c e, fun p q z => by
        rcases List.mem_append.mp q with q | q
        · exact hpn p q (by rw [z]; exact hb)
        · exact hp p q (by rw [z]; exact hb)⟩
    show Seg _ B _ _ _ s0 _ ((compTurn (.GeneratorExp elt [⟨tg, iter, [], 0⟩] sc gpos) 0 (.ref it) .none Y.env).onRaise (leaving Y.env)) [] s
    rw [compTurn_gen, Sem.onRaise_eq_wrap]
    apply seg_bind_wrap
    apply wpAny_standAt
    apply seg_bind_wrap
    rw [← hA]
    rcases turn i m H w0 with ⟨stop, q⟩ | ⟨go, step⟩
    · refine wpAny_mono (T.done Y rfl rfl rfl hc i [] s τ H (fun _ _ => False) I (fpo I (fun _ z => by cases z) nf) st stop) (fun r s1 h1 => ?_) (fun _ _ z => z.elim)
      obtain ⟨hr, I1⟩ := h1
      subst hr
      exact seg_end (.ok .next) ⟨rfl, H, I1, q⟩
    · refine wpAny_mono (T.item Y rfl rfl rfl hc i [] s τ H (fun _ _ => False) I (fpo I (fun _ z => by cases z) nf) st go) (fun r s1 h1 => ?_) (fun _ _ z => z.elim)
      obtain ⟨u, hr, h1⟩ := h1
      subst hr
      apply seg_bind_wrap
      rw [← hA]
      refine wpAny_mono h1 (fun _ s2 h2 => ?_) (fun _ _ z => z.elim)
      obtain ⟨x, H2, I2, r2, y2, st2, n2⟩ := h2
      have I2' := I2.pinned (fpo I2 (fun _ z => by cases z) n2) (T.obj _ _ st2)
      apply seg_bind_wrap
      rw [← hA]
      refine wpAny_mono (pg.run _ s2 τ H2 x u _ I2' r2 (step x H2 y2)) (fun _ s3 h3 => ?_) (fun e s3 z => by rw [xe] at z; exact z.elim)
      obtain ⟨τ3, H3, I3, hw3, q3⟩ := h3
      have hy : ∀ v, yieldOut Y.env v = yieldValue v := fun v => by simp only [yieldOut, hco, Bool.false_eq_true, if_false]
      simp only [List.forIn_nil, pure_bind, if_true, hy]
      rw [Sem.bind_eq_wrap', Sem.bind_eq_wrap', Sem.wrap_wrap, Sem.wrap_wrap]
      apply seg_wrap
      rw [← hA]
      refine wpAny_mono (pe.run _ s3 τ3 H3 _ I3 q3) (fun v s4 h4 => ?_) (fun e s4 z => by rw [xe] at z; exact z.elim)
      obtain ⟨yv, H4, I4, r4, b, rfl, ht, hf⟩ := h4
      have hv : v = .bool b := r4
      subst hv
      have kp : ∀ b' ∈ fp, ∀ o, s2.heap.get? b' = some o → s4.heap.get? b' = some o ∧ H4 b' = none := fun b' hb o e => by
        have z := I4.pin (b', o) (List.mem_append_right _ (List.mem_append_right _ (mem_pinsAt hb e)))
        exact ⟨z.1, z.2.1⟩
      have J4 : Inv Y [] τ H4 s4 := (I4.unpinned (pins := [])).weak (by rw [← hw3, wipe_length]) fun k v e => hτ τ3 hw3 k v e
      refine seg_at (seg_yield rfl rfl rfl ⟨b, H4, rfl, J4, hf, fun hb s5 e5 o5 b5 => ?_⟩)
      obtain ⟨m', hm', w'⟩ := ht hb
      refine seg_again rfl (ih (i + 1) m' s5 s5 H4 (by omega) (inv_samehp J4 e5 o5 b5) ?_ (fun b' hb' => ?_) w')
      · rw [e5]
        exact T.keep _ _ _ st2 fun b' hb' o e => (kp b' hb' o e).1
      · obtain ⟨o, e, _⟩ := T.obj _ _ st2 b' hb'
        exact (kp b' hb' o e).2
end
end GX
set_option Elab.async false
set_option maxRecDepth 100000
set_option maxHeartbeats 4000000
namespace GX
open PySem PySem.Spec PyProof.Rows L2

theorem seg_all_start {P : Program} {w : World} {K : PySem.W.Frag} {B : Around} {R : GenEnd} {Yp : Protocol} {n : Nat} {s0 s : Shared} {elt tg iter : Expr} {sc : Scope} {gpos : Pos} {it : Addr} {fp : List Addr} {tn : Nat → Heap → Prop} {J : It} {ce : Env}
    (T : Turn P w K tg J fp it tn) (st : tn 0 s.heap)
    (loop : Seg (model P w) B R Yp n s0 (.compLoop (.GeneratorExp elt [⟨tg, iter, [], 0⟩] sc gpos) 0 (.ref it) .none ce)
      ((model P w).den (.compLoop (.GeneratorExp elt [⟨tg, iter, [], 0⟩] sc gpos) 0 (.ref it) .none ce)) [] s) :
    Seg (model P w) B R Yp n s0 (.compStart (.GeneratorExp elt [⟨tg, iter, [], 0⟩] sc gpos) 0 (.ref it) .none ce)
      ((model P w).den (.compStart (.GeneratorExp elt [⟨tg, iter, [], 0⟩] sc gpos) 0 (.ref it) .none ce)) [] s := by
  show Seg _ B _ _ _ s0 _ ((compStart (.GeneratorExp elt [⟨tg, iter, [], 0⟩] sc gpos) 0 (.ref it) .none ce).onRaise (leaving ce)) [] s
  unfold compStart
  rw [Sem.onRaise_eq_wrap]
  show Seg _ B _ _ _ s0 _ ((ask >>= _).wrap _ _ _ _) [] s
  apply seg_bind_wrap
  apply wpAny_askSetting
  split
  · exact seg_again rfl loop
  · apply seg_bind_wrap
    apply wpAny_rule
    show Seg _ B _ _ _ s0 _ ((standAt iter.pos >>= _).wrap _ _ _ _) [] s
    apply seg_bind_wrap
    apply wpAny_standAt
    apply seg_bind_wrap
    exact T.self _ 0 s _ _ st (seg_again rfl loop)

section
variable {Y : Cx} {A : Around} {a : Addr} {g : Nat} {go : Obj} {τ : L2.St} {Qt Qf : Hp → Prop}
theorem code_all {R : Result → Shared → Prop} (hh : A.handled = none) (hroom : A.depth < recursionLimit) (hpin : (a, go) ∈ Y.pn) (hgen : ∀ h : Heap, h.get? a = some go → h.IsGen a g)
    (hT : ∀ s H, Inv Y [] τ H s → Qt H → R (.ok (.ret (.bool true))) s) (hF : ∀ s H, Inv Y [] τ H s → Qf H → R (.ok (.ret (.bool false))) s) :
    ∀ (n : Nat) (s : Shared) (gs : GenState), s.heap.IsGen a g → s.heap.NoLimit → AllBare s.gens → s.gens[g]? = some gs →
      (∀ s2 : Shared, s2.heap = s.heap → s2.os = s.os → AllBare s2.gens →
        gs.Goes (model Y.prog Y.w) A.in1.in1 (fun n s₀ r s₁ => r = .ok .next ∧ RAll Y τ Qt n s₀ s₁) (YAll Y τ Qf) n (.send .none) s2) →
      codeAny (model Y.prog Y.w) A (.builtin "all.loop" ⟨[.ref a], []⟩) R s := by
  intro n
  induction n with
  | zero =>
    intro s gs hg hl hb hgs hgo
    refine codeAny_builtin F.entry_all_loop ?_
    rw [Around.under_plainId F.plain_all_loop _]
    show wpAny _ A.in1 (pyNext (.ref a) >>= _) _ _ s
    refine wpAny_bind (GenW.wpAny_gsz (n := g + 1) (Array.getElem?_eq_some_iff.mp hgs).1 (wpAny_pyNext_genexpQ (A := A.in1) (P := RAll Y τ Qt) hh hl hroom hg hgs (hgo _ rfl rfl (allBare_setGen hb rfl)) (fun v s1 gs' hb' hv hsz => ?_) (fun s1 hp h' hk hsz => ?_)))
    · obtain ⟨b, H, rfl, I, hf, ht⟩ := hv
      apply wpAny_bind
      apply wpAny_holding
      apply wpAny_truthy_bool
      apply wpAny_bind
      apply wpAny_letGo
      cases b with
      | true => exact (ht rfl s1 rfl rfl I.bare).elim
      | false =>
        simp only [Bool.false_eq_true, if_false]
        apply wpAny_bind
        apply wpAny_rule
        apply wpAny_pure
        exact hF _ H (inv_samehp I rfl rfl (allBare_setGen I.bare hb')) (hf rfl)
    · obtain ⟨H, I, q⟩ := hp
      apply wpAny_bind
      apply wpAny_rule
      apply wpAny_pure
      have I2 := inv_samehp (s2 := s1.setGen g .finished) I rfl rfl (allBare_setGen I.bare rfl)
      exact hT _ H (I2.kept (t' := (s1.setGen g .finished).toks) hk) q
  | succ n ih =>
    intro s gs hg hl hb hgs hgo
    refine codeAny_builtin F.entry_all_loop ?_
    rw [Around.under_plainId F.plain_all_loop _]
    show wpAny _ A.in1 (pyNext (.ref a) >>= _) _ _ s
    refine wpAny_bind (GenW.wpAny_gsz (n := g + 1) (Array.getElem?_eq_some_iff.mp hgs).1 (wpAny_pyNext_genexpQ (A := A.in1) (P := RAll Y τ Qt) hh hl hroom hg hgs (hgo _ rfl rfl (allBare_setGen hb rfl)) (fun v s1 gs' hb' hv hsz => ?_) (fun s1 hp h' hk hsz => ?_)))
    · obtain ⟨b, H, rfl, I, hf, ht⟩ := hv
      apply wpAny_bind
      apply wpAny_holding
      apply wpAny_truthy_bool
      apply wpAny_bind
      apply wpAny_letGo
      cases b with
      | true =>
        simp only [if_true]
        apply wpAny_pure
        refine ⟨plainId_quiet F.plain_all_loop _, ih _ gs' (hgen _ (I.pin (a, go) (List.mem_append_left _ hpin)).1) I.nolimit (allBare_setGen I.bare hb') (setGen_at ?_) fun s2 e1 e2 e3 => ht rfl s2 e1 e2 e3⟩
        rw [GenW.setGen_size] at hsz
        exact hsz
      | false =>
        simp only [Bool.false_eq_true, if_false]
        apply wpAny_bind
        apply wpAny_rule
        apply wpAny_pure
        exact hF _ H (inv_samehp I rfl rfl (allBare_setGen I.bare hb')) (hf rfl)
    · obtain ⟨H, I, q⟩ := hp
      apply wpAny_bind
      apply wpAny_rule
      apply wpAny_pure
      have I2 := inv_samehp (s2 := s1.setGen g .finished) I rfl rfl (allBare_setGen I.bare rfl)
      exact hT _ H (I2.kept (t' := (s1.setGen g .finished).toks) hk) q
end
end GX
set_option Elab.async false
set_option maxRecDepth 100000
set_option maxHeartbeats 4000000
namespace GX
open PySem PySem.Spec PyProof.Rows L2

section
variable {X : Cx} {pins : List (Addr × Obj)} {σ : L2.St} {H : Hp} {s : Shared}

/-- a generator expression has been made, ready to be walked, in the state s5; what stood ahead of its frame: s4 -/
structure Ready (X : Cx) (pins : List (Addr × Obj)) (σ : L2.St) (own : List (Str × Nat)) (sc : Scope) (elt tg iter : Expr) (gpos : Pos) (J : It) (H1 : Hp) (a : Addr) (s5 : Shared)
    (s4 : Shared) (cv : Value) (g : Nat) (go : Obj) (it : Addr) (fp : List Addr) (tn : Nat → Heap → Prop) : Prop where
  outer : Inv X pins σ H1 s4
  fps : ∀ b ∈ fp, FpOk X pins H1 b ∧ b < s4.heap.objs.size
  turn : Turn X.prog X.w X.K tg J fp it tn
  st : tn 0 s5.heap
  inner : ∀ B : Around, (X.calm = true → B.handled = none) → B.frames = some (gEnv X sc s4.heap.objs.size cv :: X.stack) →
    Inv (genCx X B s4 H1 (gEnv X sc s4.heap.objs.size cv) fp [(a, go)]) [] (wipe σ (own.map (·.2))) H1 s5
  gen : ∀ h : Heap, h.get? a = some go → h.IsGen a g
  at_ : s5.heap.get? a = some go
  old : a ∉ fp
  gs : s5.gens[g]? = some (.fresh (.compStart (.GeneratorExp elt [⟨tg, iter, [], 0⟩] sc gpos) 0 (.ref it) .none (gEnv X sc s4.heap.objs.size cv)))
  lim : s5.heap.NoLimit
  bare : AllBare s5.gens

theorem gx_make {c P : Addr} {own : List (Str × Nat)} {sc : Scope} {elt tg iter : Expr} {gpos : Pos} {wi : TI} {k : Nat} {R : It → Hp → Prop} {Q' : Value → Shared → Prop}
    (hr : Room k X.A) (TB : GxR.TabB X.base X.mg c P) (hcode : X.env.code = .ref c) (hN : X.N.Nodup)
    (ok : BlkOk X.N X.env.scope sc own) (nocell : ∀ y ∈ sc.names, y.2 ≠ .cell) (dot : sc.names.lookup (".0" : Str) = some NameKind.local) (hco : sc.isCoroutine = false)
    (hi : PI X tg iter wi) (hs : ∀ v, genFold iter X.env v = pure v)
    (I : Inv X pins σ H s) (h : wi σ H fun J H1 => Tab H1 P ∧ R J H1)
    (hQ : ∀ J H1 a s5 s4 cv g go it fp tn, R J H1 → Ready X pins σ own sc elt tg iter gpos J H1 a s5 s4 cv g go it fp tn → Q' (.ref a) s5) :
    wpAny (model X.prog X.w) X.A (eval (.GeneratorExp elt [⟨tg, iter, [], 0⟩] sc gpos) X.env) Q' X.xe s := by
  have caught : ∀ y ∈ sc.names, y.2 = .free → ∃ c, X.env.cells.lookup y.1 = some c := fun y hy e =>
    (ok.free y hy e).elim (fun z => I.ok.has _ (.inl z)) (fun z => I.ok.has _ (.inr z))
  refine wpAny_GeneratorExp_make hco (closure_ok caught) nocell dot ok.kind (by have := hr.dp; omega) ?_ hs
  refine thn (hi.run pins s σ H _ I h) fun xv s1 h1 => thn h1 fun itv s2 h2 => ?_
  obtain ⟨it, fp, tn, J, H2, rfl, I2, T, st2, f2, hT, hR⟩ := h2
  obtain ⟨⟨rs, hPs, ht⟩, _, _⟩ := I2.hok P _ hT
  have cd : PySem.W.CodeHd s2.heap c P := TB.code.keeps I2.bk
  refine ⟨I2.nolimit, ?_⟩
  have fsz : ∀ b ∈ fp, b < s2.heap.objs.size := fun b hb => by
    obtain ⟨o, e, _⟩ := T.obj _ _ st2 b hb
    exact Heap.lt_size e
  have neP : ∀ b ∈ fp, b ≠ P := fun b hb z => by
    have q := (f2 b hb).1
    have q2 : H2 P = some (.ext (TabE P)) := hT
    rw [z, q2] at q
    cases q
  have cont : ∀ (cv : Value) (s4 : Shared), Inv X pins σ H2 s4 → (∀ b o, b ≠ P → s2.heap.get? b = some o → s4.heap.get? b = some o) → s2.heap.objs.size ≤ s4.heap.objs.size →
      wpAny (model X.prog X.w) X.A (builtinsFor X.env.globals X.env.builtins) (fun bi s₄ => ∀ h', h'.Ns s₄.heap.objs.size (fun y => if y = ".0" then some (Value.ref it) else none) →
        Heap.SameBut s₄.heap.objs.size (s₄.heap.push { cls := .type "frame", data := .dict #[] }) h' →
          Q' (.ref h'.objs.size) { s₄ with
            gens := s₄.gens.push (.fresh (.compStart (.GeneratorExp elt [⟨tg, iter, [], 0⟩] sc gpos) 0 (.ref it) .none (genEnv sc (cloFrom X.env.cells sc.names []) s₄.heap.objs.size cv bi X.env))),
            toks := s₄.toks + 1 + 1 + 1,
            heap := h'.push { cls := .type "generator", data := .fields #[.int s₄.gens.size 0, .str "<genexpr>" (s₄.toks + 1), .str (X.env.qual ++ "<genexpr>") (s₄.toks + 1 + 1)] } }) X.xe s4 := by
    intro cv s4 I4 kp sz
    obtain ⟨bm, ob, e1, e2, e3, e4, e5, e6, e7, e8⟩ := TB.bm
    refine wpAny_builtinsFor (m := X.mg) (by rw [I4.ok.glob]; exact I4.mod.glob.keeps I4.bk) e1 e2 (I4.bk _ _ e5) e6 e7 e8 ?_
    intro h' hn' hs'
    have hsz : h'.objs.size = s4.heap.objs.size + 1 := by rw [hs'.1, Heap.size_push]
    have kp4 : ∀ b o, s4.heap.get? b = some o → (h'.push { cls := .type "generator", data := .fields #[.int s4.gens.size 0, .str "<genexpr>" (s4.toks + 1), .str (X.env.qual ++ "<genexpr>") (s4.toks + 1 + 1)] }).get? b = some o := fun b o e =>
      Heap.get?_push_of_some _ (hs'.extBut b o (Nat.ne_of_lt (Heap.lt_size e)) (Heap.get?_push_of_some _ e))
    have fok : ∀ b ∈ fp, FpOk X pins H2 b ∧ b < s4.heap.objs.size := fun b hb => ⟨f2 b hb, Nat.lt_of_lt_of_le (fsz b hb) sz⟩
    refine hQ J H2 h'.objs.size _ s4 cv s4.gens.size { cls := .type "generator", data := .fields #[.int s4.gens.size 0, .str "<genexpr>" (s4.toks + 1), .str (X.env.qual ++ "<genexpr>") (s4.toks + 1 + 1)] } it fp tn hR
      ⟨I4, fok, T, ?_, fun B hB hF => gen_start I4 ok nocell hN fok hB hF hn' hs' (fun v z => by cases z) (Heap.get?_push_size _ rfl) rfl, fun h e => ⟨_, _, _, e, rfl, rfl, rfl⟩, Heap.get?_push_size _ rfl, fun z => ?_, Array.getElem?_push_size .., I4.nolimit.keeps kp4, I4.bare.push rfl⟩
    · refine T.keep _ _ _ st2 fun b hb o e => kp4 b o (kp b o (neP b hb) e)
    · have q := (fok _ z).2
      rw [hsz] at q
      exact absurd q (Nat.not_lt.mpr (Nat.le_succ _))
  cases hf : codeAmong gpos rs.toList with
  | none =>
    refine wpAny_genexprCodeX hcode (cd.code hPs ht) (cd.tab hPs) hf fun c' h' tk hx hge hlt hco' _ htab' _ => ?_
    obtain ⟨o1, vs, f1, tf, fl, tg', inF, tx, tt, op, _, _, _, _, _, _, _, _, _, htr, _⟩ := hco'
    exact cont _ { s2 with heap := h', toks := tk } (tab_grown (tk := tk) (dd := s2.drawn) (G := s2.gens) I2 hT (fun b o hb e => hx b o hb e) htab'.2 htr I2.bare) (fun b o hb e => hx b o hb e) (Nat.le_trans hge (Nat.le_of_lt hlt))
  | some cv =>
    refine wpAny_genexprCode_hit hcode (cd.code hPs ht) hf ?_
    exact cont cv s2 I2 (fun b o _ e => e) (Nat.le_refl _)

/-- all(e for x in xs): J what is walked; W by the turn and a measure -/
def tAll (P : Addr) (wi : TI) (g : TG) (te : TE) (vs : List Nat) : TE := fun σ H Q => wi σ H fun J H1 => Tab H1 P ∧
  ∃ W : Nat → Nat → Hp → Prop, (∃ m, W 0 m H1) ∧ Step J g te vs (wipe σ vs) (Q (.bl true)) (Q (.bl false)) W

theorem over_gx {A : Around} {elt tg iter : Expr} {sc : Scope} {gpos : Pos} {it : Addr} {ce : Env} :
    (A.over (.compLoop (.GeneratorExp elt [⟨tg, iter, [], 0⟩] sc gpos) 0 (.ref it) .none ce) []).frames = A.frames.map (ce :: ·) := by
  show pushEnvs [ce] (pushEnvs [] A.frames) = _
  cases A.frames <;> rfl
theorem room_gx {A : Around} {k : Nat} {elt tg iter : Expr} {sc : Scope} {gpos : Pos} {it : Addr} {ce : Env} (r : Room (k + 1) A) :
    Room k (A.in1.in1.over (.compLoop (.GeneratorExp elt [⟨tg, iter, [], 0⟩] sc gpos) 0 (.ref it) .none ce) []) := by
  refine ⟨r.hd, ?_, ?_⟩
  · have := r.dp
    show A.depth + 0 + 1 + 3 * k + 5 < _
    omega
  · have := r.un
    show A.units + 1 + 1 + 0 + 3 + 16 * k + 200 < _
    omega

theorem pe_all {c P : Addr} {own : List (Str × Nat)} {sc : Scope} {elt tg iter : Expr} {p pos gpos : Pos} {wi : TI} {g : TG} {te : TE} {k : Nat}
    (hr : Room (k + 1) X.A) (hg : Gl X "all") (hm : X.mg "all" = none) (TB : GxR.TabB X.base X.mg c P) (hcode : X.env.code = .ref c) (hc : X.calm = true) (hN : X.N.Nodup)
    (ok : BlkOk X.N X.env.scope sc own) (nocell : ∀ y ∈ sc.names, y.2 ≠ .cell) (dot : sc.names.lookup (".0" : Str) = some NameKind.local) (hco : sc.isCoroutine = false)
    (hi : PI X tg iter wi) (pg : ∀ (B : Around) (s0 : Shared) (H0 : Hp) (C : Addr) (cv : Value) (fp : List Addr) (pn : List (Addr × Obj)), PG (genCx X B s0 H0 (gEnv X sc C cv) fp pn) tg g)
    (pe : ∀ (B : Around) (s0 : Shared) (H0 : Hp) (C : Addr) (cv : Value) (fp : List Addr) (pn : List (Addr × Obj)), Room k B → PE (genCx X B s0 H0 (gEnv X sc C cv) fp pn) elt te)
    (hs : ∀ v, genFold iter X.env v = pure v := by intro _; rfl)
    (he : starEach [.GeneratorExp elt [⟨tg, iter, [], 0⟩] sc gpos] X.env = (false, eval (.GeneratorExp elt [⟨tg, iter, [], 0⟩] sc gpos) X.env) :: starEach [] X.env := by rfl) :
    PE X (.Call (.Name "all" p) [.GeneratorExp elt [⟨tg, iter, [], 0⟩] sc gpos] [] pos) (tAll P wi g te (own.map (·.2))) := by
  refine ⟨fun pins s σ H Q I h => ?_⟩
  refine wpAny_Call_Name_kw (ld_blt I hg hm (show bootBuiltins "all" = some (.builtin "all") by decide +kernel) ?_)
  refine PyProof.Rows.callWith_builtin1 ?_ he (by rfl)
  rw [he]
  show wpAny _ _ (spliced ((false, eval (.GeneratorExp elt [⟨tg, iter, [], 0⟩] sc gpos) X.env) :: backTo pos (starEach [] X.env))) _ _ s
  refine Calls.spliced_cons (gx_make (own := own) (R := fun J H1 => ∃ W : Nat → Nat → Hp → Prop, (∃ m, W 0 m H1) ∧ Step J g te (List.map Prod.snd own) (wipe σ (List.map Prod.snd own)) (Q (.bl true)) (Q (.bl false)) W)
    hr TB hcode hN ok nocell dot hco hi hs I h fun J H1 a s5 s4 cv gn go it fp tn hR rd => ?_)
  obtain ⟨W, ⟨m0, w0⟩, step⟩ := hR
  refine Calls.spliced_nil ?_
  refine call_function_tree F.kind_all F.plain_all F.entry_all (F.args_all1 _) ?_
  unfold Builtin.«all»
  apply wpAny_bind (m := oneArg "all" _)
  apply wpAny_pure
  apply wpAny_bind
  refine wpAny_pyIter_gen (rd.gen _ rd.at_) ?_
  apply wpAny_pure
  refine ⟨plainId_quiet F.plain_all_loop _, ?_⟩
  -- the element's context
  have hB : X.calm = true → (X.A.in1.in1.over (.compLoop (.GeneratorExp elt [⟨tg, iter, [], 0⟩] sc gpos) 0 (.ref it) .none (gEnv X sc s4.heap.objs.size cv)) []).handled = none := fun z => I.ok.hd z
  have hF : (X.A.in1.in1.over (.compLoop (.GeneratorExp elt [⟨tg, iter, [], 0⟩] sc gpos) 0 (.ref it) .none (gEnv X sc s4.heap.objs.size cv)) []).frames = some (gEnv X sc s4.heap.objs.size cv :: X.stack) := by
    rw [over_gx]
    show X.A.frames.map _ = _
    rw [I.ok.frames]
    rfl
  have J5 := rd.inner _ hB hF
  have back : ∀ (s6 : Shared) (H6 : Hp), Inv (genCx X (X.A.in1.in1.over (.compLoop (.GeneratorExp elt [⟨tg, iter, [], 0⟩] sc gpos) 0 (.ref it) .none (gEnv X sc s4.heap.objs.size cv)) []) s4 H1 (gEnv X sc s4.heap.objs.size cv) fp [(a, go)]) [] (wipe σ (own.map (·.2))) H6 s6 →
      Inv X pins σ H6 s6 := fun s6 H6 I6 => by
    exact rd.outer.call' (ch := fp) I6.os I6.base I6.hok I6.bare fun b hb => ⟨(rd.fps b hb).1.2.2.2.1, (rd.fps b hb).1.2.1, (rd.fps b hb).1.2.2.2.2.1, (rd.fps b hb).1.2.2.2.2.2⟩
  refine code_all (Y := genCx X (X.A.in1.in1.over (.compLoop (.GeneratorExp elt [⟨tg, iter, [], 0⟩] sc gpos) 0 (.ref it) .none (gEnv X sc s4.heap.objs.size cv)) []) s4 H1 (gEnv X sc s4.heap.objs.size cv) fp [(a, go)])
    (A := X.A) (go := go) (g := gn) (τ := wipe σ (own.map (·.2))) (Qt := Q (.bl true)) (Qf := Q (.bl false)) hr.hd hr.depth (by simp) rd.gen
    (fun s6 H6 I6 q6 => ⟨.bl true, H6, back s6 H6 I6, rfl, q6⟩) (fun s6 H6 I6 q6 => ⟨.bl false, H6, back s6 H6 I6, rfl, q6⟩) (m0 + 1) s5 _ (rd.gen _ rd.at_) rd.lim rd.bare rd.gs (fun s7 e7 o7 b7 => ?_)
  have J7 := inv_samehp J5 e7 o7 b7
  have st7 : tn 0 s7.heap := by
    rw [e7]
    exact rd.st
  refine ⟨rfl, seg_all_start rd.turn st7 ?_⟩
  refine seg_all (Y := genCx X (X.A.in1.in1.over (.compLoop (.GeneratorExp elt [⟨tg, iter, [], 0⟩] sc gpos) 0 (.ref it) .none (gEnv X sc s4.heap.objs.size cv)) []) s4 H1 (gEnv X sc s4.heap.objs.size cv) fp [(a, go)])
    rfl hc hco (fun b hb => hb) (fun q hq => ?_) rfl (pg _ _ _ _ _ _ _) (pe _ _ _ _ _ _ _ (room_gx hr)) rd.turn step (fun τ2 hw k v e => ?_) (m0 + 1) 0 m0 s7 s7 H1 (Nat.lt_succ_self _) J7 st7 (fun b hb => (rd.fps b hb).1.1) w0
  · have e : q = (a, go) := by simpa using hq
    subst e
    exact rd.old
  · rw [← hw] at e
    exact (wipe_some e).1
end
end GX
set_option Elab.async false
set_option maxRecDepth 100000
set_option maxHeartbeats 4000000
namespace GX
open PySem PySem.Spec PyProof.Rows L2

/-- a walk of n turns by a word of its own: the next turn is reached -/
def AllNx (n : Nat) (Pv : Nat → Hp → Prop) (i : Nat) (H : Hp) : Prop := ∃ m', m' < n - i ∧ (m' = n - (i + 1) ∧ i + 1 ≤ n ∧ Pv (i + 1) H)
theorem AllNx.mk {n : Nat} {Pv : Nat → Hp → Prop} {i : Nat} {H : Hp} (hi : i < n) (p : Pv (i + 1) H) : AllNx n Pv i H := ⟨n - (i + 1), by omega, rfl, hi, p⟩
theorem all_by {J : It} {g : TG} {te : TE} {vs : List Nat} {τ : L2.St} {Qt Qf : Hp → Prop} {H1 : Hp} (n : Nat) (Pv : Nat → Hp → Prop) (h0 : Pv 0 H1)
    (turn : ∀ i H, i < n → Pv i H → J.go i H ∧ ∀ x H', J.yld i H x H' → g x τ H' fun τ2 H2 => wipe τ2 vs = τ ∧ te τ2 H2 fun y H3 => ∃ b, y = V.bl b ∧ (b = true → AllNx n Pv i H3) ∧ (b = false → Qf H3))
    (stop : ∀ H, Pv n H → J.stop n H ∧ Qt H) :
    ∃ W : Nat → Nat → Hp → Prop, (∃ m, W 0 m H1) ∧ Step J g te vs τ Qt Qf W := by
  refine ⟨fun i m H => m = n - i ∧ i ≤ n ∧ Pv i H, ⟨n, rfl, Nat.zero_le _, h0⟩, ?_⟩
  rintro i m H ⟨rfl, hi, p⟩
  by_cases hlt : i < n
  · obtain ⟨go, nx⟩ := turn i H hlt p
    exact .inr ⟨go, nx⟩
  · have e : i = n := by omega
    subst e
    exact .inl (stop H p)
theorem bf {b : Bool} (h : ¬ b = true) : b = false := by
  cases b with
  | true => exact absurd rfl h
  | false => rfl
end GX

namespace RS
open PySem PySem.Spec PyProof.Rows L2 GX
/-! ### defs as constants of the module -/
/-- the def st stands as the module's x; c: its code object -/
structure DefAt (K : PySem.W.Frag) (mg : Str → Option Value) (x : Str) (st : Stmt) (c : Addr) : Prop where
  ex : ∃ (f : Addr) (oc : Value) (od : Option Addr) (kV doc pm : Value) (an : Option Addr) (ct : Value) (osl : Array (Option Value)),
    mg x = some (.ref f) ∧ K.lookup f = some ⟨oc, od, .func (PySem.W.fnOf x x (defArgs st) (defBody st) (defScope st) .none kV doc pm an (.ref c) ct), osl⟩ ∧
    PySem.W.codeIn K (.ref c) x = true ∧ PySem.W.keepIn K (.ref f) = true
/-- what a caller needs of a def: its promise -/
structure Cal (P : Program) (w : World) (K : PySem.W.Frag) (mg : Str → Option Value) (base : Heap) (CX : CXT) (k : Nat) (x : Str) (ps : List Str) (sp : Sp) : Prop where
  ex : ∃ (f : Addr) (fd : FuncData), FnOk P w K mg base CX k f fd ps sp ∧ mg x = some (.ref f) ∧ PySem.W.keepIn K (.ref f) = true ∧ Binds K fd ps []
section
variable {P : Program} {w : World} {K : PySem.W.Frag} {mg : Str → Option Value} {base : Heap}
theorem def_ok {CX : CXT} {x : Str} {st : Stmt} {c : Addr} {N ps : List Str} {k : Nat} {sp : Sp} (D : DefAt K mg x st c) (S : FnScope N ps (defScope st)) (len : ∀ vs H Q E, sp vs H Q E → vs.length = ps.length)
    (hb : ∀ (kV doc pm : Value) (an : Option Addr) (cdv ct : Value) (us : List Value), us.length = ps.length → bindArgs (PySem.W.fnOf x x (defArgs st) (defBody st) (defScope st) .none kV doc pm an cdv ct) ⟨us, []⟩ = pure (ps.zip us))
    (hbody : ∀ (f : Addr) (A : Around) (outer : List Env) (s : Shared) (H : Hp) (vs : List V) (Q : VK) (E : XK), Room k (A.deeper (envOfC x (defScope st) s.heap.objs.size f (.ref c))) → sp vs H Q E →
      ∃ t, PSs (cxOf CX P w K mg base N x (defScope st) f (.ref c) A outer s H E) (defBody st) t ∧ t { nx := fun _ H' => Q .non H', rt := Q } (start N vs) H) :
    Cal P w K mg base CX (k + 1) x ps sp := by
  obtain ⟨f, oc, od, kV, doc, pm, an, ct, osl, hm, lk, hcd, kp⟩ := D.ex
  exact ⟨f, _, fn_of lk hcd S len fun A outer s H vs Q E hr hsp => hbody f A outer s H vs Q E hr hsp, hm, kp, .all (hb kV doc pm an (.ref c) ct)⟩
/-- .. that no exception leaves -/
theorem def_ok0 {x : Str} {st : Stmt} {c : Addr} {N ps : List Str} {k : Nat} {sp : Sp} (D : DefAt K mg x st c) (S : FnScope N ps (defScope st)) (len : ∀ vs H Q E, sp vs H Q E → vs.length = ps.length)
    (hb : ∀ (kV doc pm : Value) (an : Option Addr) (cdv ct : Value) (us : List Value), us.length = ps.length → bindArgs (PySem.W.fnOf x x (defArgs st) (defBody st) (defScope st) .none kV doc pm an cdv ct) ⟨us, []⟩ = pure (ps.zip us))
    (hbody : ∀ (f : Addr) (A : Around) (outer : List Env) (s : Shared) (H : Hp) (vs : List V) (Q : VK) (E : XK), Room k (A.deeper (envOfC x (defScope st) s.heap.objs.size f (.ref c))) → sp vs H Q E →
      ∃ t, PSs (cxOf CX0 P w K mg base N x (defScope st) f (.ref c) A outer s H E).nox (defBody st) t ∧ t { nx := fun _ H' => Q .non H', rt := Q } (start N vs) H) :
    Cal P w K mg base CX0 (k + 1) x ps sp :=
  def_ok D S len hb fun f A outer s H vs Q E hr hsp => by
    obtain ⟨t, ht, q⟩ := hbody f A outer s H vs Q E hr hsp
    exact ⟨t, ht.nox, q⟩
end
section
variable {X : Cx} {CX : CXT} {k j : Nat} {ps : List Str} {sp : Sp} {E : XK} {x : Str} {p pos : Pos} {e : Expr} {es : List Expr} {t : TA}
theorem pe_c (c : Cal X.prog X.w X.K X.mg X.base CX k x ps sp) (hr : Room j X.A) (hk : k ≤ j) (hg : Gl X x) (hx : Passes CX X E) (ha : PA X (e :: es) t) (hdb : (x == ("__debug__" : Str)) = false := by decide)
    (he : starEach (e :: es) X.env = (false, eval e X.env) :: starEach es X.env := by rfl) (hpl : (backTo pos (starEach es X.env)).any (·.1) = false := by rfl) :
    PE X (.Call (.Name x p) (e :: es) [] pos) (tCall sp [] E t) := by
  obtain ⟨f, fd, F, hm, kp, hb⟩ := c.ex
  exact pe_call F (hr.mono hk) hg hm kp hb .nil hx ha hdb he hpl
end

/-! ### data -/
theorem sqT_same {K : PySem.W.Frag} {H H' : Hp} {a : Addr} {xs : List V} (e : Same H H') (h : SqT K H a xs) : SqT K H' a xs := by
  rcases h with (h | ⟨o, h⟩) | h
  · exact .inl (.inl (e _ _ h))
  · exact .inl (.inr ⟨o, e _ _ h⟩)
  · exact .inr h
mutual
theorem dp_same {K : PySem.W.Frag} {H H' : Hp} (e : Same H H') : ∀ (d : PyData) {v : V}, Dp K H v d → Dp K H' v d
  | .none, _, .non => .non
  | .bool b, _, .bl _ => .bl b
  | .int i, _, .int _ => .int i
  | .str x, _, .str _ => .str x
  | .list ds, _, .lst h hs => .lst (e.seq h) (dpAll_same e ds hs)
  | .tuple ds, _, .tup h hs => .tup (sqT_same e h) (dpAll_same e ds hs)
  | .dict _, _, h => nomatch h
theorem dpAll_same {K : PySem.W.Frag} {H H' : Hp} (e : Same H H') : ∀ (ds : List PyData) {vs : List V}, DpAll K H vs ds → DpAll K H' vs ds
  | [], _, .nil => .nil
  | d :: ds, _, .cons h hs => .cons (dp_same e d h) (dpAll_same e ds hs)
end
theorem dpLen {K : PySem.W.Frag} {H : Hp} : ∀ {vs : List V} {ds : List PyData}, DpAll K H vs ds → vs.length = ds.length
  | _, _, .nil => rfl
  | _, _, .cons _ t => congrArg (· + 1) (dpLen t)
theorem dpGet {K : PySem.W.Frag} {H : Hp} : ∀ {vs : List V} {ds : List PyData} {i : Nat} {v : V}, DpAll K H vs ds → vs[i]? = some v → ∃ d, ds[i]? = some d ∧ Dp K H v d
  | _, _, _, _, .nil, e => by simp at e
  | _, _, 0, _, .cons h _, e => by
    simp at e
    subst e
    exact ⟨_, rfl, h⟩
  | _, _, i + 1, v, .cons _ t, e => by
    obtain ⟨d, h1, h2⟩ := dpGet (i := i) (v := v) t (by simpa using e)
    exact ⟨d, by simpa using h1, h2⟩
theorem dpGet' {K : PySem.W.Frag} {H : Hp} {vs : List V} {ds : List PyData} {i : Nat} {d : PyData} (h : DpAll K H vs ds) (e : ds[i]? = some d) : ∃ v, vs[i]? = some v ∧ Dp K H v d := by
  have hl := dpLen h
  have hi : i < vs.length := by
    rw [hl]
    exact (List.getElem?_eq_some_iff.mp e).1
  obtain ⟨d', e', h'⟩ := dpGet h (List.getElem?_eq_getElem hi)
  rw [e] at e'
  cases e'
  exact ⟨_, List.getElem?_eq_getElem hi, h'⟩
theorem dpApp {K : PySem.W.Frag} {H : Hp} : ∀ {vs ws : List V} {ds es : List PyData}, DpAll K H vs ds → DpAll K H ws es → DpAll K H (vs ++ ws) (ds ++ es)
  | _, _, _, _, .nil, h => h
  | _, _, _, _, .cons h t, q => .cons h (dpApp t q)

/-- the name of a datum's type -/
def tyN : PyData → String
  | .none => "NoneType"
  | .bool _ => "bool"
  | .int _ => "int"
  | .str _ => "str"
  | .list _ => "list"
  | .tuple _ => "tuple"
  | .dict _ => "dict"
/-- isinstance(d, T), d's type being n -/
def isT (T n : String) : Bool := T == n || (T == "int" && n == "bool")
def isI (T : String) (d : PyData) : Bool := isT T (tyN d)
theorem kit_names : ∀ n ∈ ["NoneType", "bool", "int", "str", "list", "tuple"], ∀ T ∈ ["int", "bool", "str", "list", "tuple"], kitB n T = some (isT T n) := by decide +kernel
theorem dp_ty {K : PySem.W.Frag} {H : Hp} {v : V} {d : PyData} (h : Dp K H v d) : TyX K H v (.type (tyN d)) := by
  cases h with
  | non => exact .base .non
  | bl b => exact .base (.bl b)
  | int i => exact .base (.int i)
  | str x => exact .base (.str x)
  | lst q _ =>
    rcases q with (q | ⟨o, q⟩) | ⟨o, its, n, q, c, _⟩
    · exact .base (.lst q)
    · exact .base (.frz q)
    · exact .kList q c
  | tup q _ =>
    rcases q with (q | ⟨o, q⟩) | ⟨o, its, n, q, c, _⟩
    · exact .base (.tup q)
    · exact .fTuple q
    · exact .kTuple q c
theorem kit_isI {K : PySem.W.Frag} {T : String} (hT : T ∈ ["int", "bool", "str", "list", "tuple"]) {H : Hp} {v : V} {d : PyData} (h : Dp K H v d) : PySem.W.kitOne K (.type (tyN d)) (.type T) = some (isI T d) := by
  refine kit_ty (kit_names _ ?_ _ hT)
  cases h <;> simp [tyN]
theorem isi_at {K : PySem.W.Frag} {H : Hp} {v : V} {d : PyData} {T : String} {Q : VK} (h : Dp K H v d) (q : Q (.bl (isI T d)) H) (hT : T ∈ ["int", "bool", "str", "list", "tuple"] := by simp) : rIsi K [v, .ty T] H Q :=
  ⟨v, .ty T, _, _, isI T d, rfl, .ty T, dp_ty h, kit_isI hT h, q⟩
end RS
set_option Elab.async false
set_option maxRecDepth 100000
set_option maxHeartbeats 4000000
namespace RS
open PySem PySem.Spec PyProof.Rows L2 GX
section
variable {X : Cx}
/-! ### rules whose readings speak of data -/
/-- isinstance(x, T) -/
theorem call_isiD : CallR X (.builtin "isinstance") (fun xs H Q => ∃ x T d, xs = [x, .ty T] ∧ T ∈ ["int", "bool", "str", "list", "tuple"] ∧ Dp X.K H x d ∧ Q (.bl (isI T d)) H) := by
  intro pins s σ H xs us Q I r ⟨x, T, d, e, hT, hd, q⟩
  subst e
  exact call_isi pins s σ H _ us Q I r ⟨x, .ty T, _, _, isI T d, rfl, .ty T, dp_ty hd, kit_isI hT hd, q⟩
/-- how many items -/
def lenD : PyData → Option Nat
  | .list ds => some ds.length
  | .tuple ds => some ds.length
  | .str x => if x.length ≤ sizeLine then some x.length else none
  | _ => none
/-- len(x) of a list, a tuple, a text -/
theorem call_lenD : CallR X (.builtin "len") (fun xs H Q => ∃ x d n, xs = [x] ∧ Dp X.K H x d ∧ lenD d = some n ∧ Q (.int n) H) := by
  intro pins s σ H xs us Q I r ⟨x, d, n, e, hd, hn, q⟩
  subst e
  cases hd with
  | non => cases hn
  | bl _ => cases hn
  | int _ => cases hn
  | str y =>
    simp only [lenD] at hn
    split at hn
    · rename_i hz
      cases hn
      exact call_len_str pins s σ H _ us Q I r ⟨y, rfl, hz, q⟩
    · cases hn
  | @lst a ys ds h hs =>
    cases hn
    rw [← dpLen hs] at q
    exact call_len_seq pins s σ H _ us Q I r ⟨a, ys, rfl, .inl h, q⟩
  | @tup a ys ds h hs =>
    cases hn
    rw [← dpLen hs] at q
    exact call_len_seq pins s σ H _ us Q I r ⟨a, ys, rfl, .inr h, q⟩
/-- the items of a list or tuple -/
def itemsD : PyData → Option (List PyData)
  | .list ds => some ds
  | .tuple ds => some ds
  | _ => none
/-- x[i] of a list or a tuple -/
theorem ixD : IxR X (fun x y H Q => ∃ d ds i d', Dp X.K H x d ∧ itemsD d = some ds ∧ y = .int i ∧ atI ds i = some d' ∧ ∀ v, Dp X.K H v d' → Q v H) := by
  intro value slice pins s σ H x y v u Q I rx ry ⟨d, ds, i, d', hd, hi, ey, ha, q⟩ hs
  have at_ : ∀ {vs : List V}, DpAll X.K H vs ds → ∃ v, atI vs i = some v ∧ Dp X.K H v d' := fun {vs} hv => by
    unfold atI at ha ⊢
    rw [← dpLen hv] at ha
    cases hx : ixN vs.length i with
    | none => rw [hx] at ha; cases ha
    | some j =>
      rw [hx] at ha
      exact dpGet' hv ha
  cases hd with
  | non => cases hi
  | bl _ => cases hi
  | int _ => cases hi
  | str _ => cases hi
  | @lst a ys es h hes =>
    cases hi
    obtain ⟨z, hz, hzd⟩ := at_ hes
    exact ix_list value slice pins s σ H _ y v u Q I rx ry ⟨a, ys, i, z, rfl, ey, h, hz, q z hzd⟩ hs
  | @tup a ys es h hes =>
    cases hi
    obtain ⟨z, hz, hzd⟩ := at_ hes
    exact ix_tup value slice pins s σ H _ y v u Q I rx ry ⟨a, ys, i, z, rfl, ey, h, hz, q z hzd⟩ hs
end
end RS
set_option Elab.async false
set_option maxRecDepth 100000
set_option maxHeartbeats 4000000
namespace RS
open PySem L2
def top (i : Nat) : Stmt := PySem.Challenge.pw_runsorts_k22_texts_refused.main.body.getD i (.Pass ⟨0, 0, 0, 0⟩)

abbrev s_BadRows_init : Stmt := inClass (top 4) 0
abbrev s_BadRuns_init : Stmt := inClass (top 5) 0
abbrev s_BadText_init : Stmt := inClass (top 16) 0
abbrev sIsNumber : Stmt := top 21
abbrev sIsPart : Stmt := top 22
abbrev sCheckKinds : Stmt := top 23
abbrev sCheckOrder : Stmt := top 24
abbrev s_check_lengths : Stmt := top 30
abbrev s_check_ways : Stmt := top 31
abbrev s_check_plan : Stmt := top 32
abbrev s_check_merging : Stmt := top 33
abbrev s_written_order : Stmt := top 35
abbrev s_read_order : Stmt := top 36
abbrev s_written_plan : Stmt := top 37
abbrev s_plan_text : Stmt := top 38
abbrev s_read_plan : Stmt := top 39
abbrev s_put_together : Stmt := top 40
abbrev s_may_stand : Stmt := top 41
abbrev s_is_figures : Stmt := top 42
abbrev sBegun : Stmt := top 44
abbrev sTake : Stmt := top 45
abbrev sAlike : Stmt := top 46
abbrev sClass : Stmt := top 47
abbrev sTold : Stmt := top 48
abbrev sAll : Stmt := top 49
abbrev sKinds : Stmt := top 50
abbrev sOrder : Stmt := top 51
abbrev sValue : Stmt := top 52
abbrev sRows : Stmt := top 53
abbrev sAhead : Stmt := top 54
abbrev sSorted : Stmt := top 55
abbrev sPairs : Stmt := top 56
abbrev s__law_lengths : Stmt := top 57
abbrev s__law_plan : Stmt := top 58
abbrev s__law_side : Stmt := top 59
abbrev s__law_in : Stmt := top 60
abbrev s__law_cost : Stmt := top 61
abbrev s__law_fits : Stmt := top 62
abbrev s__law_number : Stmt := top 63
abbrev s__law_order_due : Stmt := top 64
abbrev s__law_plan_due : Stmt := top 65
abbrev s__law_spoilt : Stmt := top 66
abbrev sLaw : Stmt := top 67

abbrev nKinds : Str := "_law_kinds_here"

/-- what the module's names hold -/
structure Txt (K : PySem.W.Frag) (mg : Str → Option Value) : Prop where
  isinstance : mg "isinstance" = none
  int_ : mg "int" = none
  bool_ : mg "bool" = none
  str_ : mg "str" = none
  list_ : mg "list" = none
  tuple_ : mg "tuple" = none
  len : mg "len" = none
  all : mg "all" = none
  zip : mg "zip" = none
  enumerate : mg "enumerate" = none
  ord : mg "ord" = none
  range : mg "range" = none
  sorted : mg "sorted" = none
  max : mg "max" = none
  min : mg "min" = none
  columns : ∃ t, mg "MOST_COLUMNS" = some (.int 4 t)
  lengths : ∃ t, mg "MOST_LENGTHS" = some (.int 40 t)
  length : ∃ t, mg "MOST_LENGTH" = some (.int 1000000 t)
  leastw : ∃ t, mg "LEAST_WAYS" = some (.int 2 t)
  mostw : ∃ t, mg "MOST_WAYS" = some (.int 6 t)
  kinds : ∃ a, mg "KINDS" = some (.ref a) ∧ ∀ H, SqT K H a [.str "number", .str "word"]
  ways : ∃ a, mg "WAYS" = some (.ref a) ∧ ∀ H, SqT K H a [.str "up", .str "down"]
end RS
set_option Elab.async false
set_option maxRecDepth 100000
set_option maxHeartbeats 4000000
namespace RS
open PySem PySem.Spec PyProof.Rows L2 GX

/-! ### the mathematics: what a number, a word, a value, a row is -/
def isNum (d : PyData) : Bool := isI "int" d && !isI "bool" d

section
variable {P : Program} {w : World} {K : PySem.W.Frag} {mg : Str → Option Value} {base : Heap}
theorem scIsNumber : FnScope ["value"] ["value"] (defScope sIsNumber) := ⟨rfl, rfl, rfl, by decide +kernel, rfl, by decide +kernel, by decide +kernel⟩
def spNum (K : PySem.W.Frag) : Sp := fun vs H Q _ => ∃ (v : V) (d : PyData), vs = [v] ∧ Dp K H v d ∧ Q (.bl (isNum d)) H
theorem is_number_ok {c : Addr} (D : DefAt K mg "is_number" sIsNumber c) (T : Txt K mg) : Cal P w K mg base CX0 1 "is_number" ["value"] (spNum K) := by
  have sc := scIsNumber
  refine def_ok0 D sc (fun vs H Q E h => ?_) (fun _ _ _ _ _ _ us hl => match us, hl with | [_], _ => rfl) (fun f A outer s H vs Q E hr h => ?_)
  · obtain ⟨v, d, rfl, _⟩ := h
    rfl
  · obtain ⟨v, d, rfl, hd, k⟩ := h
    refine ⟨_, (pss_one (ps_ret (pe_and (pe_callB call_isiD (by rfl) T.isinstance (by decide +kernel) (pa_cons (pv 0) (pa_cons (pe_bltn (v := V.ty "int") (u := Value.type "int") (by rfl) T.int_ (by decide +kernel) rfl) pa_nil))) (pe_one (pe_not (pe_callB call_isiD (by rfl) T.isinstance (by decide +kernel) (pa_cons (pv 0) (pa_cons (pe_bltn (v := V.ty "bool") (u := Value.type "bool") (by rfl) T.bool_ (by decide +kernel) rfl) pa_nil)))))))), ?_⟩
    refine ⟨_, rfl, _, _, _, rfl, by simp, hd, _, rfl, ?_⟩
    refine ite2 (fun h1 => ?_) (fun h1 => ?_)
    · refine ⟨_, rfl, _, _, _, rfl, by simp, hd, _, rfl, ?_⟩
      have e : isNum d = !isI "bool" d := by unfold isNum; rw [h1, Bool.true_and]
      rw [← e]
      exact k
    · have e : isNum d = false := by unfold isNum; rw [bf h1, Bool.false_and]
      rw [← e]
      exact k

end
end RS
set_option Elab.async false
set_option maxRecDepth 100000
set_option maxHeartbeats 4000000
namespace RS
open PySem PySem.Spec PyProof.Rows L2 GX

/-- many new objects are laid and tracked at once -/
theorem laid_many {X : Cx} {pins : List (Addr × Obj)} {σ : L2.St} {H H2 : Hp} {s : Shared} {g : Heap} {tk : Nat} (I : Inv X pins σ H s) (kp : ∀ b u, s.heap.get? b = some u → g.get? b = some u)
    (old : ∀ b, b < s.heap.objs.size → H2 b = H b) (new : ∀ b o, s.heap.objs.size ≤ b → H2 b = some o → ObjOk X.prog X.w H2 g b o) : Inv X pins σ H2 { s with heap := g, toks := tk } := by
  have up : ∀ b o, H b = some o → H2 b = some o := fun b o e => by rw [old b (I.hok.lt e)]; exact e
  refine I.un (t' := tk) ⟨fun b o e _ _ _ => kp b o e, fun b o e _ _ _ => ⟨o.slots, kp b o e⟩, fun b o e n _ => by rw [old b (Heap.lt_size e)]; exact n, fun b o e _ => ⟨o, kp b o e⟩,
    fun b xs e => up b _ e, fun b o u e => up b _ e, fun b ps e => ⟨#[], by rw [up b _ e, Array.append_empty]⟩⟩ (fun b o e => ?_)
  by_cases hb : b < s.heap.objs.size
  · rw [old b hb] at e
    exact (I.hok b o e).stay (fun c u _ q => kp c u q) (fun c q => up c _ q) (fun c xs q => up c _ q)
  · exact new b o (Nat.le_of_not_lt hb) e

theorem enum_no_len : typeLookup (.type "enumerate") "__len__" = pure none := by rw [typeLookup_type, builtinLookup_eq_fast]; kernel_rfl
theorem enum_no_hint : typeLookup (.type "enumerate") "__length_hint__" = pure none := by rw [typeLookup_type, builtinLookup_eq_fast]; kernel_rfl

/-- the enumeration e over the iterator it of the list l stands ahead of item i -/
def EnumAt (h : Heap) (e it l : Addr) (i : Nat) : Prop :=
  h.IsListIter it l i ∧ ((i = 0 ∧ IsEnum h e it 0 .none) ∨ ∃ (T : Addr) (f : Bool) (x : Value) (o : Obj), IsEnumHeld h e it (i : Int) x T f ∧ h.get? T = some o ∧ T ≠ e ∧ T ≠ it)
/-- the pairs that have been put into acc -/
def Pairs (h : Heap) (lo : Nat) (items : Array Value) (acc : Array Value) : Prop :=
  ∀ j v, acc[j]? = some v → ∃ (T : Addr) (tk : Nat) (x : Value), v = .ref T ∧ lo ≤ T ∧ items[j]? = some x ∧ h.get? T = some { cls := .type "tuple", data := .seq #[.int (j : Nat) tk, x] }
section
variable {prog : Program} {w : World} {A : Around} {s0 : Shared} {S e it l : Addr} {items : Array Value}
theorem enum_next {E : Value → Shared → Prop} {s : Shared} {i : Nat} {x : Value} {Q : Option Value → Shared → Prop} (hs : EnumAt s.heap e it l i) (hl : s.heap.IsList l items) (hx : items[i]? = some x) (hne : e ≠ it)
    (he : e < s.heap.objs.size) (hi : it < s.heap.objs.size)
    (hQ : ∀ g, EnumAt g e it l (i + 1) → g.get? s.heap.objs.size = some { cls := .type "tuple", data := .seq #[.int (i : Nat) s.toks, x] } → (∀ b o, b ≠ e → b ≠ it → s.heap.get? b = some o → g.get? b = some o) →
      Q (some (.ref s.heap.objs.size)) { s with heap := g, toks := s.toks + 1 }) : wpAny (model prog w) A (pyNext (.ref e)) Q E s := by
  obtain ⟨hit, ⟨rfl, h0⟩ | ⟨T, f, y, o, h1, hT, hTe, hTi⟩⟩ := hs
  · refine wpAny_pyNext_enum_item (i := 0) h0 hit hl hx hne fun g a b c _ d => hQ g ⟨b, .inr ⟨_, _, _, _, a, c, Nat.ne_of_gt he, Nat.ne_of_gt hi⟩⟩ c d
  · exact wpAny_pyNext_enum_item_held h1 hT hTe hTi hit hl hx hne fun g a b c _ d => hQ g ⟨b, .inr ⟨T, true, y, o, a, d T o hTe hTi hT, hTe, hTi⟩⟩ c d
theorem enum_stop {E : Value → Shared → Prop} {s : Shared} {i : Nat} {Q : Option Value → Shared → Prop} (hh : A.handled = none) (hs : EnumAt s.heap e it l i) (hl : s.heap.IsList l items) (hx : items[i]? = none)
    (hQ : ∀ g, Heap.ExtBut it s.heap g → Q none { s with heap := g }) : wpAny (model prog w) A (pyNext (.ref e)) Q E s := by
  obtain ⟨hit, ⟨rfl, h0⟩ | ⟨T, f, y, o, h1, hT, hTe, hTi⟩⟩ := hs
  · exact wpAny_pyNext_enum_end hh h0 hit hl hx hQ
  · exact wpAny_pyNext_enum_end_held hh h1 hit hl hx hQ

theorem enum_loop {R : Result → Shared → Prop} {res : Value} (hh : A.handled = none) (hne : e ≠ it) (hSe : S ≠ e) (hSi : S ≠ it) (hSl : S ≠ l) (hle : l ≠ e) (hli : l ≠ it) (lo : Nat) (hz : items.size ≤ sizeLine)
    (hend : ∀ g tk acc c, g.get? S = some (lstObj acc c) → acc.size = items.size → Pairs g lo items acc → (∀ b o, b ≠ e → b ≠ it → b ≠ S → s0.heap.get? b = some o → g.get? b = some o) → R (.ok (.ret res)) { s0 with heap := g, toks := tk }) :
    ∀ (k i : Nat) (g : Heap) (tk : Nat) (acc : Array Value) (c : Nat), items.size - i = k → i ≤ items.size → acc.size = i → g.get? S = some (lstObj acc c) → EnumAt g e it l i → g.IsList l items → lo ≤ g.objs.size → e < lo → it < lo → S < lo →
      Pairs g lo items acc → (∀ b o, b ≠ e → b ≠ it → b ≠ S → s0.heap.get? b = some o → g.get? b = some o) →
      codeAny (model prog w) A (.builtin "list.extend.loop" ⟨[.ref S, .ref e, res], []⟩) R { s0 with heap := g, toks := tk } := by
  intro k
  induction k with
  | zero =>
    intro i g tk acc c hk hi ha hS he hl hlo helo hilo hSlo hp hkp
    have hin : i = items.size := by omega
    refine codeAny_builtin F.entry_extend_loop ?_
    rw [Around.under_plainId F.plain_extend_loop _]
    show wpAny _ A.in1 (pyNext (.ref e) >>= _) _ _ _
    refine wpAny_bind (enum_stop (s := { s0 with heap := g, toks := tk }) hh he hl (by rw [hin]; simp) fun g2 ext => ?_)
    refine wpAny_pure (hend g2 tk acc c (ext S _ hSi hS) (by omega) (fun j v hv => ?_) (fun b o h1 h2 h3 q => ext b o h2 (hkp b o h1 h2 h3 q)))
    obtain ⟨T, tk', x, e1, e2, e3, e4⟩ := hp j v hv
    exact ⟨T, tk', x, e1, e2, e3, ext T _ (Nat.ne_of_gt (Nat.lt_of_lt_of_le hilo e2)) e4⟩
  | succ k ih =>
    intro i g tk acc c hk hi ha hS he hl hlo helo hilo hSlo hp hkp
    have hlt : i < items.size := by omega
    refine codeAny_builtin F.entry_extend_loop ?_
    rw [Around.under_plainId F.plain_extend_loop _]
    show wpAny _ A.in1 (pyNext (.ref e) >>= _) _ _ _
    refine wpAny_bind (enum_next (s := { s0 with heap := g, toks := tk }) he hl (Array.getElem?_eq_getElem hlt) hne (Nat.lt_of_lt_of_le helo hlo) (Nat.lt_of_lt_of_le hilo hlo) fun g2 he2 hT2 hk2 => ?_)
    have hS2 : g2.get? S = some (lstObj acc c) := hk2 S _ hSe hSi hS
    have gT : g.objs.size ≠ S := fun z => Nat.lt_irrefl _ (Nat.lt_of_lt_of_le (by rw [z]; exact hSlo) hlo)
    have gTe : g.objs.size ≠ e := fun z => Nat.lt_irrefl _ (Nat.lt_of_lt_of_le (by rw [z]; exact helo) hlo)
    have gTi : g.objs.size ≠ it := fun z => Nat.lt_irrefl _ (Nat.lt_of_lt_of_le (by rw [z]; exact hilo) hlo)
    show wpAny _ A.in1 (updateSeq S (·.push (.ref g.objs.size)) >>= _) _ _ _
    apply wpAny_bind
    refine wpAny_updateSeq hS2 rfl (wpAny_pure ⟨plainId_quiet F.plain_extend_loop _, ?_⟩) (by omega) (by show (acc.push _).size ≤ sizeLine + 1; rw [Array.size_push]; omega)
    have up : ∀ b o, b ≠ S → g2.get? b = some o → (g2.update S (Obj.mapSeq (·.push (.ref g.objs.size)))).get? b = some o := fun b o hb q => (Heap.get?_update_other _ _ (Ne.symm hb)).trans q
    have lt2 : g.objs.size < g2.objs.size := Heap.lt_size hT2
    refine ih (i + 1) _ _ (acc.push (.ref g.objs.size)) _ (by omega) hlt (by rw [Array.size_push]; omega) (Heap.get?_update_self _ hS2 rfl) ?_ ?_ ?_ helo hilo hSlo (fun j v hv => ?_) (fun b o h1 h2 h3 q => up b o h3 (hk2 b o h1 h2 (hkp b o h1 h2 h3 q)))
    · obtain ⟨⟨oi, hoi, r⟩, hd⟩ := he2
      refine ⟨⟨oi, up it oi (Ne.symm hSi) hoi, r⟩, ?_⟩
      rcases hd with ⟨z, q⟩ | ⟨T, f, x, o, q1, q2, q3, q4⟩
      · exact .inl ⟨z, up e _ (Ne.symm hSe) q⟩
      · by_cases hTS : T = S
        · subst hTS
          exact .inr ⟨T, f, x, _, up e _ (Ne.symm hSe) q1, Heap.get?_update_self _ hS2 rfl, q3, q4⟩
        · exact .inr ⟨T, f, x, o, up e _ (Ne.symm hSe) q1, up T o hTS q2, q3, q4⟩
    · obtain ⟨ol, hol, r⟩ := hl
      exact ⟨ol, up l ol (Ne.symm hSl) (hk2 l ol hle hli hol), r⟩
    · rw [Heap.size_update]
      exact Nat.le_trans hlo (Nat.le_of_lt lt2)
    · rw [Array.getElem?_push] at hv
      split at hv
      · rename_i hj
        cases hv
        have ej : j = i := by omega
        subst ej
        exact ⟨g.objs.size, tk, items[j], rfl, hlo, Array.getElem?_eq_getElem hlt, up _ _ gT hT2⟩
      · obtain ⟨T, tk', x, e1, e2, e3, e4⟩ := hp j v hv
        have nTS : T ≠ S := Nat.ne_of_gt (Nat.lt_of_lt_of_le hSlo e2)
        exact ⟨T, tk', x, e1, e2, e3, up T _ nTS (hk2 T _ (Nat.ne_of_gt (Nat.lt_of_lt_of_le helo e2)) (Nat.ne_of_gt (Nat.lt_of_lt_of_le hilo e2)) e4)⟩
end
end RS
set_option Elab.async false
set_option maxRecDepth 100000
set_option maxHeartbeats 4000000
namespace RS
open PySem PySem.Spec PyProof.Rows L2 GX

/-- list(e), e an enumeration of the list l that has just been made -/
theorem list_of_enum {P : Program} {w : World} {A : Around} {E : Value → Shared → Prop} {s : Shared} {e it l : Addr} {items : Array Value} {Q : Value → Shared → Prop} (hh : A.handled = none) (he : IsEnum s.heap e it 0 .none) (hit : s.heap.IsListIter it l 0) (hl : s.heap.IsList l items)
    (hne : e ≠ it) (hle : l ≠ e) (hli : l ≠ it) (hz : items.size ≤ sizeLine)
    (hQ : ∀ g tk acc c, g.get? s.heap.objs.size = some (lstObj acc c) → acc.size = items.size → Pairs g (s.heap.objs.size + 1) items acc → (∀ b o, b ≠ e → b ≠ it → s.heap.get? b = some o → g.get? b = some o) → Q (.ref s.heap.objs.size) { s with heap := g, toks := tk }) :
    wpAny (model P w) A (call (.type "list") [.ref e]) Q E s := by
  have lte : e < s.heap.objs.size := Heap.lt_size he
  have lti : it < s.heap.objs.size := by obtain ⟨o, ho, _⟩ := hit; exact Heap.lt_size ho
  have ltl : l < s.heap.objs.size := by obtain ⟨o, ho, _⟩ := hl; exact Heap.lt_size ho
  have hSe : s.heap.objs.size ≠ e := Nat.ne_of_gt lte
  have tyE : ∀ {g : Heap}, (∀ b o, s.heap.get? b = some o → g.get? b = some o) → ({ s with heap := g } : Shared).TypeIs (.ref e) "enumerate" := fun {g} q => ⟨_, q _ _ he, rfl⟩
  refine callType_codes (Q₁ := fun obj s₁ => obj = .ref s.heap.objs.size ∧ s₁ = { s with heap := s.heap.push { cls := .type "list", data := .seq #[] } }) PySem.F.called_list (PySem.F.typeCall_list_1 _) PySem.F.entry_list_init
    (code_list_new _ ⟨rfl, rfl⟩) fun obj s₁ h₁ => ?_
  obtain ⟨rfl, rfl⟩ := h₁
  have hS : (s.heap.push { cls := .type "list", data := .seq #[] }).get? s.heap.objs.size = some { cls := .type "list", data := .seq #[] } := Heap.get?_push_size _ rfl
  refine ⟨⟨_, hS, rfl⟩, PySem.F.args_list_init_2 _ _, ?_⟩
  show wpAny _ A.in1.in1 (do
    let old ← Builtin.List.listItems (.ref s.heap.objs.size)
    Builtin.List.listUpdate (.ref s.heap.objs.size) (fun _ => #[])
    letGo old.toList.reverse
    Builtin.List.listExtendWith (.ref s.heap.objs.size) (.ref e) .none) _ _ _
  apply wpAny_bind
  unfold Builtin.List.listItems
  refine wpAny_bind (wpAny_seqItems hS rfl (wpAny_pure ?_))
  show wpAny _ A.in1.in1 (updateSeq s.heap.objs.size (fun _ => #[]) >>= fun _ => letGo (#[] : Array Value).toList.reverse >>= fun _ =>
    Builtin.List.listExtendWith (.ref s.heap.objs.size) (.ref e) .none) _ _ _
  refine wpAny_bind (wpAny_updateSeq hS rfl ?_)
  have hS2 := Heap.get?_update_self (Obj.mapSeq (fun _ => (#[] : Array Value))) hS rfl
  apply wpAny_bind
  apply wpAny_letGo
  unfold Builtin.List.listExtendWith
  have up : ∀ (h : Heap) (f : Obj → Obj), (∀ b o, s.heap.get? b = some o → h.get? b = some o) → ∀ b o, s.heap.get? b = some o → (h.update s.heap.objs.size f).get? b = some o := fun h f q b o y =>
    (Heap.get?_update_other _ _ (Ne.symm (Nat.ne_of_lt (Heap.lt_size y)))).trans (q b o y)
  have k1 : ∀ b o, s.heap.get? b = some o → (s.heap.push { cls := .type "list", data := .seq #[] }).get? b = some o := fun b o y => Heap.get?_push_of_some _ y
  have k2 := up _ (Obj.mapSeq (fun _ => (#[] : Array Value))) k1
  apply wpAny_bind
  refine wpAny_typeOf (tyE k2) ?_
  have h1 : Builtin.List.listSameRef (.ref s.heap.objs.size) (.ref e) = false := by simp [Builtin.List.listSameRef, hSe]
  have h2 : (Value.type "enumerate" == Value.type "list") = false := by decide
  have h3 : (Value.type "enumerate" == Value.type "tuple") = false := by decide
  simp only [h1, h2, h3, Bool.or_false, Bool.false_eq_true, if_false]
  apply wpAny_bind
  refine wpAny_pyIter_enum (s := { s with heap := _ }) (k2 _ _ he) ?_
  apply wpAny_bind
  apply wpAny_holding
  unfold Builtin.List.listLengthHint
  apply wpAny_bind
  refine wpAny_specialOf (tyE k2) enum_no_len ?_
  show wpAny _ A.in1.in1 (specialOf (Value.ref e) (Str.ofString "__length_hint__") >>= _) _ _ _
  apply wpAny_bind
  refine wpAny_specialOf (tyE k2) enum_no_hint ?_
  apply wpAny_pure
  show wpAny _ A.in1.in1 (rule "list.extend.makes-room" >>= fun _ => Builtin.List.listTouch (.ref s.heap.objs.size) >>= fun _ =>
    again (.builtin "list.extend.loop" ⟨[.ref s.heap.objs.size, .ref e, .none], []⟩)) _ _ _
  apply wpAny_bind
  apply wpAny_rule
  apply wpAny_bind
  show wpAny _ A.in1.in1 (updateSeq s.heap.objs.size (·.push .none) >>= fun _ => updateSeq s.heap.objs.size (·.pop)) _ _ _
  refine wpAny_bind (wpAny_updateSeq hS2 rfl ?_)
  have hS3 := Heap.get?_update_self (Obj.mapSeq (·.push Value.none)) hS2 rfl
  refine wpAny_updateSeq (hz := by seq_fits) hS3 rfl ?_
  have hS4 := Heap.get?_update_self (Obj.mapSeq (·.pop)) hS3 rfl
  have k4 := up _ (Obj.mapSeq (·.pop)) (up _ (Obj.mapSeq (·.push Value.none)) k2)
  refine wpAny_pure ⟨plainId_quiet PySem.F.plain_extend_loop _, ?_⟩
  refine enum_loop (s0 := s) (A := A.in1) (S := s.heap.objs.size) hh hne hSe (Nat.ne_of_gt lti) (Nat.ne_of_gt ltl) hle hli (s.heap.objs.size + 1) hz
    (fun g tk acc c q1 q2 q3 q4 => ⟨rfl, hQ g tk acc c q1 q2 q3 fun b o n1 n2 y => q4 b o n1 n2 (Nat.ne_of_lt (Heap.lt_size y)) y⟩) items.size 0 _ s.toks #[] _ (Nat.sub_zero _) (Nat.zero_le _) rfl hS4 ⟨?_, .inl ⟨rfl, k4 _ _ he⟩⟩ ?_ ?_
    (Nat.lt_succ_of_lt lte) (Nat.lt_succ_of_lt lti) (Nat.lt_succ_self _) (fun j v hv => by simp at hv) (fun b o _ _ _ y => k4 b o y)
  · obtain ⟨o, ho, r⟩ := hit
    exact ⟨o, k4 _ _ ho, r⟩
  · obtain ⟨o, ho, r⟩ := hl
    exact ⟨o, k4 _ _ ho, r⟩
  · exact Heap.lt_size hS4

/-- list(enumerate(e)) -/
def tLE (K : PySem.W.Frag) (te : TE) : TE := fun σ H Q => te σ H fun v H1 => ∃ a xs, v = .ref a ∧ SqL K H1 a xs ∧
  ∀ (H2 : Hp) (p : Addr) (ts : List Addr), Same H1 H2 → H1 p = none → H2 p = some (.lst (ts.map V.ref)) → ts.length = xs.length →
    (∀ (i : Nat) (x : V), xs[i]? = some x → ∃ T, ts[i]? = some T ∧ H1 T = none ∧ H2 T = some (.tup [.int i, x])) → Q (.ref p) H2
section
variable {X : Cx} {e : Expr} {te : TE} {p1 p2 q1 q2 : Pos}
theorem pe_le (hc : X.calm = true) (hg : Gl X "list") (hm : X.mg "list" = none) (hg2 : Gl X "enumerate") (hm2 : X.mg "enumerate" = none) (he : PE X e te)
    (hs : starEach [e] X.env = [(false, eval e X.env)] := by rfl)
    (hs2 : starEach [.Call (.Name "enumerate" q1) [e] [] q2] X.env = [(false, eval (.Call (.Name "enumerate" q1) [e] [] q2) X.env)] := by rfl) :
    PE X (.Call (.Name "list" p1) [.Call (.Name "enumerate" q1) [e] [] q2] [] p2) (tLE X.K te) := by
  refine ⟨fun pins s σ H Q I h => ?_⟩
  refine wpAny_Call_Name_kw (ld_blt I hg hm (show bootBuiltins "list" = some (.type "list") by decide +kernel) ?_)
  refine PyProof.Rows.callWith_type1 ?_ hs2 rfl
  rw [hs2]
  show wpAny _ _ (spliced [(false, eval (.Call (.Name "enumerate" q1) [e] [] q2) X.env)]) _ _ s
  refine Calls.spliced_cons ?_
  refine wpAny_Call_Name_kw (ld_blt I hg2 hm2 (show bootBuiltins "enumerate" = some (.type "enumerate") by decide +kernel) ?_)
  refine PyProof.Rows.callWith_type1 ?_ hs rfl
  rw [hs]
  show wpAny _ _ (spliced [(false, eval e X.env)]) _ _ s
  refine Calls.spliced_cons (thn (he.run pins s σ H _ I h) fun u s1 ⟨v, H1, I1, r1, a, xs, ev, hq, q⟩ => ?_)
  subst ev
  cases r1
  obtain ⟨its, rv, pl, hz⟩ := I1.list hq
  have lits : its.toArray.size = xs.length := by rw [List.size_toArray]; exact rv.length.symm
  have lta : a < s1.heap.objs.size := by obtain ⟨o, ho, _⟩ := pl.isList; exact Heap.lt_size ho
  refine Calls.spliced_nil ?_
  refine call_enumerate_list pl.isList fun g hen hit hsz hk => ?_
  refine Calls.spliced_nil ?_
  have I2 : Inv X pins σ H1 { s1 with heap := g } := I1.kept (t' := s1.toks) hk
  have hl2 : g.IsList a its.toArray := by
    obtain ⟨o, ho, r⟩ := pl.isList
    exact ⟨o, hk _ _ ho, r⟩
  refine list_of_enum (s := { s1 with heap := g }) (I1.ok.hd hc) hen hit hl2 (Nat.succ_ne_self _) (Nat.ne_of_lt (Nat.lt_succ_of_lt lta)) (Nat.ne_of_lt lta) (by rw [lits]; exact hz) fun g2 tk acc c hS ha hp hk2 => ?_
  -- what is new
  have szg : g.objs.size = s1.heap.objs.size + 2 := hsz
  have kall : ∀ b o, s1.heap.get? b = some o → g2.get? b = some o := fun b o y => by
    have lt := Heap.lt_size y
    exact hk2 b o (Nat.ne_of_lt (Nat.lt_succ_of_lt lt)) (Nat.ne_of_lt lt) (hk b o y)
  have sym : ∀ (i : Nat) (x : V), xs[i]? = some x → ∃ (T : Addr) (tk' : Nat) (u : Value), acc[i]? = some (.ref T) ∧ g.objs.size + 1 ≤ T ∧ RelV x u ∧ g2.get? T = some { cls := .type "tuple", data := .seq #[.int (i : Nat) tk', u] } := fun i x hx => by
    have hi : i < acc.size := by
      rw [ha, lits]
      exact (List.getElem?_eq_some_iff.mp hx).1
    obtain ⟨T, tk', u, e1, e2, e3, e4⟩ := hp i _ (Array.getElem?_eq_getElem hi)
    obtain ⟨u', hu', ru⟩ := rv.get hx
    have e3' : its[i]? = some u := by simpa using e3
    rw [hu'] at e3'
    cases e3'
    exact ⟨T, tk', u, by rw [Array.getElem?_eq_getElem hi, e1], e2, ru, e4⟩
  let adr : Value → Addr := fun v => match v with | .ref b => b | _ => 0
  have hts : ∀ v ∈ acc.toList, v = .ref (adr v) := fun v hv => by
    obtain ⟨j, hj⟩ := List.getElem?_of_mem hv
    obtain ⟨T, _, _, e1, _⟩ := hp j v (by simpa using hj)
    rw [e1]
  have tlen : (acc.toList.map adr).length = xs.length := by rw [List.length_map, Array.length_toList, ha, lits]
  have tget : ∀ (i : Nat) (x : V), xs[i]? = some x → ∃ (T : Addr) (tk' : Nat) (u : Value), (acc.toList.map adr)[i]? = some T ∧ g.objs.size + 1 ≤ T ∧ RelV x u ∧ g2.get? T = some { cls := .type "tuple", data := .seq #[.int (i : Nat) tk', u] } := fun i x hx => by
    obtain ⟨T, tk', u, e1, e2, e3, e4⟩ := sym i x hx
    refine ⟨T, tk', u, ?_, e2, e3, e4⟩
    rw [List.getElem?_map, Array.getElem?_toList, e1]
    rfl
  -- the new abstract heap
  let mk : Addr → Option HO := fun b => if b = g.objs.size then some (.lst ((acc.toList.map adr).map V.ref)) else
    match (List.range xs.length).find? (fun i => (acc.toList.map adr)[i]? == some b) with
    | some i => (xs[i]?).map fun x => .tup [.int (i : Nat), x]
    | none => none
  let H2 : Hp := fun b => if b < g.objs.size then H1 b else mk b
  have at_T : ∀ (i : Nat) (x : V) (T : Addr), xs[i]? = some x → (acc.toList.map adr)[i]? = some T → H2 T = some (.tup [.int (i : Nat), x]) := fun i x T hx hT => by
    obtain ⟨T', tk', u, f1, f2, _, f4⟩ := tget i x hx
    rw [hT] at f1
    cases f1
    show (if T < g.objs.size then H1 T else if T = g.objs.size then _ else _) = _
    rw [if_neg (Nat.not_lt.mpr (Nat.le_of_succ_le f2)), if_neg (Nat.ne_of_gt f2)]
    cases hf : (List.range xs.length).find? (fun i => (acc.toList.map adr)[i]? == some T) with
    | none =>
      have z := List.find?_eq_none.mp hf i (List.mem_range.mpr (List.getElem?_eq_some_iff.mp hx).1)
      rw [hT] at z
      simp at z
    | some j =>
      have hj := List.find?_some hf
      have hj2 := List.mem_range.mp (List.mem_of_find?_eq_some hf)
      have hj3 : (acc.toList.map adr)[j]? = some T := by simpa using hj
      obtain ⟨T2, tk2, u2, g1, _, g3, g4⟩ := tget j xs[j] (List.getElem?_eq_getElem hj2)
      rw [hj3] at g1
      cases g1
      rw [f4] at g4
      have e0 : (#[Value.int (i : Nat) tk', u] : Array Value) = #[.int (j : Nat) tk2, u2] := by
        injection (Option.some.inj g4) with _ _ d
        injection d
      have e5 : i = j := by
        have z := congrArg (fun a : Array Value => a[0]?) e0
        simp at z
        omega
      subst e5
      show Option.map (fun x => HO.tup [V.int (i : Nat), x]) xs[i]? = _
      rw [hx]
      rfl
  have I3 : Inv X pins σ H2 { s1 with heap := g2, toks := tk } := by
    have I3 := laid_many (H2 := H2) (g := g2) (tk := tk) I1 kall (fun b hb => if_pos (show b < g.objs.size by omega)) (fun b o hb e => ?_)
    · exact I3
    · by_cases h1 : b < g.objs.size
      · have e' : H1 b = some o := (if_pos h1).symm.trans e
        rw [I1.hok.fresh hb] at e'
        cases e'
      · have e' : mk b = some o := (if_neg h1).symm.trans e
        by_cases h2 : b = g.objs.size
        · have e2 : some (HO.lst ((acc.toList.map adr).map V.ref)) = some o := (if_pos h2).symm.trans e'
          cases e2
          subst h2
          refine ⟨by rw [List.length_map, tlen]; exact hz, acc.toList, c, ?_, by rw [Array.toArray_toList]; exact hS⟩
          have vals : ∀ l : List Value, (∀ v ∈ l, v = .ref (adr v)) → Vals ((l.map adr).map V.ref) l := fun l => by
            induction l with
            | nil => intro _; exact .nil
            | cons v r ih => intro hv; exact .cons (hv v List.mem_cons_self) (ih fun u hu => hv u (List.mem_cons_of_mem _ hu))
          exact vals _ hts
        · have e2 : (match (List.range xs.length).find? (fun i => (acc.toList.map adr)[i]? == some b) with
              | some i => (xs[i]?).map fun x => HO.tup [.int (i : Nat), x]
              | none => none) = some o := (if_neg h2).symm.trans e'
          cases hf : (List.range xs.length).find? (fun i => (acc.toList.map adr)[i]? == some b) with
          | none =>
            rw [hf] at e2
            cases e2
          | some j =>
            rw [hf] at e2
            have hj := List.find?_some hf
            have hj2 := List.mem_range.mp (List.mem_of_find?_eq_some hf)
            have hj3 : (acc.toList.map adr)[j]? = some b := by simpa using hj
            have e3 : some (HO.tup [.int (j : Nat), xs[j]]) = some o := by
              rw [← e2]
              show _ = Option.map (fun x => HO.tup [V.int (j : Nat), x]) xs[j]?
              rw [List.getElem?_eq_getElem hj2]
              rfl
            cases e3
            obtain ⟨T2, tk2, u2, g1, _, g3, g4⟩ := tget j xs[j] (List.getElem?_eq_getElem hj2)
            rw [hj3] at g1
            cases g1
            exact ⟨by show 2 ≤ sizeLine; decide, [.int (j : Nat) tk2, u2], .cons ⟨_, rfl⟩ (.cons g3 .nil), ⟨_, g4, rfl, _, rfl⟩⟩
  have same : Same H1 H2 := fun b o y => by
    show (if b < g.objs.size then H1 b else mk b) = some o
    rw [if_pos (show b < g.objs.size from Nat.lt_of_lt_of_le (I1.hok.lt y) (by rw [szg]; exact Nat.le_add_right _ _))]
    exact y
  have Snone : H1 g.objs.size = none := I1.hok.fresh (by omega)
  refine ⟨.ref g.objs.size, H2, I3, rfl, q H2 g.objs.size (acc.toList.map adr) same Snone ?_ tlen fun i x hx => ?_⟩
  · show (if g.objs.size < g.objs.size then H1 _ else mk _) = _
    rw [if_neg (Nat.lt_irrefl _)]
    exact if_pos rfl
  · obtain ⟨T, tk', u, e1, e2, e3, e4⟩ := tget i x hx
    exact ⟨T, e1, I1.hok.fresh (by omega), at_T i x T hx e1⟩
end
end RS
set_option Elab.async false
set_option maxRecDepth 100000
set_option maxHeartbeats 4000000
namespace RS
open PySem PySem.Spec PyProof.Rows L2 GX
/-- a for of n turns by a word of its own: the next turn -/
def ForNx (n : Nat) (Pv : Nat → L2.St → Hp → Prop) (i : Nat) (σ : L2.St) (H : Hp) : Prop := Pv (i + 1) σ H
theorem for_by {J : It} {g : TG} {tb : TS} {D : Ends} {σ : L2.St} {H : Hp} (n : Nat) (Pv : Nat → L2.St → Hp → Prop) (h0 : Pv 0 σ H)
    (turn : ∀ i σ H, i < n → Pv i σ H → J.go i H ∧ ∀ x H', J.yld i H x H' → g x σ H' fun σ2 H2 => tb { D with nx := Pv (i + 1), ct := Pv (i + 1), bk := D.nx } σ2 H2)
    (stop : ∀ σ H, Pv n σ H → J.stop n H ∧ D.nx σ H) :
    ∃ W : Nat → Nat → L2.St → Hp → Prop, (∃ m, W 0 m σ H) ∧ ∀ i m σ H, W i m σ H →
      (J.stop i H ∧ D.nx σ H) ∨ (J.go i H ∧ ∃ N : L2.St → Hp → Prop, (∀ σ' H', N σ' H' → ∃ m', m' < m ∧ W (i + 1) m' σ' H') ∧ ∀ x H', J.yld i H x H' → g x σ H' fun σ2 H2 => tb { D with nx := N, ct := N, bk := D.nx } σ2 H2) := by
  refine ⟨fun i m σ H => m = n - i ∧ i ≤ n ∧ Pv i σ H, ⟨n, rfl, Nat.zero_le _, h0⟩, ?_⟩
  rintro i m σ H ⟨rfl, hi, p⟩
  by_cases hlt : i < n
  · obtain ⟨go, nx⟩ := turn i σ H hlt p
    exact .inr ⟨go, Pv (i + 1), fun σ' H' p' => ⟨n - (i + 1), by omega, rfl, hlt, p'⟩, nx⟩
  · have e : i = n := by omega
    subst e
    exact .inl (stop σ H p)
theorem lc_by {J : It} {g : TG} {tt : TT} {te : TE} {vs : List Nat} {σ : L2.St} {H1 : Hp} {D : Addr} {Qd : Hp → Prop} (n : Nat) (Pv : Nat → Hp → Prop) (h0 : Pv 0 (upd H1 D (.lst [])))
    (turn : ∀ i H, i < n → Pv i H → J.go i H ∧ ∀ x H', J.yld i H x H' → g x (wipe σ vs) H' fun σ2 H2 => wipe σ2 vs = wipe σ vs ∧ tt σ2 H2 fun b H3 =>
      if b = true then te σ2 H3 fun y H4 => ∃ acc, H4 D = some (.lst acc) ∧ acc.length < sizeLine ∧ Pv (i + 1) (upd H4 D (.lst (acc ++ [y]))) else Pv (i + 1) H3)
    (stop : ∀ H, Pv n H → J.stop n H ∧ Qd H) :
    ∃ W : Nat → Nat → Hp → Prop, (∃ m, W 0 m (upd H1 D (.lst []))) ∧ ∀ i m H, W i m H →
      (J.stop i H ∧ Qd H) ∨ (J.go i H ∧ ∃ Nx : Hp → Prop, (∀ H', Nx H' → ∃ m', m' < m ∧ W (i + 1) m' H') ∧ ∀ x H', J.yld i H x H' → g x (wipe σ vs) H' fun σ2 H2 => wipe σ2 vs = wipe σ vs ∧ tt σ2 H2 fun b H3 =>
        if b = true then te σ2 H3 fun y H4 => ∃ acc, H4 D = some (.lst acc) ∧ acc.length < sizeLine ∧ Nx (upd H4 D (.lst (acc ++ [y]))) else Nx H3) := by
  refine ⟨fun i m H => m = n - i ∧ i ≤ n ∧ Pv i H, ⟨n, rfl, Nat.zero_le _, h0⟩, ?_⟩
  rintro i m H ⟨rfl, hi, p⟩
  by_cases hlt : i < n
  · obtain ⟨go, nx⟩ := turn i H hlt p
    exact .inr ⟨go, Pv (i + 1), fun H' p' => ⟨n - (i + 1), by omega, rfl, hlt, p'⟩, nx⟩
  · have e : i = n := by omega
    subst e
    exact .inl (stop H p)

/-! ### numbered things -/
def enumP {α : Type} : Nat → List α → List (Nat × α)
  | _, [] => []
  | k, x :: xs => (k, x) :: enumP (k + 1) xs
theorem enumP_get {α : Type} : ∀ (l : List α) (k i : Nat), (enumP k l)[i]? = l[i]?.map fun x => (k + i, x)
  | [], k, i => by simp [enumP]
  | x :: xs, k, 0 => by simp [enumP]
  | x :: xs, k, i + 1 => by
    show (enumP (k + 1) xs)[i]? = _
    rw [enumP_get xs (k + 1) i]
    have e : k + 1 + i = k + (i + 1) := by omega
    rw [e]
    simp
theorem enumP_length {α : Type} : ∀ (l : List α) (k : Nat), (enumP k l).length = l.length
  | [], _ => rfl
  | _ :: xs, k => congrArg (· + 1) (enumP_length xs (k + 1))
/-- a (number, row) -/
def pairD (q : Nat × List PyData) : PyData := .tuple [.int q.1, .tuple q.2]
def pairsD (l : List (Nat × List PyData)) : PyData := .list (l.map pairD)

/-- data by places -/
theorem dpAll_by {K : PySem.W.Frag} {H : Hp} : ∀ {vs : List V} {ds : List PyData}, vs.length = ds.length → (∀ (i : Nat) (v : V) (d : PyData), vs[i]? = some v → ds[i]? = some d → Dp K H v d) → DpAll K H vs ds
  | [], [], _, _ => .nil
  | [], _ :: _, h, _ => by simp at h
  | _ :: _, [], h, _ => by simp at h
  | v :: vs, d :: ds, h, k => .cons (k 0 v d rfl rfl) (dpAll_by (by simpa using h) fun i v d e1 e2 => k (i + 1) v d (by simpa using e1) (by simpa using e2))
end RS
set_option Elab.async false
set_option maxRecDepth 100000
set_option maxHeartbeats 4000000
namespace RS
open PySem PySem.Spec PyProof.Rows L2 GX
/-! ### data without lists -/
mutual
def noL : PyData → Bool
  | .list _ => false
  | .dict _ => false
  | .tuple ds => noLs ds
  | _ => true
def noLs : List PyData → Bool
  | [] => true
  | d :: ds => noL d && noLs ds
end
theorem noLs_iff : ∀ {ds : List PyData}, noLs ds = true ↔ ∀ d ∈ ds, noL d = true
  | [] => by simp [noLs]
  | d :: ds => by
    unfold noLs
    rw [Bool.and_eq_true, noLs_iff]
    simp
theorem sqT_upd {K : PySem.W.Frag} {H : Hp} {a b : Addr} {xs u ys : List V} (hH : H a = some (.lst xs)) (h : SqT K H b ys) : SqT K (upd H a (.lst u)) b ys := by
  rcases h with (h | ⟨o, h⟩) | h
  · refine .inl (.inl ?_)
    rw [upd_ne (fun z => by rw [z, hH] at h; cases h)]
    exact h
  · refine .inl (.inr ⟨o, ?_⟩)
    rw [upd_ne (fun z => by rw [z, hH] at h; cases h)]
    exact h
  · exact .inr h
mutual
theorem dp_upd {K : PySem.W.Frag} {H : Hp} {a : Addr} {xs u : List V} (hH : H a = some (.lst xs)) : ∀ (d : PyData) {v : V}, noL d = true → Dp K H v d → Dp K (upd H a (.lst u)) v d
  | .none, _, _, .non => .non
  | .bool b, _, _, .bl _ => .bl b
  | .int i, _, _, .int _ => .int i
  | .str x, _, _, .str _ => .str x
  | .list ds, _, h, _ => by cases h
  | .tuple ds, _, h, .tup q hs => .tup (sqT_upd hH q) (dpAll_upd hH ds h hs)
  | .dict _, _, h, _ => by cases h
theorem dpAll_upd {K : PySem.W.Frag} {H : Hp} {a : Addr} {xs u : List V} (hH : H a = some (.lst xs)) : ∀ (ds : List PyData) {vs : List V}, noLs ds = true → DpAll K H vs ds → DpAll K (upd H a (.lst u)) vs ds
  | [], _, _, .nil => .nil
  | d :: ds, _, h, .cons q hs => by
    unfold noLs at h
    rw [Bool.and_eq_true] at h
    exact .cons (dp_upd hH d h.1 q) (dpAll_upd hH ds h.2 hs)
end
/-- a list is changed that is none of those ahead -/
theorem dp_upd' {K : PySem.W.Frag} {H H' : Hp} {a : Addr} {xs u : List V} (s : Same H H') (hn : H a = none) {d : PyData} {v : V} (q : Dp K H v d) : Dp K (upd H' a (.lst u)) v d :=
  dp_same (fun b o e => by rw [upd_ne (ne_of_none e hn)]; exact s b o e) d q

theorem depth0 : ∀ {ds : List PyData}, (∀ d ∈ ds, d.depth = 0) → PyData.depthAll ds = 0
  | [], _ => by simp [PyData.depthAll]
  | d :: ds, h => by
    simp only [PyData.depthAll]
    rw [h d List.mem_cons_self, depth0 fun e he => h e (List.mem_cons_of_mem _ he)]
    rfl
theorem upd_no {H : Hp} {a b : Addr} {o : HO} (e : upd H a o b = none) : H b = none := by
  by_cases z : b = a
  · rw [z, upd_same] at e
    cases e
  · rw [upd_ne z] at e
    exact e
theorem cond_by {tc : TT} {σ : L2.St} {H : Hp} {Q : Bool → Hp → Prop} (b : Bool) (N : Hp → Prop) (h1 : ∀ Q' : Bool → Hp → Prop, (∀ H2, N H2 → Q' b H2) → tc σ H Q') (h2 : ∀ H2, N H2 → Q b H2) : tc σ H Q := h1 Q h2
theorem iteT' {b : Bool} {A B : Prop} (e : b = true) (h : A) : if b = true then A else B := by
  rw [if_pos e]
  exact h
theorem iteF' {b : Bool} {A B : Prop} (e : b = false) (h : B) : if b = true then A else B := by
  rw [if_neg (by rw [e]; decide)]
  exact h
end RS
set_option Elab.async false
set_option maxRecDepth 100000
set_option maxHeartbeats 4000000
namespace RS
open PySem PySem.Spec PyProof.Rows L2 GX
/-! ### lengths and ways -/
def lensD (ls : List Nat) : PyData := .list (ls.map fun n => .int (n : Nat))
structure OkLens (ls : List Nat) : Prop where
  one : 1 ≤ ls.length
  most : ls.length ≤ 40
  each : ∀ n ∈ ls, 1 ≤ n ∧ n ≤ 1000000
section
variable {P : Program} {w : World} {K : PySem.W.Frag} {mg : Str → Option Value} {base : Heap}
theorem scCheckLengths : FnScope ["lengths", "length"] ["lengths"] (defScope s_check_lengths) := ⟨rfl, rfl, rfl, by decide +kernel, rfl, by decide +kernel, by decide +kernel⟩
def spCheckLengths (K : PySem.W.Frag) (p : Addr) : Sp := fun vs H Q _ => ∃ (vl : V) (ls : List Nat), vs = [vl] ∧ Dp K H vl (lensD ls) ∧ OkLens ls ∧ Tab H p ∧ ∀ H', Same H H' → Q .non H'
theorem check_lengths_ok {c p : Addr} (D : DefAt K mg "check_lengths" s_check_lengths c) (T : Txt K mg) (TB : GxR.TabB base mg c p) (cN : Cal P w K mg base CX0 1 "is_number" ["value"] (spNum K)) : Cal P w K mg base CX0 3 "check_lengths" ["lengths"] (spCheckLengths K p) := by
  have sc := scCheckLengths
  obtain ⟨tA, hA⟩ := T.lengths
  obtain ⟨tB, hB⟩ := T.length
  refine def_ok0 D sc (fun vs H Q E h => ?_) (fun _ _ _ _ _ _ us hl => match us, hl with | [_], _ => rfl) (fun f A outer s H vs Q E hr h => ?_)
  · obtain ⟨vl, ls, rfl, _⟩ := h
    rfl
  · obtain ⟨vl, ls, rfl, hl, ok, ht, k⟩ := h
    refine ⟨_, (pss_cons (ps_if ((pw_or (pt_not (pt_val (pe_callB call_isiD (by rfl) T.isinstance (by decide +kernel) (pa_cons (pv 0) (pa_cons (pe_bltn (v := V.ty "list") (u := Value.type "list") (by rfl) T.list_ (by decide +kernel) rfl) pa_nil))))) (pw_or1 (pt_not (pt_chain op_le op_le pe_int (pe_callB call_lenD (by rfl) T.len PySem.boot_len (pa_cons (pv 0) pa_nil)) (pe_glob (v := V.int 40) (by rfl) hA ⟨_, rfl⟩))))).pt) pss_never pss_nil) (pss_one (ps_if (pt_not (pt_val (pe_all (own := [("length", 1)])  hr rfl T.all TB rfl rfl sc.nd (blkOk_by (N := ["lengths", "length"]) (sc := defScope s_check_lengths) (own := [("length", 1)]) (by decide +kernel)) (by decide +kernel) rfl rfl (pi_list (pv 0)) (fun _ _ _ _ _ _ _ => (pg_name (i := 1) sc.nd rfl (Or.inl rfl))) (fun _ _ _ _ _ _ _ hr => pe_and (pe_c cN hr (by decide) (by rfl) pass0 (pa_cons (pv 1) pa_nil)) (pe_one (pe_chain op_le op_le pe_int (pv 1) (pe_glob (v := V.int 1000000) (by rfl) hB ⟨_, rfl⟩))))))) pss_never pss_nil))), ?_⟩
    refine ⟨_, rfl, _, _, _, rfl, by simp, hl, _, rfl, ?_⟩
    refine iteF ⟨_, rfl, _, _, (ls.map fun n => PyData.int (n : Nat)).length, rfl, hl, rfl, _, _, rfl, rfl, _, rfl, ?_⟩
    rw [List.length_map]
    have o1 := ok.one
    have o2 := ok.most
    have e1 : decide ((1 : Int) ≤ (ls.length : Nat)) = true := decide_eq_true (by omega)
    have e2 : decide (((ls.length : Nat) : Int) ≤ 40) = true := decide_eq_true (by omega)
    rw [e1]
    refine iteT ⟨_, _, rfl, rfl, _, rfl, ?_⟩
    rw [e2]
    refine iteF ?_
    cases hl with
    | @lst a xs _ hS hI =>
      refine ⟨_, rfl, a, rfl, ⟨xs, hS⟩, ht, ?_⟩
      have lx : xs.length = ls.length := by rw [dpLen hI, List.length_map]
      refine all_by xs.length (fun i H' => Same H H') (Same.refl H) (fun i H' hi sm => ?_) (fun H' sm => ?_)
      · refine ⟨⟨xs, xs[i], sm.seq hS, List.getElem?_eq_getElem hi⟩, fun y H2 ⟨e, hy⟩ => ?_⟩
        have ey := hy xs (sm.seq hS)
        obtain ⟨d, ed, hd⟩ := dpGet hI ey
        obtain ⟨n, en, rfl⟩ : ∃ n, ls[i]? = some n ∧ d = PyData.int (n : Nat) := by
          rw [List.getElem?_map] at ed
          cases q : ls[i]? with
          | none => rw [q] at ed; cases ed
          | some b => rw [q] at ed; exact ⟨b, rfl, (Option.some.inj ed).symm⟩
        cases hd
        obtain ⟨m1, m2⟩ := ok.each n (List.mem_of_getElem? en)
        subst e
        refine ⟨rfl, _, rfl, _, _, rfl, .int (n : Int), _, rfl, ?_⟩
        have hn : isNum (.int (n : Int)) = true := by simp [isNum, isI, isT, tyN]
        rw [hn]
        refine iteT ⟨_, rfl, _, _, rfl, rfl, _, rfl, ?_⟩
        have e3 : decide ((1 : Int) ≤ (n : Nat)) = true := decide_eq_true (by omega)
        have e4 : decide (((n : Nat) : Int) ≤ 1000000) = true := decide_eq_true (by omega)
        rw [e3]
        refine iteT ⟨_, _, rfl, rfl, _, rfl, fun _ => .mk hi ?_, fun z => ?_⟩
        · exact sm
        · rw [e4] at z
          cases z
      · exact ⟨⟨xs, sm.seq hS, Nat.le_refl _⟩, _, rfl, iteF (k _ sm)⟩

theorem scCheckWays : FnScope ["ways"] ["ways"] (defScope s_check_ways) := ⟨rfl, rfl, rfl, by decide +kernel, rfl, by decide +kernel, by decide +kernel⟩
def spCheckWays : Sp := fun vs H Q _ => ∃ (n : Int), vs = [.int n] ∧ 2 ≤ n ∧ n ≤ 6 ∧ Q .non H
theorem check_ways_ok {c : Addr} (D : DefAt K mg "check_ways" s_check_ways c) (T : Txt K mg) (cN : Cal P w K mg base CX0 1 "is_number" ["value"] (spNum K)) : Cal P w K mg base CX0 2 "check_ways" ["ways"] spCheckWays := by
  have sc := scCheckWays
  obtain ⟨tA, hA⟩ := T.leastw
  obtain ⟨tB, hB⟩ := T.mostw
  refine def_ok0 D sc (fun vs H Q E h => ?_) (fun _ _ _ _ _ _ us hl => match us, hl with | [_], _ => rfl) (fun f A outer s H vs Q E hr h => ?_)
  · obtain ⟨n, rfl, _⟩ := h
    rfl
  · obtain ⟨n, rfl, h1, h2, k⟩ := h
    refine ⟨_, (pss_one (ps_if ((pw_or (pt_not (pt_val (pe_c cN hr (by decide) (by rfl) pass0 (pa_cons (pv 0) pa_nil)))) (pw_or1 (pt_not (pt_chain op_le op_le (pe_glob (v := V.int 2) (by rfl) hA ⟨_, rfl⟩) (pv 0) (pe_glob (v := V.int 6) (by rfl) hB ⟨_, rfl⟩))))).pt) pss_never pss_nil)), ?_⟩
    refine ⟨_, rfl, _, _, rfl, .int n, _, rfl, ?_⟩
    have hn : isNum (.int n) = true := by simp [isNum, isI, isT, tyN]
    rw [hn]
    refine iteF ⟨_, rfl, _, _, rfl, rfl, _, rfl, ?_⟩
    rw [decide_eq_true h1]
    refine iteT ⟨_, _, rfl, rfl, _, rfl, ?_⟩
    rw [decide_eq_true h2]
    exact iteF k

theorem scCheckMerging : FnScope ["lengths", "ways"] ["lengths", "ways"] (defScope s_check_merging) := ⟨rfl, rfl, rfl, by decide +kernel, rfl, by decide +kernel, by decide +kernel⟩
def spCheckMerging (K : PySem.W.Frag) (p : Addr) : Sp := fun vs H Q _ => ∃ (vl : V) (ls : List Nat) (n : Int), vs = [vl, .int n] ∧ Dp K H vl (lensD ls) ∧ OkLens ls ∧ 2 ≤ n ∧ n ≤ 6 ∧ Tab H p ∧ ∀ H', Same H H' → Q .non H'
theorem check_merging_ok {c p : Addr} (D : DefAt K mg "check_merging" s_check_merging c) (cL : Cal P w K mg base CX0 3 "check_lengths" ["lengths"] (spCheckLengths K p)) (cW : Cal P w K mg base CX0 2 "check_ways" ["ways"] spCheckWays) : Cal P w K mg base CX0 4 "check_merging" ["lengths", "ways"] (spCheckMerging K p) := by
  have sc := scCheckMerging
  refine def_ok0 D sc (fun vs H Q E h => ?_) (fun _ _ _ _ _ _ us hl => match us, hl with | [_, _], _ => rfl) (fun f A outer s H vs Q E hr h => ?_)
  · obtain ⟨vl, ls, n, rfl, _⟩ := h
    rfl
  · obtain ⟨vl, ls, n, rfl, hl, ok, h1, h2, ht, k⟩ := h
    refine ⟨_, (pss_cons (ps_expr (pe_c cL hr (by decide) (by rfl) pass0 (pa_cons (pv 0) pa_nil))) (pss_one (ps_expr (pe_c cW hr (by decide) (by rfl) pass0 (pa_cons (pv 1) pa_nil))))), ?_⟩
    refine ⟨_, rfl, vl, ls, rfl, hl, ok, ht, fun H' sm => ?_⟩
    exact ⟨_, rfl, n, rfl, h1, h2, k H' sm⟩
end
end RS
set_option Elab.async false
set_option maxRecDepth 100000
set_option maxHeartbeats 4000000
namespace RS
open PySem PySem.Spec PyProof.Rows L2 GX
/-! ### the drawer -/
structure BoxAt (H : Hp) (B L : Addr) : Prop where
  ne : B ≠ L
  b : ∃ s : Int, H B = some (.lst [.ref L, .int s])
  l : ∃ ms : List Int, H L = some (.lst (ms.map V.int))
/-- all but the drawer stays -/
def SameX (B L : Addr) (H H' : Hp) : Prop := ∀ b o, b ≠ B → b ≠ L → H b = some o → H' b = some o
theorem SameX.refl {B L : Addr} {H : Hp} : SameX B L H H := fun _ _ _ _ e => e
theorem SameX.trans {B L : Addr} {H H1 H2 : Hp} (a : SameX B L H H1) (b : SameX B L H1 H2) : SameX B L H H2 := fun c o h1 h2 e => b c o h1 h2 (a c o h1 h2 e)
theorem SameX.of {B L : Addr} {H H' : Hp} (s : Same H H') : SameX B L H H' := fun b o _ _ e => s b o e
theorem BoxAt.same {H H' : Hp} {B L : Addr} (h : BoxAt H B L) (s : Same H H') : BoxAt H' B L := by
  obtain ⟨n, ⟨x, hb⟩, ⟨ms, hl⟩⟩ := h
  exact ⟨n, ⟨x, s _ _ hb⟩, ⟨ms, s _ _ hl⟩⟩
section
variable {P : Program} {w : World} {K : PySem.W.Frag} {mg : Str → Option Value} {base : Heap}
theorem dpInts {K : PySem.W.Frag} {H : Hp} : ∀ {ns : List Int}, DpAll K H (ns.map V.int) (ns.map .int)
  | [] => .nil
  | n :: _ => .cons (.int n) dpInts
theorem scBegun : FnScope ["_law_script", "_law_stirred", "_law_cell"] ["_law_script"] (defScope sBegun) := ⟨rfl, rfl, rfl, by decide +kernel, rfl, by decide +kernel, by decide +kernel⟩
def spBegun (K : PySem.W.Frag) : Sp := fun vs H Q _ => ∃ (a : Addr) (ns : List Int), vs = [.ref a] ∧ SqL K H a (ns.map V.int) ∧
  ∀ (H' : Hp) (B L : Addr), Same H H' → H B = none → H L = none → BoxAt H' B L → Q (.ref B) H'
theorem begun_ok {c : Addr} (D : DefAt K mg "_law_begun" sBegun c) (T : Txt K mg) : Cal P w K mg base CX0 1 "_law_begun" ["_law_script"] (spBegun K) := by
  have sc := scBegun
  refine def_ok0 D sc (fun vs H Q E h => ?_) (fun _ _ _ _ _ _ us hl => match us, hl with | [_], _ => rfl) (fun f A outer s H vs Q E hr h => ?_)
  · obtain ⟨a, ns, rfl, _⟩ := h
    rfl
  · obtain ⟨a, ns, rfl, hS, k⟩ := h
    refine ⟨_, (pss_cons (ps_set (i := 1) sc.nd rfl (Or.inl rfl) pe_int) (pss_cons (ps_for PassesOwn.never rfl (pi_list (pv 0)) (pg_name (i := 2) sc.nd rfl (Or.inl rfl)) (pss_one (ps_set (i := 1) sc.nd rfl (Or.inl rfl) (pe_op op_mod (pe_op op_add (pe_op op_add (pe_op op_mul (pv 1) pe_int) (pe_op op_mul (pv 2) pe_int)) pe_int) pe_int)))) (pss_one (ps_ret (pe_lst (pa_cons (pe_callTy call_list_of (by rfl) T.list_ (by decide +kernel) (pa_cons (pv 0) pa_nil)) (pa_cons (pe_op op_mul (pv 1) (pe_callTy call_int1 (by rfl) T.int_ (by decide +kernel) (pa_cons (pe_cmpR op_gt (pe_callB call_lenD (by rfl) T.len PySem.boot_len (pa_cons (pv 0) pa_nil)) pe_int (nomark _)) pa_nil))) pa_nil))))))), ?_⟩
    refine ⟨_, rfl, a, rfl, ⟨_, hS⟩, for_list (K := K) (a := a) (xs := ns.map V.int) (fun i σ H' => ∃ (st : Int) (v2 : Option V), σ = [some (.ref a), some (.int st), v2] ∧ 0 ≤ st ∧ st < 2147483647 ∧ H' = H)
      ⟨0, none, rfl, by decide, by decide, rfl⟩ (fun i σ H' _ ⟨_, _, _, _, _, e⟩ => by rw [e]; exact hS) ?_ ?_⟩
    · rintro i x σ H' hx ⟨st, v2, rfl, h0, h1, rfl⟩
      obtain ⟨n, en, rfl⟩ : ∃ n, ns[i]? = some n ∧ x = V.int n := by
        rw [List.getElem?_map] at hx
        cases q : ns[i]? with
        | none => rw [q] at hx; cases hx
        | some b => rw [q] at hx; exact ⟨b, rfl, (Option.some.inj hx).symm⟩
      refine ⟨_, rfl, _, _, rfl, rfl, .inl ⟨by omega, by omega⟩, ?_⟩
      refine ⟨_, rfl, _, _, rfl, rfl, .inr ⟨by omega, by omega⟩, ?_⟩
      refine ⟨_, _, rfl, rfl, _, _, rfl, rfl, _, _, rfl, rfl, (by show (0 : Int) < 2147483647; decide), ?_⟩
      exact ⟨_, _, rfl, Int.emod_nonneg _ (by decide), Int.emod_lt_of_pos _ (by decide), rfl⟩
    · rintro σ H' ⟨st, v2, rfl, h0, h1, rfl⟩
      refine ⟨_, rfl, a, _, rfl, .inl hS, fun L hL => ?_⟩
      have s1 : Same H' (upd H' L (.lst (ns.map V.int))) := fun b o e => by
        rw [upd_ne (ne_of_none e hL)]
        exact e
      refine ⟨_, rfl, _, rfl, .ref a, _, _, rfl, .lst (s1.seq hS) dpInts, rfl, _, _, rfl, rfl, .inr ⟨_, rfl, ?_⟩⟩
      refine ⟨_, _, rfl, rfl, .inl ⟨by omega, by omega⟩, ?_⟩
      refine ⟨by show 2 ≤ sizeLine; decide, fun B hB => ?_⟩
      have n1 : L ≠ B := fun z => by rw [← z, upd_same] at hB; cases hB
      exact k _ B L (fun b o e => by rw [upd_ne (ne_of_none (s1 _ _ e) hB)]; exact s1 _ _ e) (s1.free hB) hL ⟨Ne.symm n1, ⟨_, upd_same⟩, ⟨ns, (upd_ne n1).trans upd_same⟩⟩
end
end RS
set_option Elab.async false
set_option maxRecDepth 100000
set_option maxHeartbeats 4000000
namespace RS
open PySem PySem.Spec PyProof.Rows L2 GX
section
variable {P : Program} {w : World} {K : PySem.W.Frag} {mg : Str → Option Value} {base : Heap}
theorem scTake : FnScope ["_law_box", "_law_many", "_law_number_here"] ["_law_box", "_law_many"] (defScope sTake) := ⟨rfl, rfl, rfl, by decide +kernel, rfl, by decide +kernel, by decide +kernel⟩
def spTake : Sp := fun vs H Q _ => ∃ (B L : Addr) (m : Int), vs = [.ref B, .int m] ∧ BoxAt H B L ∧ 1 ≤ m ∧ m ≤ 1000000000000000000 ∧
  ∀ (H' : Hp) (k : Int), SameX B L H H' → BoxAt H' B L → 0 ≤ k → k < m → Q (.int k) H'
theorem eqv_nil (ds : List PyData) : PyData.eqv (.list ds) (.list []) = ds.isEmpty := by
  cases ds <;> simp [PyData.eqv, PyData.eqvAll]
theorem shaped_ints (ms : List Int) : SeqAt.shaped (.list (ms.map .int)) = true := by
  have h1 : PyData.canLayAll0 (ms.map .int) = true := by
    induction ms with
    | nil => simp [PyData.canLayAll0]
    | cons m ms ih => simp [PyData.canLayAll0, PyData.canLay0, ih]
  have h2 : PyData.depthAll (ms.map .int) = 0 := depth0 fun d hd => by
    obtain ⟨n, _, rfl⟩ := List.mem_map.mp hd
    simp [PyData.depth]
  simp [SeqAt.shaped, PyData.canLay0, PyData.depth, h1, h2]
theorem take_ok {c : Addr} (D : DefAt K mg "_law_take" sTake c) : Cal P w K mg base CX0 1 "_law_take" ["_law_box", "_law_many"] spTake := by
  have sc := scTake
  refine def_ok0 D sc (fun vs H Q E h => ?_) (fun _ _ _ _ _ _ us hl => match us, hl with | [_, _], _ => rfl) (fun f A outer s H vs Q E hr h => ?_)
  · obtain ⟨B, L, m, rfl, _⟩ := h
    rfl
  · obtain ⟨B, L, m, rfl, ⟨nBL, ⟨st, hB⟩, ⟨ms, hL⟩⟩, hm, hm2, k⟩ := h
    have hu := hr.units
    refine ⟨_, (pss_cons (ps_if (pt_cmpR (op_eqD hu) (pe_ix ix_list (pv 0) pe_int (fun _ _ => rfl)) (pe_lst pa_nil) (nomark _)) (pss_cons (ps_asg (pe_op op_mod (pe_op op_mul (pe_ix ix_list (pv 0) pe_int (fun _ _ => rfl)) pe_int) pe_int) (pg_sub (pv 0) pe_int set_list)) (pss_one (ps_ret (pe_op op_mod (pe_op op_fdiv (pe_ix ix_list (pv 0) pe_int (fun _ _ => rfl)) pe_int) (pv 1))))) pss_nil) (pss_cons (ps_set (i := 2) sc.nd rfl (Or.inl rfl) (pe_ix ix_list (pe_ix ix_list (pv 0) pe_int (fun _ _ => rfl)) pe_int (fun _ _ => rfl))) (pss_cons (ps_asg (pe_op op_fdivW (pv 2) (pv 1)) (pg_sub (pe_ix ix_list (pv 0) pe_int (fun _ _ => rfl)) pe_int set_list)) (pss_cons (ps_if ((pw_or (pt_cmpR op_eq (pe_ix ix_list (pe_ix ix_list (pv 0) pe_int (fun _ _ => rfl)) pe_int (fun _ _ => rfl)) pe_int (nomark _)) (pw_or1 (pt_cmpR op_eq (pe_ix ix_list (pe_ix ix_list (pv 0) pe_int (fun _ _ => rfl)) pe_int (fun _ _ => rfl)) (pe_un un_neg pe_int) (nomark _)))).pt) (pss_one (ps_expr (pe_bm PySem.F.plainAttrs_list PySem.F.slot_list_pop PySem.F.type_list_pop mt_popAt (pe_ix ix_list (pv 0) pe_int (fun _ _ => rfl)) (pa_cons pe_int pa_nil)))) pss_nil) (pss_one (ps_ret (pe_op op_mod (pv 2) (pv 1)))))))), ?_⟩
    refine ⟨_, rfl, B, _, _, _, rfl, rfl, SqL.of hB, rfl, Nat.zero_le _, fun e0 he0 => ?_⟩
    have s0 : Same H (upd H e0 (.lst [])) := fun b o e => by
      rw [upd_ne (ne_of_none e he0)]
      exact e
    refine ⟨.list (ms.map .int), .list [], .lst (s0.seq (SqL.of hL)) dpInts, .lst (SqL.of upd_same) .nil, ?_, rfl, _, rfl, ?_⟩
    · exact shaped_ints ms
    rw [eqv_nil]
    have hB0 := s0 _ _ hB
    have hL0 := s0 _ _ hL
    cases ms with
    | nil =>
      refine iteT ⟨_, rfl, B, _, _, _, rfl, rfl, SqL.of hB0, atI_nat (j := 1) rfl, _, _, rfl, rfl, .inr ⟨by decide, by decide⟩, ?_⟩
      refine ⟨_, _, rfl, rfl, (by show (0 : Int) < 2147483647; decide), ?_⟩
      refine ⟨_, rfl, B, _, _, 1, rfl, rfl, hB0, rfl, ?_⟩
      refine ⟨_, rfl, B, _, _, _, rfl, rfl, SqL.of upd_same, atI_nat (j := 1) rfl, ?_⟩
      refine ⟨_, _, rfl, rfl, ⟨by decide, by decide⟩, _, rfl, _, _, rfl, rfl, (by show (0 : Int) < m; omega), ?_⟩
      refine k _ _ (fun b o h1 h2 e => ?_) ⟨nBL, ⟨_, upd_same⟩, ⟨[], (upd_ne (Ne.symm nBL)).trans hL0⟩⟩ (Int.emod_nonneg _ (by omega)) (Int.emod_lt_of_pos _ (by omega))
      rw [upd_ne h1]
      exact s0 _ _ e
    | cons m0 ms =>
      refine iteF ⟨_, rfl, B, _, _, _, rfl, rfl, SqL.of hB0, atI_nat (j := 0) rfl, L, _, _, _, rfl, rfl, SqL.of hL0, atI_nat (j := 0) rfl, ?_⟩
      refine ⟨_, rfl, _, rfl, _, _, rfl, rfl, wide_div (b := 64) (by omega) (by show m.natAbs < 18446744073709551616; omega) (by decide) (by decide), ?_⟩
      refine ⟨_, rfl, B, _, _, _, rfl, rfl, SqL.of hB0, atI_nat (j := 0) rfl, L, _, _, 0, rfl, rfl, hL0, by simp [ixN], ?_⟩
      have hB1 : upd (upd H e0 (.lst [])) L (.lst (((m0 :: ms).map V.int).set 0 (.int (m0 / m)))) B = some (.lst [.ref L, .int st]) := (upd_ne nBL).trans hB0
      refine ⟨_, rfl, B, _, _, _, rfl, rfl, SqL.of hB1, atI_nat (j := 0) rfl, L, _, _, _, rfl, rfl, SqL.of upd_same, atI_nat (j := 0) rfl, ?_⟩
      have sx : ∀ (u : HO) (b : Addr) (o : HO), b ≠ B → b ≠ L → H b = some o → upd (upd H e0 (.lst [])) L u b = some o := fun u b o h1 h2 e => by
        rw [upd_ne h2]
        exact s0 _ _ e
      have ret : ∀ (H2 : Hp), SameX B L H H2 → BoxAt H2 B L → (∃ v, (some (V.int m0) : Option V) = some v ∧ v = .int m0) → Q (.int (m0 % m)) H2 := fun H2 s2 b2 _ => k H2 _ s2 b2 (Int.emod_nonneg _ (by omega)) (Int.emod_lt_of_pos _ (by omega))
      have box1 : BoxAt (upd (upd H e0 (.lst [])) L (.lst (V.int (m0 / m) :: ms.map V.int))) B L := ⟨nBL, ⟨_, hB1⟩, ⟨m0 / m :: ms, upd_same⟩⟩
      have box2 : BoxAt (upd (upd (upd H e0 (.lst [])) L (.lst (V.int (m0 / m) :: ms.map V.int))) L (.lst (ms.map V.int))) B L := ⟨nBL, ⟨_, (upd_ne nBL).trans hB1⟩, ⟨ms, upd_same⟩⟩
      have sx2 : SameX B L H (upd (upd (upd H e0 (.lst [])) L (.lst (V.int (m0 / m) :: ms.map V.int))) L (.lst (ms.map V.int))) := fun b o h1 h2 e => by
        rw [upd_ne h2]
        exact sx _ b o h1 h2 e
      have sk : seqIndex? 0 (V.int (m0 / m) :: ms.map V.int).length = some 0 := by
        simp [seqIndex?]
      refine ⟨rfl, _, rfl, ?_⟩
      refine ite2 (fun h1 => ?_) (fun h1 => ?_)
      · refine iteT ⟨_, rfl, B, _, _, _, rfl, rfl, SqL.of hB1, atI_nat (j := 0) rfl, .inl ⟨rfl, _, SqL.of upd_same⟩, L, _, 0, 0, _, rfl, rfl, upd_same, by decide, by decide, sk, rfl, ?_⟩
        exact ⟨_, rfl, _, rfl, _, _, rfl, rfl, (by show (0 : Int) < m; omega), ret _ sx2 box2 ⟨_, rfl, rfl⟩⟩
      · refine ⟨_, rfl, B, _, _, _, rfl, rfl, SqL.of hB1, atI_nat (j := 0) rfl, L, _, _, _, rfl, rfl, SqL.of upd_same, atI_nat (j := 0) rfl, ?_⟩
        refine ⟨_, rfl, rfl, _, rfl, ?_⟩
        refine ite2 (fun h1 => ?_) (fun h1 => ?_)
        · refine ⟨_, rfl, B, _, _, _, rfl, rfl, SqL.of hB1, atI_nat (j := 0) rfl, .inl ⟨rfl, _, SqL.of upd_same⟩, L, _, 0, 0, _, rfl, rfl, upd_same, by decide, by decide, sk, rfl, ?_⟩
          exact ⟨_, rfl, _, rfl, _, _, rfl, rfl, (by show (0 : Int) < m; omega), ret _ sx2 box2 ⟨_, rfl, rfl⟩⟩
        · exact ⟨_, rfl, _, rfl, _, _, rfl, rfl, (by show (0 : Int) < m; omega), ret _ (sx _) box1 ⟨_, rfl, rfl⟩⟩
end
end RS
set_option Elab.async false
set_option maxRecDepth 100000
set_option maxHeartbeats 8000000
namespace RS
open PySem PySem.Spec PyProof.Rows L2 GX
mutual
def few : PyData → Prop
  | .list ds => ds.length ≤ 1000000 ∧ fews ds
  | .tuple ds => ds.length ≤ 1000000 ∧ fews ds
  | .dict _ => False
  | _ => True
def fews : List PyData → Prop
  | [] => True
  | d :: ds => few d ∧ fews ds
end
theorem fews_iff : ∀ {ds : List PyData}, fews ds ↔ ∀ d ∈ ds, few d
  | [] => by simp [fews]
  | d :: ds => by
    unfold fews
    rw [fews_iff]
    simp
theorem depth_mem : ∀ {ds : List PyData} {d : PyData}, d ∈ ds → d.depth ≤ PyData.depthAll ds
  | [], _, h => by cases h
  | e :: ds, d, h => by
    simp only [PyData.depthAll]
    rcases List.mem_cons.mp h with q | q
    · subst q
      omega
    · have := depth_mem q
      omega
end RS
set_option Elab.async false
set_option maxRecDepth 100000
set_option maxHeartbeats 4000000
namespace RS
open PySem PySem.Spec PyProof.Rows L2 GX
/-! ### plans -/
mutual
def leaf : PyData → List Nat
  | .int i => [i.toNat]
  | .tuple ds => leafs ds
  | _ => []
def leafs : List PyData → List Nat
  | [] => []
  | d :: ds => leaf d ++ leafs ds
end
mutual
def okP (w : Nat) : PyData → Prop
  | .int i => 0 ≤ i ∧ i < 40
  | .tuple ds => 2 ≤ ds.length ∧ ds.length ≤ w ∧ okPs w ds
  | _ => False
def okPs (w : Nat) : List PyData → Prop
  | [] => True
  | d :: ds => okP w d ∧ okPs w ds
end
mutual
def sizeP : PyData → Nat
  | .tuple ds => 1 + sizePs ds
  | _ => 1
def sizePs : List PyData → Nat
  | [] => 0
  | d :: ds => sizeP d + sizePs ds
end
theorem okPs_iff {w : Nat} : ∀ {ds : List PyData}, okPs w ds ↔ ∀ d ∈ ds, okP w d
  | [] => by simp [okPs]
  | d :: ds => by
    unfold okPs
    rw [okPs_iff]
    simp
theorem leafs_app : ∀ xs ys : List PyData, leafs (xs ++ ys) = leafs xs ++ leafs ys
  | [], _ => rfl
  | d :: xs, ys => by
    show leaf d ++ leafs (xs ++ ys) = (leaf d ++ leafs xs) ++ leafs ys
    rw [leafs_app xs ys, List.append_assoc]
theorem sizePs_app : ∀ xs ys : List PyData, sizePs (xs ++ ys) = sizePs xs + sizePs ys
  | [], _ => by simp [sizePs]
  | d :: xs, ys => by
    show sizeP d + sizePs (xs ++ ys) = (sizeP d + sizePs xs) + sizePs ys
    rw [sizePs_app xs ys]
    omega
theorem okPs_app {w : Nat} {xs ys : List PyData} : okPs w (xs ++ ys) ↔ okPs w xs ∧ okPs w ys := by
  rw [okPs_iff, okPs_iff, okPs_iff]
  constructor
  · exact fun h => ⟨fun d hd => h d (List.mem_append_left _ hd), fun d hd => h d (List.mem_append_right _ hd)⟩
  · rintro ⟨h1, h2⟩ d hd
    rcases List.mem_append.mp hd with q | q
    · exact h1 d q
    · exact h2 d q
mutual
theorem okP_noL {w : Nat} : ∀ d : PyData, okP w d → noL d = true
  | .int _, _ => rfl
  | .tuple ds, h => by
    unfold okP at h
    show noLs ds = true
    exact okPs_noL ds h.2.2
  | .none, h => by simp [okP] at h
  | .bool _, h => by simp [okP] at h
  | .str _, h => by simp [okP] at h
  | .list _, h => by simp [okP] at h
  | .dict _, h => by simp [okP] at h
theorem okPs_noL {w : Nat} : ∀ ds : List PyData, okPs w ds → noLs ds = true
  | [], _ => rfl
  | d :: ds, h => by
    unfold okPs at h
    unfold noLs
    rw [okP_noL d h.1, okPs_noL ds h.2]
    rfl
end
mutual
/-- as many runs as deep, and one more -/
theorem leaf_depth {w : Nat} : ∀ d : PyData, okP w d → d.depth + 1 ≤ (leaf d).length
  | .int _, _ => by simp [leaf, PyData.depth]
  | .tuple ds, h => by
    unfold okP at h
    have := leafs_depth ds h.2.2
    unfold leaf
    simp only [PyData.depth]
    omega
  | .none, h => by simp [okP] at h
  | .bool _, h => by simp [okP] at h
  | .str _, h => by simp [okP] at h
  | .list _, h => by simp [okP] at h
  | .dict _, h => by simp [okP] at h
theorem leafs_depth {w : Nat} : ∀ ds : List PyData, okPs w ds → PyData.depthAll ds + ds.length ≤ (leafs ds).length
  | [], _ => by simp [leafs, PyData.depthAll]
  | d :: ds, h => by
    unfold okPs at h
    have h1 := leaf_depth d h.1
    have h2 := leafs_depth ds h.2
    unfold leafs
    simp only [PyData.depthAll, List.length_append, List.length_cons]
    omega
end
mutual
theorem okP_few {w : Nat} (hw : w ≤ 1000) : ∀ d : PyData, okP w d → few d
  | .int _, _ => by simp [few]
  | .tuple ds, h => by
    unfold okP at h
    unfold few
    exact ⟨by omega, okPs_few hw ds h.2.2⟩
  | .none, h => by simp [okP] at h
  | .bool _, h => by simp [okP] at h
  | .str _, h => by simp [okP] at h
  | .list _, h => by simp [okP] at h
  | .dict _, h => by simp [okP] at h
theorem okPs_few {w : Nat} (hw : w ≤ 1000) : ∀ ds : List PyData, okPs w ds → fews ds
  | [], _ => by simp [fews]
  | d :: ds, h => by
    unfold okPs at h
    unfold fews
    exact ⟨okP_few hw d h.1, okPs_few hw ds h.2⟩
end
theorem okP_cases {w : Nat} {d : PyData} (h : okP w d) : (∃ n : Nat, d = .int (n : Nat) ∧ n < 40) ∨ ∃ ds, d = .tuple ds ∧ 2 ≤ ds.length ∧ ds.length ≤ w ∧ okPs w ds := by
  cases d with
  | int i =>
    unfold okP at h
    exact .inl ⟨i.toNat, by rw [Int.toNat_of_nonneg h.1], by omega⟩
  | tuple ds => unfold okP at h; exact .inr ⟨ds, rfl, h⟩
  | _ => simp [okP] at h
/-- all runs once -/
structure OkPlan (n w : Nat) (d : PyData) : Prop where
  ok : okP w d
  all : (leaf d).Perm (List.range n)
theorem OkPlan.depth {n w : Nat} {d : PyData} (h : OkPlan n w d) : d.depth + 1 ≤ n := by
  have := leaf_depth d h.ok
  rw [h.all.length_eq, List.length_range] at this
  exact this
end RS
set_option Elab.async false
set_option maxRecDepth 100000
set_option maxHeartbeats 4000000
namespace RS
open PySem PySem.Spec PyProof.Rows L2 GX
/-! ### plans as texts -/
def numS (n : Nat) : Str := toString (n : Int)
def sp1 : Str := " "
def opS : Str := "("
def clS : Str := ")"
mutual
def wds : PyData → List Str
  | .int i => [numS i.toNat]
  | .tuple ds => opS :: (wdss ds ++ [clS])
  | _ => []
def wdss : List PyData → List Str
  | [] => []
  | d :: ds => wds d ++ wdss ds
end
mutual
def textP : PyData → Str
  | .int i => numS i.toNat
  | .tuple ds => Str.empty ++ (Str.ofString "( ") ++ Txt.join sp1 (textPs ds) ++ (Str.ofString " )")
  | _ => Str.empty
def textPs : List PyData → List Str
  | [] => []
  | d :: ds => textP d :: textPs ds
end
theorem textPs_map : ∀ ds : List PyData, textPs ds = ds.map textP
  | [] => rfl
  | d :: ds => by
    show textP d :: textPs ds = _
    rw [textPs_map ds]
    rfl
def figOk (c : Nat) : Bool := !decide (([c] : List Nat) < [48]) && !decide (([57] : List Nat) < [c])
theorem num_all : ∀ n < 40, ((numS n).length = 1 ∨ (numS n).length = 2) ∧ (numS n).cps.toList.all figOk = true ∧ ((numS n).length = 1 ∨ ((numS n).cps[0]? ≠ some 48 ∧ (numS n).cps[0]?.isSome = true)) ∧ numS n ≠ opS ∧ numS n ≠ clS ∧ (32 : Nat) ∉ TL.tl (numS n) ∧ (44 : Nat) ∉ TL.tl (numS n) ∧ PySem.intText? (numS n) = some (n : Int) := by
  decide +kernel
theorem joinL_len (S : List Nat) : ∀ ps : List (List Nat), (TL.joinL S ps).length ≤ (ps.map List.length).sum + ps.length * S.length
  | [] => by simp [TL.joinL]
  | [p] => by simp [TL.joinL]
  | p :: q :: r => by
    have ih := joinL_len S (q :: r)
    show (p ++ (S ++ TL.joinL S (q :: r))).length ≤ _
    simp only [List.length_append, List.map_cons, List.sum_cons, List.length_cons, Nat.add_mul] at ih ⊢
    omega
theorem joinL_app {S : List Nat} : ∀ {xs ys : List (List Nat)}, xs ≠ [] → ys ≠ [] → TL.joinL S (xs ++ ys) = TL.joinL S xs ++ (S ++ TL.joinL S ys)
  | [], _, h, _ => absurd rfl h
  | [x], y :: ys, _, _ => rfl
  | [x], [], _, h => absurd rfl h
  | x :: z :: r, ys, _, h => by
    show x ++ (S ++ TL.joinL S ((z :: r) ++ ys)) = (x ++ (S ++ TL.joinL S (z :: r))) ++ (S ++ TL.joinL S ys)
    rw [joinL_app (xs := z :: r) (by simp) h, List.append_assoc, List.append_assoc]
theorem wds_ne {w : Nat} {d : PyData} (h : okP w d) : wds d ≠ [] := by
  rcases okP_cases h with ⟨n, rfl, _⟩ | ⟨ds, rfl, _⟩ <;> simp [wds]
theorem wdss_ne {w : Nat} : ∀ {ds : List PyData}, okPs w ds → ds ≠ [] → wdss ds ≠ []
  | [], _, h => absurd rfl h
  | d :: ds, h, _ => by
    unfold wdss
    have := wds_ne h.1
    simp [this]
theorem tl_sp : TL.tl sp1 = [32] := by decide +kernel
mutual
theorem tl_text {w : Nat} : ∀ d : PyData, okP w d → TL.tl (textP d) = TL.joinL [32] ((wds d).map TL.tl)
  | .int _, _ => rfl
  | .tuple ds, h => by
    unfold okP at h
    have ne : ds ≠ [] := fun z => by rw [z] at h; simp at h
    have e := tl_texts ds h.2.2 ne
    show TL.tl (Str.empty ++ (Str.ofString "( ") ++ Txt.join sp1 (textPs ds) ++ (Str.ofString " )")) = TL.joinL [32] ((opS :: (wdss ds ++ [clS])).map TL.tl)
    rw [TL.tl_append, TL.tl_append, TL.tl_append, TL.join_eq, TL.tl_join, tl_sp, e]
    have e2 : (opS :: (wdss ds ++ [clS])).map TL.tl = [[40]] ++ ((wdss ds).map TL.tl ++ [[41]]) := by
      rw [List.map_cons, List.map_append]
      rfl
    have ne2 : (wdss ds).map TL.tl ≠ [] := fun z => wdss_ne h.2.2 ne (List.map_eq_nil_iff.mp z)
    rw [e2, joinL_app (by simp) (by simp [ne2]), joinL_app ne2 (by simp)]
    have t1 : TL.tl Str.empty = [] := rfl
    have t2 : TL.tl (Str.ofString "( ") = [40, 32] := by decide +kernel
    have t3 : TL.tl (Str.ofString " )") = [32, 41] := by decide +kernel
    rw [t1, t2, t3]
    simp [TL.joinL]
  | .none, h => by simp [okP] at h
  | .bool _, h => by simp [okP] at h
  | .str _, h => by simp [okP] at h
  | .list _, h => by simp [okP] at h
  | .dict _, h => by simp [okP] at h
theorem tl_texts {w : Nat} : ∀ ds : List PyData, okPs w ds → ds ≠ [] → TL.joinL [32] ((textPs ds).map TL.tl) = TL.joinL [32] ((wdss ds).map TL.tl)
  | [], _, h => absurd rfl h
  | [d], h, _ => by
    unfold okPs at h
    show TL.tl (textP d) = TL.joinL [32] ((wds d ++ []).map TL.tl)
    rw [List.append_nil]
    exact tl_text d h.1
  | d :: e :: ds, h, _ => by
    unfold okPs at h
    show TL.tl (textP d) ++ ([32] ++ TL.joinL [32] ((textPs (e :: ds)).map TL.tl)) = TL.joinL [32] ((wds d ++ wdss (e :: ds)).map TL.tl)
    rw [tl_texts (e :: ds) h.2 (by simp), tl_text d h.1, List.map_append, joinL_app (fun z => wds_ne h.1 (List.map_eq_nil_iff.mp z)) (fun z => wdss_ne h.2 (by simp) (List.map_eq_nil_iff.mp z))]
end
theorem text_join {w : Nat} {d : PyData} (h : okP w d) : textP d = Txt.join sp1 (wds d) := by
  refine TL.ext_tl ?_
  rw [tl_text d h, TL.join_eq, TL.tl_join, tl_sp]
def wordOk (x : Str) : Prop := x.length ≤ 2 ∧ (32 : Nat) ∉ TL.tl x
mutual
theorem wds_ok {w : Nat} : ∀ d : PyData, okP w d → ∀ x ∈ wds d, wordOk x
  | .int i, h => fun x hx => by
    unfold okP at h
    have hx : x = numS i.toNat := by simpa [wds] using hx
    subst hx
    obtain ⟨h1, _, _, _, _, h2, _⟩ := num_all i.toNat (by omega)
    exact ⟨by omega, h2⟩
  | .tuple ds, h => fun x hx => by
    unfold okP at h
    rcases List.mem_cons.mp (show x ∈ opS :: (wdss ds ++ [clS]) from hx) with e | hx
    · subst e
      exact ⟨by decide +kernel, by decide +kernel⟩
    · rcases List.mem_append.mp hx with hx | hx
      · exact wdss_ok ds h.2.2 x hx
      · rw [List.mem_singleton.mp hx]
        exact ⟨by decide +kernel, by decide +kernel⟩
  | .none, h => by simp [okP] at h
  | .bool _, h => by simp [okP] at h
  | .str _, h => by simp [okP] at h
  | .list _, h => by simp [okP] at h
  | .dict _, h => by simp [okP] at h
theorem wdss_ok {w : Nat} : ∀ ds : List PyData, okPs w ds → ∀ x ∈ wdss ds, wordOk x
  | [], _ => fun x hx => by cases hx
  | d :: ds, h => fun x hx => by
    unfold okPs at h
    rcases List.mem_append.mp (show x ∈ wds d ++ wdss ds from hx) with hx | hx
    · exact wds_ok d h.1 x hx
    · exact wdss_ok ds h.2 x hx
end
mutual
theorem wds_len {w : Nat} : ∀ d : PyData, okP w d → (wds d).length + 2 ≤ 3 * (leaf d).length
  | .int _, _ => by simp [wds, leaf]
  | .tuple ds, h => by
    unfold okP at h
    have := wdss_len ds h.2.2
    show (opS :: (wdss ds ++ [clS])).length + 2 ≤ 3 * (leafs ds).length
    simp only [List.length_cons, List.length_append, List.length_nil]
    omega
  | .none, h => by simp [okP] at h
  | .bool _, h => by simp [okP] at h
  | .str _, h => by simp [okP] at h
  | .list _, h => by simp [okP] at h
  | .dict _, h => by simp [okP] at h
theorem wdss_len {w : Nat} : ∀ ds : List PyData, okPs w ds → (wdss ds).length + 2 * ds.length ≤ 3 * (leafs ds).length
  | [], _ => by simp [wdss, leafs]
  | d :: ds, h => by
    unfold okPs at h
    have h1 := wds_len d h.1
    have h2 := wdss_len ds h.2
    show (wds d ++ wdss ds).length + 2 * (ds.length + 1) ≤ 3 * (leaf d ++ leafs ds).length
    simp only [List.length_append]
    omega
end
theorem sum_le {α : Type} (f : α → Nat) (c : Nat) : ∀ l : List α, (∀ x ∈ l, f x ≤ c) → (l.map f).sum ≤ c * l.length
  | [], _ => by simp
  | x :: l, h => by
    have h1 := h x List.mem_cons_self
    have h2 := sum_le f c l fun y hy => h y (List.mem_cons_of_mem _ hy)
    simp only [List.map_cons, List.sum_cons, List.length_cons, Nat.mul_add]
    omega
theorem text_len {w : Nat} {d : PyData} (h : okP w d) : (textP d).length ≤ 9 * (leaf d).length := by
  have e : (textP d).length = (TL.tl (textP d)).length := by simp [TL.tl, Str.length]
  rw [e, tl_text d h]
  have h1 := joinL_len [32] ((wds d).map TL.tl)
  have h2 := sum_le List.length 2 ((wds d).map TL.tl) fun x hx => by
    obtain ⟨y, hy, rfl⟩ := List.mem_map.mp hx
    have := (wds_ok d h y hy).1
    simpa [TL.tl, Str.length] using this
  have h3 := wds_len d h
  simp only [List.length_map, List.length_cons, List.length_nil] at h1 h2
  omega
theorem split_text {w : Nat} {d : PyData} (h : okP w d) : Txt.split (textP d) sp1 = wds d := by
  rw [text_join h]
  exact TL.split_join tl_sp (by decide +kernel) (wds_ne h) fun p hp => (wds_ok d h p hp).2
end RS
set_option Elab.async false
set_option maxRecDepth 100000
set_option maxHeartbeats 4000000
namespace RS
open PySem PySem.Spec PyProof.Rows L2 GX
section
variable {P : Program} {w : World} {K : PySem.W.Frag} {mg : Str → Option Value} {base : Heap}
theorem scFigures : FnScope ["word", "sign"] ["word"] (defScope s_is_figures) := ⟨rfl, rfl, rfl, by decide +kernel, rfl, by decide +kernel, by decide +kernel⟩
def spFigures (p : Addr) : Sp := fun vs H Q _ => ∃ (n : Nat), vs = [.str (numS n)] ∧ n < 40 ∧ Tab H p ∧ Q (.bl true) H
theorem is_figures_ok {c p : Addr} (D : DefAt K mg "is_figures" s_is_figures c) (T : Txt K mg) (TB : GxR.TabB base mg c p) : Cal P w K mg base CX0 2 "is_figures" ["word"] (spFigures p) := by
  have sc := scFigures
  refine def_ok0 D sc (fun vs H Q E h => ?_) (fun _ _ _ _ _ _ us hl => match us, hl with | [_], _ => rfl) (fun f A outer s H vs Q E hr h => ?_)
  · obtain ⟨n, rfl, _⟩ := h
    rfl
  · obtain ⟨n, rfl, hn, ht, k⟩ := h
    obtain ⟨f1, f2, f3, _⟩ := num_all n hn
    generalize numS n = x at f1 f2 f3 ⊢
    refine ⟨_, (pss_cons (ps_if ((pw_or (pt_not (pt_chain op_le op_le pe_int (pe_callB call_len_str (by rfl) T.len PySem.boot_len (pa_cons (pv 0) pa_nil)) pe_int)) (pw_or1 (pt_not (pt_val (pe_all (own := [("sign", 1)])  hr (by rfl) T.all TB (by rfl) (by rfl) sc.nd (blkOk_by (N := ["word", "sign"]) (sc := defScope s_is_figures) (own := [("sign", 1)]) (by decide +kernel)) (by decide +kernel) (by rfl) (by rfl) (pi_str (pv 0)) (fun _ _ _ _ _ _ _ => (pg_name (i := 1) sc.nd rfl (Or.inl rfl))) (fun _ _ _ _ _ _ _ hr => pe_chain op_le_str op_le_str pe_str (pv 1) pe_str)))))).pt) (pss_one (ps_ret pe_bl)) pss_nil) (pss_one (ps_ret (pe_or (pe_cmpR op_eq (pe_callB call_len_str (by rfl) T.len PySem.boot_len (pa_cons (pv 0) pa_nil)) pe_int (nomark _)) (pe_one (pe_cmpR op_ne (pe_item_str (pv 0) pe_int (fun _ _ => rfl)) pe_str (nomark _))))))), ?_⟩
    have z1 : x.length ≤ sizeLine := Nat.le_of_lt (small1000 (by omega))
    refine ⟨_, rfl, x, rfl, z1, _, _, rfl, rfl, _, rfl, ?_⟩
    rw [show decide ((1 : Int) ≤ (x.length : Nat)) = true from decide_eq_true (by omega)]
    refine iteT ⟨_, _, rfl, rfl, _, rfl, ?_⟩
    rw [show decide (((x.length : Nat) : Int) ≤ 2) = true from decide_eq_true (by omega)]
    refine iteF ⟨_, rfl, _, rfl, ht, ?_⟩
    refine all_by x.cps.size (fun i H' => H' = H) rfl (fun i H' hi e => ?_) (fun H' e => ?_)
    · subst e
      refine ⟨hi, fun y H2 ⟨e, c, hc, ey⟩ => ⟨rfl, ?_⟩⟩
      subst e ey
      have hc2 : x.cps.toList[i]? = some c := by simpa using hc
      have fc := List.all_eq_true.mp f2 c (List.mem_of_getElem? hc2)
      unfold figOk at fc
      rw [Bool.and_eq_true] at fc
      have ea : ∀ z : Nat, (!decide ((⟨#[z]⟩ : Str).cps.toList < (Str.ofString "0").cps.toList)) = !decide (([z] : List Nat) < [48]) := fun z => rfl
      have ez : ∀ z : Nat, (!decide ((Str.ofString "9").cps.toList < (⟨#[z]⟩ : Str).cps.toList)) = !decide (([57] : List Nat) < [z]) := fun z => rfl
      refine ⟨_, rfl, _, _, rfl, rfl, _, rfl, ?_⟩
      refine iteT' ((ea c).trans fc.1) ⟨_, _, rfl, rfl, _, rfl, fun _ => .mk hi rfl, fun h4 => ?_⟩
      rw [ez, fc.2] at h4
      cases h4
    · subst e
      refine ⟨Nat.le_refl _, _, rfl, iteF ?_⟩
      refine ⟨_, rfl, x, rfl, z1, rfl, ?_⟩
      refine ⟨_, rfl, ite2 (fun _ => k) fun h1 => ?_⟩
      have h1 : x.length ≠ 1 := fun z => by
        rw [z] at h1
        exact absurd h1 (by decide)
      rcases f3 with f3 | ⟨g1, g2⟩
      · exact absurd f3 h1
      · obtain ⟨c, hc⟩ := Option.isSome_iff_exists.mp g2
        refine ⟨_, rfl, x, 0, c, rfl, rfl, by decide, by decide, by omega, hc, rfl, ?_⟩
        have nc : ¬ V.str (⟨#[c]⟩ : Str) = V.str (Str.ofString "0") := fun z => by
          have : c = 48 := by
            have e : (⟨#[c]⟩ : Str).cps.toList = (Str.ofString "0").cps.toList := by
              injection z with z
              rw [z]
            have e2 : [c] = [48] := e
            exact (List.cons.inj e2).1
          rw [this] at hc
          exact g1 hc
        rw [decide_eq_false nc]
        exact k
end
end RS
set_option Elab.async false
set_option maxRecDepth 100000
set_option maxHeartbeats 4000000
set_option pp.maxSteps 400
namespace RS
open PySem PySem.Spec PyProof.Rows L2 GX
/-! ### words that are numbers of one or two figures -/
def isFig (x : Str) : Bool := decide (1 ≤ x.length) && decide (x.length ≤ 2) && x.cps.toList.all figOk && (decide (x.length = 1) || !(x.cps[0]? == some 48))
theorem fig_num : ∀ n < 100, isFig (numS n) = true ∧ PySem.intText? (numS n) = some (n : Int) ∧ numS n ≠ opS ∧ numS n ≠ clS ∧ (numS n).length ≤ 2 := by decide +kernel
theorem num_one : ∀ k < 10, numS k = (⟨#[48 + k]⟩ : Str) := by decide +kernel
theorem num_two : ∀ a < 10, a ≠ 0 → ∀ b < 10, numS (10 * a + b) = (⟨#[48 + a, 48 + b]⟩ : Str) := by decide +kernel
theorem figOk_iff {c : Nat} (h : figOk c = true) : 48 ≤ c ∧ c ≤ 57 := by
  unfold figOk at h
  rw [Bool.and_eq_true] at h
  obtain ⟨h1, h2⟩ := h
  have a : ¬ ([c] : List Nat) < [48] := by simpa using h1
  have b : ¬ ([57] : List Nat) < [c] := by simpa using h2
  refine ⟨Nat.le_of_not_lt fun z => a (List.Lex.rel z), Nat.le_of_not_lt fun z => b (List.Lex.rel z)⟩
theorem isFig_num {x : Str} (h : isFig x = true) : ∃ n, n < 100 ∧ x = numS n := by
  unfold isFig at h
  simp only [Bool.and_eq_true, decide_eq_true_eq] at h
  obtain ⟨⟨⟨h1, h2⟩, h3⟩, h4⟩ := h
  obtain ⟨⟨l⟩⟩ := x
  have h1 : 1 ≤ l.length := h1
  have h2 : l.length ≤ 2 := h2
  match l, h1, h2, h3, h4 with
  | [c], _, _, h3, _ =>
    have hc := figOk_iff (List.all_eq_true.mp h3 c (by simp))
    refine ⟨c - 48, by omega, ?_⟩
    rw [num_one (c - 48) (by omega), show 48 + (c - 48) = c by omega]
  | [c, d], _, _, h3, h4 =>
    have hc := figOk_iff (List.all_eq_true.mp h3 c (by simp))
    have hd := figOk_iff (List.all_eq_true.mp h3 d (by simp))
    have n0 : c ≠ 48 := fun z => by
      rw [z] at h4
      have h5 : (decide ((2 : Nat) = 1) || !((some 48 : Option Nat) == some 48)) = true := h4
      exact absurd h5 (by decide)
    refine ⟨10 * (c - 48) + (d - 48), by omega, ?_⟩
    rw [num_two (c - 48) (by omega) (by omega) (d - 48) (by omega), show 48 + (c - 48) = c by omega, show 48 + (d - 48) = d by omega]
theorem num_inj {n m : Nat} (hn : n < 100) (hm : m < 100) (e : numS n = numS m) : n = m := by
  have h1 := (fig_num n hn).2.1
  have h2 := (fig_num m hm).2.1
  rw [e, h2] at h1
  have := Option.some.inj h1
  omega
/-- the number of a word -/
def numO (x : Str) : Option Nat := (List.range 100).find? fun n => decide (numS n = x)
theorem numO_some {x : Str} {n : Nat} (h : numO x = some n) : n < 100 ∧ x = numS n := by
  refine ⟨List.mem_range.mp (List.mem_of_find?_eq_some h), ?_⟩
  have := List.find?_some h
  exact (of_decide_eq_true this).symm
theorem numO_none {x : Str} (h : numO x = none) : ∀ n < 100, numS n ≠ x := fun n hn e => by
  have := List.find?_eq_none.mp h n (List.mem_range.mpr hn)
  exact this (decide_eq_true e)
theorem numO_num {n : Nat} (hn : n < 100) : numO (numS n) = some n := by
  cases h : numO (numS n) with
  | none => exact absurd rfl (numO_none h n hn)
  | some m =>
    obtain ⟨h1, h2⟩ := numO_some h
    rw [num_inj hn h1 h2]
theorem isFig_iff (x : Str) : isFig x = (numO x).isSome := by
  cases h : numO x with
  | some n =>
    obtain ⟨h1, rfl⟩ := numO_some h
    exact (fig_num n h1).1
  | none =>
    rw [Option.isSome_none, Bool.eq_false_iff]
    intro z
    obtain ⟨n, hn, e⟩ := isFig_num z
    exact numO_none h n hn e.symm
section
variable {P : Program} {w : World} {K : PySem.W.Frag} {mg : Str → Option Value} {base : Heap}
def spFigA (p : Addr) : Sp := fun vs H Q _ => ∃ (x : Str), vs = [.str x] ∧ x.length ≤ 1000 ∧ Tab H p ∧ Q (.bl (numO x).isSome) H
theorem is_figA_ok {c p : Addr} (D : DefAt K mg "is_figures" s_is_figures c) (T : Txt K mg) (TB : GxR.TabB base mg c p) : Cal P w K mg base CX0 2 "is_figures" ["word"] (spFigA p) := by
  have sc := scFigures
  refine def_ok0 D sc (fun vs H Q E h => ?_) (fun _ _ _ _ _ _ us hl => match us, hl with | [_], _ => rfl) (fun f A outer s H vs Q E hr h => ?_)
  · obtain ⟨x, rfl, _⟩ := h
    rfl
  · obtain ⟨x, rfl, hn, ht, k⟩ := h
    rw [← isFig_iff] at k
    refine ⟨_, (pss_cons (ps_if ((pw_or (pt_not (pt_chain op_le op_le pe_int (pe_callB call_len_str (by rfl) T.len PySem.boot_len (pa_cons (pv 0) pa_nil)) pe_int)) (pw_or1 (pt_not (pt_val (pe_all (own := [("sign", 1)])  hr (by rfl) T.all TB (by rfl) (by rfl) sc.nd (blkOk_by (N := ["word", "sign"]) (sc := defScope s_is_figures) (own := [("sign", 1)]) (by decide +kernel)) (by decide +kernel) (by rfl) (by rfl) (pi_str (pv 0)) (fun _ _ _ _ _ _ _ => (pg_name (i := 1) sc.nd rfl (Or.inl rfl))) (fun _ _ _ _ _ _ _ hr => pe_chain op_le_str op_le_str pe_str (pv 1) pe_str)))))).pt) (pss_one (ps_ret pe_bl)) pss_nil) (pss_one (ps_ret (pe_or (pe_cmpR op_eq (pe_callB call_len_str (by rfl) T.len PySem.boot_len (pa_cons (pv 0) pa_nil)) pe_int (nomark _)) (pe_one (pe_cmpR op_ne (pe_item_str (pv 0) pe_int (fun _ _ => rfl)) pe_str (nomark _))))))), ?_⟩
    have z1 : x.length ≤ sizeLine := Nat.le_of_lt (small1000 (by omega))
    have cut : isFig x = (decide (1 ≤ x.length) && decide (x.length ≤ 2) && x.cps.toList.all figOk && (decide (x.length = 1) || !(x.cps[0]? == some 48))) := rfl
    refine ⟨_, rfl, x, rfl, z1, _, _, rfl, rfl, _, rfl, ?_⟩
    by_cases c1 : 1 ≤ x.length
    · rw [show decide ((1 : Int) ≤ (x.length : Nat)) = true from decide_eq_true (by omega)]
      refine iteT ⟨_, _, rfl, rfl, _, rfl, ?_⟩
      by_cases c2 : x.length ≤ 2
      · rw [show decide (((x.length : Nat) : Int) ≤ 2) = true from decide_eq_true (by omega)]
        refine iteF ⟨_, rfl, _, rfl, ht, ?_⟩
        refine all_by x.cps.size (fun i H' => H' = H ∧ (x.cps.toList.take i).all figOk = true) ⟨rfl, by simp⟩ (fun i H' hi hp => ?_) (fun H' hp => ?_)
        · obtain ⟨e, hp⟩ := hp
          subst e
          refine ⟨hi, fun y H2 ⟨e, c, hc, ey⟩ => ⟨rfl, ?_⟩⟩
          subst e ey
          have hc2 : x.cps.toList[i]? = some c := by simpa using hc
          have step : figOk c = true → (x.cps.toList.take (i + 1)).all figOk = true := fun h => by
            rw [List.take_add_one, hc2]
            simp only [Option.toList_some, List.all_append, hp, List.all_cons, h, List.all_nil, Bool.and_self]
          have fail : figOk c = false → Q (.bl false) H2 := fun h => by
            have e : x.cps.toList.all figOk = false := by
              rw [Bool.eq_false_iff]
              intro z
              have z2 := List.all_eq_true.mp z c (List.mem_of_getElem? hc2)
              rw [h] at z2
              cases z2
            rw [cut, e, Bool.and_false, Bool.false_and] at k
            exact k
          have ea : ∀ z : Nat, (!decide ((⟨#[z]⟩ : Str).cps.toList < (Str.ofString "0").cps.toList)) = !decide (([z] : List Nat) < [48]) := fun z => rfl
          have ez : ∀ z : Nat, (!decide ((Str.ofString "9").cps.toList < (⟨#[z]⟩ : Str).cps.toList)) = !decide (([57] : List Nat) < [z]) := fun z => rfl
          refine ⟨_, rfl, _, _, rfl, rfl, _, rfl, ?_⟩
          refine ite2 (fun h3 => ?_) (fun h3 => ?_)
          · refine ⟨_, _, rfl, rfl, _, rfl, fun h4 => .mk hi ⟨rfl, step ?_⟩, fun h4 => ⟨_, rfl, iteT (fail ?_)⟩⟩
            · rw [ea] at h3
              rw [ez] at h4
              unfold figOk
              rw [h3, h4]
              rfl
            · rw [ea] at h3
              rw [ez] at h4
              unfold figOk
              rw [h3, h4]
              rfl
          · refine ⟨_, rfl, fun z => (nomatch z), fun _ => ⟨_, rfl, iteT (fail ?_)⟩⟩
            have h3 := bf h3
            rw [ea] at h3
            unfold figOk
            rw [h3, Bool.false_and]
        · obtain ⟨rfl, hp⟩ := hp
          refine ⟨Nat.le_refl _, _, rfl, iteF ?_⟩
          have e : x.cps.toList.take x.cps.size = x.cps.toList := by rw [List.take_of_length_le (by simp)]
          rw [e] at hp
          rw [cut, hp, decide_eq_true c1, decide_eq_true c2, Bool.true_and, Bool.true_and, Bool.true_and] at k
          refine ⟨_, rfl, x, rfl, z1, rfl, ?_⟩
          by_cases h1 : x.length = 1
          · rw [decide_eq_true h1, Bool.true_or] at k
            refine ⟨_, rfl, ite2 (fun _ => k) fun z => absurd ?_ z⟩
            rw [h1]
            decide
          · rw [decide_eq_false h1, Bool.false_or] at k
            have h2 : x.length = 2 := by omega
            refine ⟨_, rfl, ite2 (fun z => absurd z (by rw [h2]; decide)) fun _ => ?_⟩
            obtain ⟨c, hc⟩ : ∃ c, x.cps[0]? = some c := ⟨x.cps[0]'(by have : x.cps.size = 2 := h2; omega), Array.getElem?_eq_getElem _⟩
            refine ⟨_, rfl, x, 0, c, rfl, rfl, by decide, by decide, by omega, hc, rfl, ?_⟩
            rw [hc] at k
            have e : (!decide (V.str (⟨#[c]⟩ : Str) = V.str (Str.ofString "0"))) = !(some c == some 48) := by
              congr 1
              by_cases z : c = 48
              · subst z
                rfl
              · rw [decide_eq_false (fun y => z ?_)]
                · simp [z]
                · have e : (⟨#[c]⟩ : Str).cps.toList = (Str.ofString "0").cps.toList := by
                    injection y with y
                    rw [y]
                  have e2 : [c] = [48] := e
                  exact (List.cons.inj e2).1
            rw [← e] at k
            exact k
      · rw [show decide (((x.length : Nat) : Int) ≤ 2) = false from decide_eq_false (by omega)]
        refine iteT ?_
        rw [cut, show decide (x.length ≤ 2) = false from decide_eq_false c2, Bool.and_false, Bool.false_and, Bool.false_and] at k
        exact k
    · rw [show decide ((1 : Int) ≤ (x.length : Nat)) = false from decide_eq_false (by omega)]
      refine iteF ⟨_, rfl, iteT ?_⟩
      rw [cut, show decide (1 ≤ x.length) = false from decide_eq_false c1, Bool.false_and, Bool.false_and, Bool.false_and] at k
      exact k
end
end RS
set_option Elab.async false
set_option maxRecDepth 100000
set_option maxHeartbeats 4000000
namespace RS
open PySem PySem.Spec PyProof.Rows L2 GX
theorem atI_last {α : Type} (xs : List α) (v : α) : atI (xs ++ [v]) (-1) = some v := by
  unfold atI ixN
  rw [if_neg (by decide), if_pos (by rw [List.length_append, List.length_singleton]; omega)]
  show (xs ++ [v])[((-1 : Int) + ((xs ++ [v]).length : Nat)).toNat]? = some v
  rw [show ((-1 : Int) + ((xs ++ [v]).length : Nat)).toNat = xs.length by rw [List.length_append, List.length_singleton]; omega]
  simp
section
variable {P : Program} {w : World} {K : PySem.W.Frag} {mg : Str → Option Value} {base : Heap}
theorem scMay : FnScope ["levels", "word", "is_open"] ["levels", "word"] (defScope s_may_stand) := ⟨rfl, rfl, rfl, by decide +kernel, rfl, by decide +kernel, by decide +kernel⟩
def spMay (p : Addr) : Sp := fun vs H Q _ => ∃ (Lv a : Addr) (x : Str) (ys xs : List V), vs = [.ref Lv, .str x] ∧ H Lv = some (.lst (ys ++ [.ref a])) ∧ H a = some (.lst xs) ∧ ys.length ≤ 900 ∧ xs.length ≤ 900 ∧
  ((x = clS ∧ ys ≠ [] ∧ xs ≠ []) ∨ ((ys ≠ [] ∨ xs = []) ∧ (x = opS ∨ ∃ n < 40, x = numS n))) ∧ Tab H p ∧ Q (.bl true) H
theorem may_stand_ok {c p : Addr} (D : DefAt K mg "may_stand" s_may_stand c) (T : Txt K mg) (cF : Cal P w K mg base CX0 2 "is_figures" ["word"] (spFigures p)) : Cal P w K mg base CX0 3 "may_stand" ["levels", "word"] (spMay p) := by
  have sc := scMay
  refine def_ok0 D sc (fun vs H Q E h => ?_) (fun _ _ _ _ _ _ us hl => match us, hl with | [_, _], _ => rfl) (fun f A outer s H vs Q E hr h => ?_)
  · obtain ⟨Lv, a, x, ys, xs, rfl, _⟩ := h
    rfl
  · obtain ⟨Lv, a, x, ys, xs, rfl, hL, ha, zy, zx, hc, ht, k⟩ := h
    refine ⟨_, (pss_cons (ps_set (i := 2) sc.nd rfl (Or.inl rfl) (pe_cmpR op_gt (pe_callB call_len_seq (by rfl) T.len PySem.boot_len (pa_cons (pv 0) pa_nil)) pe_int (nomark _))) (pss_cons (ps_if ((pw_and (pt_truth (pe_ix ix_list (pv 0) (pe_un un_neg pe_int) (fun _ _ => rfl)) (by intro _; rfl)) (pw_and1 (pt_not (pt_truth (pv 2) (by intro _; rfl))))).pt) (pss_one (ps_ret pe_bl)) pss_nil) (pss_cons (ps_if (pt_cmpR op_eq (pv 1) pe_str (nomark _)) (pss_one (ps_ret (pe_and (pv 2) (pe_one (pe_cmpR op_gt (pe_callB call_len_seq (by rfl) T.len PySem.boot_len (pa_cons (pe_ix ix_list (pv 0) (pe_un un_neg pe_int) (fun _ _ => rfl)) pa_nil)) pe_int (nomark _)))))) pss_nil) (pss_one (ps_ret (pe_or (pe_cmpR op_eq (pv 1) pe_str (nomark _)) (pe_one (pe_c cF hr (by decide) (by rfl) pass0 (pa_cons (pv 1) pa_nil))))))))), ?_⟩
    refine ⟨_, rfl, Lv, _, rfl, .inl (SqL.of hL), _, _, rfl, rfl, ?_⟩
    have eo : decide ((((ys ++ [V.ref a]).length : Nat) : Int) > 1) = !ys.isEmpty := by
      rw [List.length_append, List.length_singleton]
      cases ys with
      | nil => rfl
      | cons y ys => exact decide_eq_true (by rw [List.length_cons]; omega)
    have hop : ys ≠ [] ∨ xs = [] := by
      rcases hc with ⟨_, h, _⟩ | ⟨h, _⟩
      · exact .inl h
      · exact h
    have hne : ∀ y : Str, x ≠ y → decide (V.str x = V.str y) = false := fun y h => decide_eq_false fun z => h (V.str.inj z)
    refine ⟨_, rfl, _, rfl, Lv, _, _, _, rfl, rfl, SqL.of hL, atI_last _ _, !xs.isEmpty, .inl ⟨xs, SqL.of ha, rfl⟩, ?_⟩
    rcases hc with ⟨rfl, h1, h2⟩ | ⟨_, hw⟩
    · refine iteT' (by simp [h2]) ⟨_, rfl, !ys.isEmpty, eo.symm, ?_⟩
      refine iteF' (by simp [h1]) ⟨_, rfl, rfl, _, rfl, ?_⟩
      refine iteT' (by decide +kernel) ⟨_, rfl, !ys.isEmpty, congrArg V.bl eo, ?_⟩
      refine iteT' (by simp [h1]) ⟨_, rfl, _, rfl, Lv, _, _, _, rfl, rfl, SqL.of hL, atI_last _ _, a, _, rfl, .inl (SqL.of ha), _, _, rfl, rfl, ?_⟩
      have e : decide (((xs.length : Nat) : Int) > 0) = true := decide_eq_true (by
        have : 0 < xs.length := List.length_pos_iff.mpr h2
        omega)
      rw [← e] at k
      exact k
    · have n1 : x ≠ clS := by
        rcases hw with rfl | ⟨n, hn, rfl⟩
        · decide +kernel
        · exact (num_all n hn).2.2.2.2.1
      by_cases hx : xs = []
      · refine iteF' (by simp [hx]) ⟨_, rfl, rfl, _, rfl, ?_⟩
        refine iteF' (hne _ n1) ⟨_, rfl, rfl, _, rfl, ?_⟩
        rcases hw with rfl | ⟨n, hn, rfl⟩
        · exact iteT' (by decide +kernel) k
        · exact iteF' (hne _ (num_all n hn).2.2.2.1) ⟨_, rfl, n, rfl, hn, ht, k⟩
      · have h1 : ys ≠ [] := hop.resolve_right hx
        refine iteT' (by simp [hx]) ⟨_, rfl, !ys.isEmpty, eo.symm, ?_⟩
        refine iteF' (by simp [h1]) ⟨_, rfl, rfl, _, rfl, ?_⟩
        refine iteF' (hne _ n1) ⟨_, rfl, rfl, _, rfl, ?_⟩
        rcases hw with rfl | ⟨n, hn, rfl⟩
        · exact iteT' (by decide +kernel) k
        · exact iteF' (hne _ (num_all n hn).2.2.2.1) ⟨_, rfl, n, rfl, hn, ht, k⟩
end
end RS
set_option Elab.async false
set_option maxRecDepth 100000
set_option maxHeartbeats 4000000
set_option pp.maxSteps 400
namespace RS
open PySem PySem.Spec PyProof.Rows L2 GX
theorem viaA22 {te : TE} {g : TG} {u : TS} {D : Ends} {σ : L2.St} {H : Hp} (N : V → Hp → Prop) (h1 : ∀ Q' : VK, (∀ x H2, N x H2 → Q' x H2) → te σ H Q') (h2 : ∀ x H2, N x H2 → g x σ H2 fun σ' H' => u D σ' H') : tSeq (tAsg te g) u D σ H := h1 _ h2
theorem viaS22 {tc : TT} {ta tb u : TS} {D : Ends} {σ : L2.St} {H : Hp} (N : L2.St → Hp → Prop) (h1 : ∀ nx : L2.St → Hp → Prop, (∀ σ' H', N σ' H' → nx σ' H') → tIfS tc ta tb { D with nx := nx } σ H) (h2 : ∀ σ' H', N σ' H' → u D σ' H') : tSeq (tIfS tc ta tb) u D σ H := h1 (u D) h2
/-- whether a word may stand: b0 nothing is open, f0 the innermost part is empty -/
def mayB (b0 f0 : Bool) (x : Str) : Bool := if (!f0 && b0) = true then false else if x = clS then (!b0 && !f0) else decide (x = opS) || (numO x).isSome
section
variable {P : Program} {w : World} {K : PySem.W.Frag} {mg : Str → Option Value} {base : Heap}
def spMayA (p : Addr) : Sp := fun vs H Q _ => ∃ (Lv a : Addr) (x : Str) (ys xs : List V), vs = [.ref Lv, .str x] ∧ H Lv = some (.lst (ys ++ [.ref a])) ∧ H a = some (.lst xs) ∧ x.length ≤ 1000 ∧ Tab H p ∧ Q (.bl (mayB ys.isEmpty xs.isEmpty x)) H
theorem may_A_ok {c p : Addr} (D : DefAt K mg "may_stand" s_may_stand c) (T : Txt K mg) (cF : Cal P w K mg base CX0 2 "is_figures" ["word"] (spFigA p)) : Cal P w K mg base CX0 3 "may_stand" ["levels", "word"] (spMayA p) := by
  have sc := scMay
  refine def_ok0 D sc (fun vs H Q E h => ?_) (fun _ _ _ _ _ _ us hl => match us, hl with | [_, _], _ => rfl) (fun f A outer s H vs Q E hr h => ?_)
  · obtain ⟨Lv, a, x, ys, xs, rfl, _⟩ := h
    rfl
  · obtain ⟨Lv, a, x, ys, xs, rfl, hL, ha, hx, ht, k⟩ := h
    refine ⟨_, (pss_cons (ps_set (i := 2) sc.nd rfl (Or.inl rfl) (pe_cmpR op_gt (pe_callB call_len_seq (by rfl) T.len PySem.boot_len (pa_cons (pv 0) pa_nil)) pe_int (nomark _))) (pss_cons (ps_if ((pw_and (pt_truth (pe_ix ix_list (pv 0) (pe_un un_neg pe_int) (fun _ _ => rfl)) (by intro _; rfl)) (pw_and1 (pt_not (pt_truth (pv 2) (by intro _; rfl))))).pt) (pss_one (ps_ret pe_bl)) pss_nil) (pss_cons (ps_if (pt_cmpR op_eq (pv 1) pe_str (nomark _)) (pss_one (ps_ret (pe_and (pv 2) (pe_one (pe_cmpR op_gt (pe_callB call_len_seq (by rfl) T.len PySem.boot_len (pa_cons (pe_ix ix_list (pv 0) (pe_un un_neg pe_int) (fun _ _ => rfl)) pa_nil)) pe_int (nomark _)))))) pss_nil) (pss_one (ps_ret (pe_or (pe_cmpR op_eq (pv 1) pe_str (nomark _)) (pe_one (pe_c cF hr (by decide) (by rfl) pass0 (pa_cons (pv 1) pa_nil))))))))), ?_⟩
    have eo : decide ((((ys ++ [V.ref a]).length : Nat) : Int) > 1) = !ys.isEmpty := by
      rw [List.length_append, List.length_singleton]
      cases ys with
      | nil => rfl
      | cons y ys => exact decide_eq_true (by rw [List.length_cons]; omega)
    have hne : ∀ y : Str, x ≠ y → decide (V.str x = V.str y) = false := fun y h => decide_eq_false fun z => h (V.str.inj z)
    refine viaA22 (fun v H' => v = .bl (!ys.isEmpty) ∧ H = H') (fun Q' fin => ⟨_, rfl, Lv, _, rfl, .inl (SqL.of hL), _, _, rfl, rfl, fin _ _ ⟨congrArg V.bl eo, rfl⟩⟩) ?_
    rintro _ _ ⟨rfl, rfl⟩
    try dsimp only [gName, List.set]
    refine viaS22 (fun σ' H' => σ' = [some (.ref Lv), some (.str x), some (.bl (!ys.isEmpty))] ∧ H = H' ∧ (!xs.isEmpty && ys.isEmpty) = false) (fun nx fin => ?_) ?_
    · refine ⟨_, rfl, _, rfl, Lv, _, _, _, rfl, rfl, SqL.of hL, atI_last _ _, !xs.isEmpty, .inl ⟨xs, SqL.of ha, rfl⟩, ?_⟩
      by_cases c1 : xs.isEmpty = true
      · exact iteF' (by rw [c1]; rfl) (fin _ _ ⟨rfl, rfl, by rw [c1]; rfl⟩)
      · have c1 : xs.isEmpty = false := by simpa using c1
        refine iteT' (by rw [c1]; rfl) ⟨_, rfl, !ys.isEmpty, rfl, ?_⟩
        by_cases c2 : ys.isEmpty = true
        · rw [c2]
          refine iteT ?_
          rw [c1, c2] at k
          exact k
        · have c2 : ys.isEmpty = false := by simpa using c2
          rw [c2]
          exact iteF (fin _ _ ⟨by rw [c2]; rfl, rfl, by rw [c2, Bool.and_false]⟩)
    rintro _ _ ⟨rfl, rfl, hc⟩
    have em : mayB ys.isEmpty xs.isEmpty x = if x = clS then (!ys.isEmpty && !xs.isEmpty) else decide (x = opS) || (numO x).isSome := by
      unfold mayB
      rw [hc]
      rfl
    rw [em] at k
    refine ⟨_, rfl, rfl, _, rfl, ?_⟩
    by_cases cx : x = clS
    · rw [if_pos cx] at k
      refine iteT' (decide_eq_true (by rw [cx]; rfl)) ⟨_, rfl, !ys.isEmpty, rfl, ?_⟩
      by_cases c2 : ys.isEmpty = true
      · rw [c2] at k ⊢
        exact iteF k
      · have c2 : ys.isEmpty = false := by simpa using c2
        rw [c2] at k ⊢
        refine iteT ⟨_, rfl, _, rfl, Lv, _, _, _, rfl, rfl, SqL.of hL, atI_last _ _, a, _, rfl, .inl (SqL.of ha), _, _, rfl, rfl, ?_⟩
        have e : decide (((xs.length : Nat) : Int) > 0) = (!false && !xs.isEmpty) := by
          cases xs with
          | nil => rfl
          | cons y xs => exact decide_eq_true (by rw [List.length_cons]; omega)
        rw [← e] at k
        exact k
    · rw [if_neg cx] at k
      refine iteF' (hne _ cx) ⟨_, rfl, rfl, _, rfl, ?_⟩
      by_cases co : x = opS
      · rw [decide_eq_true co, Bool.true_or] at k
        exact iteT' (decide_eq_true (by rw [co]; rfl)) k
      · rw [decide_eq_false co, Bool.false_or] at k
        exact iteF' (hne _ co) ⟨_, rfl, x, rfl, hx, ht, k⟩
end
end RS
set_option Elab.async false
set_option maxRecDepth 100000
set_option maxHeartbeats 8000000
namespace RS
open PySem PySem.Spec PyProof.Rows L2 GX
/-! ### words put together: the parts that are open, the innermost first -/
abbrev Fr := List PyData × List PyData
def whole : List Fr → List PyData
  | [] => []
  | [f] => f.1 ++ f.2
  | f :: g :: fs => whole ((g.1 ++ [.tuple (f.1 ++ f.2)], g.2) :: fs)
termination_by l => l.length
def rem : List Fr → List Str
  | [] => []
  | [f] => wdss f.2
  | f :: g :: fs => wdss f.2 ++ clS :: rem (g :: fs)
def okFr (w : Nat) : Nat → List Fr → Prop
  | _, [] => False
  | _, [f] => okPs w f.1 ∧ okPs w f.2
  | k, f :: g :: fs => (okPs w f.1 ∧ okPs w f.2 ∧ 2 ≤ k + (f.1.length + f.2.length) ∧ k + (f.1.length + f.2.length) ≤ w) ∧ okFr w 1 (g :: fs)
theorem whole_eq {f f' : Fr} (e : f.1 ++ f.2 = f'.1 ++ f'.2) : ∀ fs : List Fr, whole (f :: fs) = whole (f' :: fs)
  | [] => by
    unfold whole
    exact e
  | g :: fs => by
    unfold whole
    rw [e]
theorem rem_eq {f f' : Fr} (e : f.2 = f'.2) : ∀ fs : List Fr, rem (f :: fs) = rem (f' :: fs)
  | [] => by
    unfold rem
    rw [e]
  | g :: fs => by
    unfold rem
    rw [e]
theorem rem_len : ∀ fs : List Fr, fs.length ≤ (rem fs).length + 1
  | [] => Nat.zero_le _
  | [f] => by simp
  | f :: g :: fs => by
    have := rem_len (g :: fs)
    unfold rem
    simp only [List.length_append, List.length_cons] at this ⊢
    omega
theorem okFr_top {w k : Nat} {f : Fr} : ∀ {fs : List Fr}, okFr w k (f :: fs) → okPs w f.1 ∧ okPs w f.2
  | [], h => h
  | _ :: _, h => ⟨h.1.1, h.1.2.1⟩
theorem okFr_put {w k k' : Nat} {f f' : Fr} (h1 : okPs w f'.1) (h2 : okPs w f'.2) (e : k' + (f'.1.length + f'.2.length) = k + (f.1.length + f.2.length)) : ∀ {fs : List Fr}, okFr w k (f :: fs) → okFr w k' (f' :: fs)
  | [], _ => ⟨h1, h2⟩
  | _ :: _, h => ⟨⟨h1, h2, by rw [e]; exact h.1.2.2.1, by rw [e]; exact h.1.2.2.2⟩, h.2⟩
theorem top_len {w k : Nat} {d : PyData} {f : Fr} (hw : w ≤ 6) : ∀ {fs : List Fr}, okFr w k (f :: fs) → whole (f :: fs) = [d] → f.1.length ≤ 6
  | [], _, h => by
    unfold whole at h
    have e := congrArg List.length h
    rw [List.length_append, List.length_singleton] at e
    omega
  | _ :: _, h, _ => by
    have := h.1.2.2.2
    omega
def LevAt (K : PySem.W.Frag) (H : Hp) : List Addr → List Fr → Prop
  | [], [] => True
  | a :: as, f :: fs => (∃ xs, H a = some (.lst xs) ∧ DpAll K H xs f.1 ∧ noLs f.1 = true) ∧ LevAt K H as fs
  | _, _ => False
theorem LevAt.same {K : PySem.W.Frag} {H H' : Hp} (s : Same H H') : ∀ {as : List Addr} {fs : List Fr}, LevAt K H as fs → LevAt K H' as fs
  | [], [], _ => trivial
  | _ :: _, _ :: _, ⟨⟨xs, h1, h2, h3⟩, t⟩ => ⟨⟨xs, s _ _ h1, dpAll_same s _ h2, h3⟩, t.same s⟩
theorem LevAt.other {K : PySem.W.Frag} {H : Hp} {b : Addr} {ys u : List V} (hb : H b = some (.lst ys)) : ∀ {as : List Addr} {fs : List Fr}, b ∉ as → LevAt K H as fs → LevAt K (upd H b (.lst u)) as fs
  | [], [], _, _ => trivial
  | a :: _, _ :: _, n, ⟨⟨xs, h1, h2, h3⟩, t⟩ => ⟨⟨xs, (upd_ne fun z => n (by rw [← z]; exact List.mem_cons_self)).trans h1, dpAll_upd hb _ h3 h2, h3⟩, t.other hb fun z => n (List.mem_cons_of_mem _ z)⟩
theorem LevAt.len {K : PySem.W.Frag} {H : Hp} : ∀ {as : List Addr} {fs : List Fr}, LevAt K H as fs → as.length = fs.length
  | [], [], _ => rfl
  | _ :: _, _ :: _, ⟨_, t⟩ => by rw [List.length_cons, List.length_cons, t.len]
theorem LevAt.mem {K : PySem.W.Frag} {H : Hp} {a : Addr} : ∀ {as : List Addr} {fs : List Fr}, LevAt K H as fs → a ∈ as → ∃ xs, H a = some (.lst xs)
  | b :: as, f :: fs, ⟨⟨xs, h1, _, _⟩, t⟩, m => by
    rcases List.mem_cons.mp m with e | m
    · rw [e]
      exact ⟨xs, h1⟩
    · exact t.mem m
theorem noLs_app {xs ys : List PyData} (h1 : noLs xs = true) (h2 : noLs ys = true) : noLs (xs ++ ys) = true := noLs_iff.mpr fun d hd => by
  rcases List.mem_append.mp hd with q | q
  · exact noLs_iff.mp h1 d q
  · exact noLs_iff.mp h2 d q
section
variable {P : Program} {w : World} {K : PySem.W.Frag} {mg : Str → Option Value} {base : Heap}
theorem scPut : FnScope ["words", "levels", "place", "word", "parts"] ["words"] (defScope s_put_together) := ⟨rfl, rfl, rfl, by decide +kernel, rfl, by decide +kernel, by decide +kernel⟩
def spPut (K : PySem.W.Frag) (p : Addr) : Sp := fun vs H Q _ => ∃ (W : Addr) (d : PyData) (n : Nat), vs = [.ref W] ∧ H W = some (.lst ((wds d).map V.str)) ∧ okP n d ∧ n ≤ 6 ∧ (leaf d).length ≤ 40 ∧ Tab H p ∧ ∀ H' v, Same H H' → Dp K H' v d → Q v H'
theorem put_together_ok {c p : Addr} (D : DefAt K mg "put_together" s_put_together c) (T : Txt K mg) (cM : Cal P w K mg base CX0 3 "may_stand" ["levels", "word"] (spMay p)) : Cal P w K mg base CX0 4 "put_together" ["words"] (spPut K p) := by
  have sc := scPut
  refine def_ok0 D sc (fun vs H Q E h => ?_) (fun _ _ _ _ _ _ us hl => match us, hl with | [_], _ => rfl) (fun f A outer s H vs Q E hr h => ?_)
  · obtain ⟨W, d, n, rfl, _⟩ := h
    rfl
  · obtain ⟨W, d, n, rfl, hW, okd, n6, l40, ht, k⟩ := h
    refine ⟨_, (pss_cons (ps_set (i := 1) sc.nd rfl (Or.inl rfl) (pe_lst (pa_cons (pe_lst pa_nil) pa_nil))) (pss_cons (ps_for PassesOwn.never rfl (pi_enum (by rfl) T.enumerate (pa_cons (pv 0) pa_nil)) (pg_tup (by rfl) (pgs_cons (pg_name (i := 2) sc.nd rfl (Or.inl rfl)) (pgs_cons (pg_name (i := 3) sc.nd rfl (Or.inl rfl)) pgs_nil))) (pss_cons (ps_if (pt_not (pt_val (pe_c cM hr (by decide) (by rfl) pass0 (pa_cons (pv 1) (pa_cons (pv 3) pa_nil))))) pss_never pss_nil) (pss_one (ps_if (pt_cmpR op_eq (pv 3) pe_str (nomark _)) (pss_one (ps_expr (pe_bm PySem.F.plainAttrs_list PySem.F.slot_list_append PySem.F.type_list_append mt_append (pv 1) (pa_cons (pe_lst pa_nil) pa_nil)))) (pss_one (ps_if (pt_cmpR op_eq (pv 3) pe_str (nomark _)) (pss_cons (ps_set (i := 4) sc.nd rfl (Or.inl rfl) (pe_bm0 PySem.F.plainAttrs_list PySem.F.slot_list_pop PySem.F.type_list_pop mt_pop (pv 1))) (pss_one (ps_expr (pe_bm PySem.F.plainAttrs_list PySem.F.slot_list_append PySem.F.type_list_append mt_append (pe_ix ix_list (pv 1) (pe_un un_neg pe_int) (fun _ _ => rfl)) (pa_cons (pe_callTy call_tuple_of (by rfl) T.tuple_ (by decide +kernel) (pa_cons (pv 4) pa_nil)) pa_nil))))) (pss_one (ps_expr (pe_bm PySem.F.plainAttrs_list PySem.F.slot_list_append PySem.F.type_list_append mt_append (pe_ix ix_list (pv 1) (pe_un un_neg pe_int) (fun _ _ => rfl)) (pa_cons (pe_callTy call_int_str (by rfl) T.int_ (by decide +kernel) (pa_cons (pv 3) pa_nil)) pa_nil)))))))))) (pss_cons (ps_if (pt_cmpR op_gt (pe_callB call_len_seq (by rfl) T.len PySem.boot_len (pa_cons (pv 1) pa_nil)) pe_int (nomark _)) pss_never pss_nil) (pss_one (ps_ret (pe_ix ix_list (pe_ix ix_list (pv 1) pe_int (fun _ _ => rfl)) pe_int (fun _ _ => rfl))))))), ?_⟩
    refine ⟨Nat.zero_le _, fun e0 he0 => ⟨by show 1 ≤ sizeLine; decide, fun Lv hLv => ?_⟩⟩
    have hLv0 := upd_no hLv
    have nLe : Lv ≠ e0 := fun z => by rw [z, upd_same] at hLv; cases hLv
    have s0 : Same H (upd (upd H e0 (.lst [])) Lv (.lst [.ref e0])) := fun b o e => by
      rw [upd_ne (ne_of_none e hLv0), upd_ne (ne_of_none e he0)]
      exact e
    have hlen : (wds d).length ≤ 120 := by
      have := wds_len d okd
      omega
    refine ⟨_, rfl, W, _, rfl, SqL.of (s0 _ _ hW), for_by ((wds d).map V.str).length (fun i σ H' => ∃ (as : List Addr) (fr : List Fr) (v2 v3 v4 : Option V), σ = [some (.ref W), some (.ref Lv), v2, v3, v4] ∧ Same H H' ∧ H' Lv = some (.lst ((as.map V.ref).reverse)) ∧
      Lv ∉ as ∧ as.Nodup ∧ (∀ a ∈ as, H a = none) ∧ LevAt K H' as fr ∧ okFr n 0 fr ∧ whole fr = [d] ∧ rem fr = (wds d).drop i)
      ⟨[e0], [([], [d])], none, none, none, rfl, s0, upd_same, by simpa using nLe, by simp, by simpa using he0, ⟨⟨[], (upd_ne (Ne.symm nLe)).trans upd_same, .nil, rfl⟩, trivial⟩, ⟨trivial, okd, trivial⟩, by unfold whole; rfl, ?_⟩ ?_ ?_⟩
    · show wdss [d] = (wds d).drop 0
      show wds d ++ [] = _
      rw [List.append_nil, List.drop_zero]
    · rintro i σ H' hi ⟨as, fr, v2, v3, v4, rfl, sm, hL, nL, nd, fz, lv, okf, wh, rm⟩
      have hi' : i < (wds d).length := by simpa using hi
      have hWt := sm _ _ hW
      refine ⟨⟨_, V.str (wds d)[i], SqL.of hWt, by rw [List.getElem?_map, List.getElem?_eq_getElem hi']; rfl⟩, fun y H2 ⟨TT, x, ey, hT, eH, hx⟩ => ?_⟩
      subst ey eH
      have ex := hx _ (SqL.of hWt)
      rw [List.getElem?_map, List.getElem?_eq_getElem hi'] at ex
      cases ex
      have sT : Same H' (upd H' TT (.tup [.int (i : Nat), .str (wds d)[i]])) := fun b o e => by
        rw [upd_ne (ne_of_none e hT)]
        exact e
      have sm2 := sm.trans sT
      have hL2 := sT _ _ hL
      have lv2 := lv.same sT
      refine ⟨TT, _, rfl, SqT.of upd_same, rfl, _, _, rfl, _, _, rfl, rfl, ?_⟩
      generalize upd H' TT (.tup [.int (i : Nat), .str (wds d)[i]]) = H2 at sm2 hL2 lv2 ⊢
      have la := lv2.len
      have lr := rem_len fr
      rw [rm, List.length_drop] at lr
      have cons := List.drop_eq_getElem_cons hi'
      rw [cons] at rm
      cases as with
      | nil =>
        cases fr with
        | nil => exact okf.elim
        | cons _ _ => exact lv2.elim
      | cons a as =>
        cases fr with
        | nil => exact lv2.elim
        | cons f fs =>
          obtain ⟨⟨xs, hA, hxs, nl⟩, lvs⟩ := lv2
          rw [List.map_cons, List.reverse_cons] at hL2
          have naL : a ≠ Lv := fun z => nL (by rw [z]; exact List.mem_cons_self)
          have nas : a ∉ as := (List.nodup_cons.mp nd).1
          have nda : as.Nodup := (List.nodup_cons.mp nd).2
          have nLs : Lv ∉ as := fun z => nL (List.mem_cons_of_mem _ z)
          have lxs : xs.length = f.1.length := dpLen hxs
          have fa : H a = none := fz a List.mem_cons_self
          have fzs : ∀ b ∈ as, H b = none := fun b hb => fz b (List.mem_cons_of_mem _ hb)
          obtain ⟨ok1, ok2⟩ := okFr_top okf
          have f6 : f.1.length ≤ 6 ∧ (fs = [] → f.2 ≠ [] → f.1 = []) := by
            cases fs with
            | nil =>
              unfold whole at wh
              have e := congrArg List.length wh
              rw [List.length_append, List.length_singleton] at e
              refine ⟨by omega, fun _ h => ?_⟩
              have := List.length_pos_iff.mpr h
              exact List.eq_nil_of_length_eq_zero (by omega)
            | cons g fs => exact ⟨by have := okf.1.2.2.2; omega, fun h => nomatch h⟩
          have sas : (as.map V.ref).reverse.length ≤ 900 := by
            rw [List.length_reverse, List.length_map]
            simp only [List.length_cons] at la lr
            omega
          have hT2 : Tab H2 p := sm2 _ _ ht
          obtain ⟨b, todo⟩ := f
          cases todo with
          | nil =>
            cases fs with
            | nil =>
              unfold rem wdss at rm
              cases rm
            | cons g fs =>
              have rm2 : clS :: rem (g :: fs) = (wds d)[i] :: (wds d).drop (i + 1) := by
                have e : rem ((b, []) :: g :: fs) = clS :: rem (g :: fs) := by
                  rw [rem]
                  rfl
                rw [e] at rm
                exact rm
              obtain ⟨ew, er⟩ := List.cons.inj rm2
              rw [← ew]
              cases as with
              | nil => exact lvs.elim
              | cons a2 as =>
                obtain ⟨⟨xs2, hA2, hxs2, nl2⟩, lvs2⟩ := lvs
                have b2 := okf.1.2.2.1
                have b3 := okf.1.2.2.2
                simp only [List.length_nil, Nat.add_zero, Nat.zero_add] at b2 b3
                have na2 : a2 ∉ as := (List.nodup_cons.mp nda).1
                have na2L : a2 ≠ Lv := fun z => nLs (by rw [z]; exact List.mem_cons_self)
                have naa2 : a ≠ a2 := fun z => nas (by rw [z]; exact List.mem_cons_self)
                have fa2 : H a2 = none := fzs a2 List.mem_cons_self
                refine ⟨_, rfl, _, rfl, Lv, a, clS, _, xs, rfl, hL2, hA, sas, by omega, .inl ⟨rfl, by simp, fun z => ?_⟩, hT2, _, rfl, ?_⟩
                · rw [z] at lxs
                  simp only [List.length_nil] at lxs
                  omega
                refine iteF ⟨_, rfl, rfl, _, rfl, ?_⟩
                refine iteF' (by decide +kernel) ⟨_, rfl, rfl, _, rfl, ?_⟩
                refine iteT' (by decide +kernel) ⟨_, rfl, .inl ⟨rfl, _, SqL.of hL2⟩, Lv, _, .ref a, rfl, rfl, hL2, by simp, ?_⟩
                rw [List.dropLast_concat, List.map_cons, List.reverse_cons]
                have hL3 : upd H2 Lv (.lst ((as.map V.ref).reverse ++ [.ref a2])) Lv = some (.lst ((as.map V.ref).reverse ++ [.ref a2])) := upd_same
                have hA3 : upd H2 Lv (.lst ((as.map V.ref).reverse ++ [.ref a2])) a = some (.lst xs) := (upd_ne naL).trans hA
                have hA23 : upd H2 Lv (.lst ((as.map V.ref).reverse ++ [.ref a2])) a2 = some (.lst xs2) := (upd_ne na2L).trans hA2
                have hxs3 := dpAll_upd (u := (as.map V.ref).reverse ++ [.ref a2]) hL2 _ nl hxs
                have hxs23 := dpAll_upd (u := (as.map V.ref).reverse ++ [.ref a2]) hL2 _ nl2 hxs2
                have lvs3 := lvs2.other (u := (as.map V.ref).reverse ++ [.ref a2]) hL2 fun z => nLs (List.mem_cons_of_mem _ z)
                have sm3 : Same H (upd H2 Lv (.lst ((as.map V.ref).reverse ++ [.ref a2]))) := fun b o e => by
                  rw [upd_ne (ne_of_none e (upd_no hLv))]
                  exact sm2 b o e
                generalize upd H2 Lv (.lst ((as.map V.ref).reverse ++ [.ref a2])) = H3 at hL3 hA3 hA23 hxs3 hxs23 lvs3 sm3 ⊢
                refine ⟨_, rfl, _, rfl, Lv, _, _, _, rfl, rfl, SqL.of hL3, atI_last _ _, .inl ⟨rfl, _, SqL.of hA23⟩, _, rfl, a, xs, rfl, .inl ⟨SqL.of hA3, fun tp htp => ?_⟩⟩
                have s4 : Same H3 (upd H3 tp (.tup xs)) := fun b o e => by
                  rw [upd_ne (ne_of_none e htp)]
                  exact e
                have hA24 := s4 _ _ hA23
                have lx2 := dpLen hxs2
                have okb : okP n (.tuple b) := ⟨b2, b3, ok1⟩
                have okbs : okPs n [.tuple b] := ⟨okb, trivial⟩
                obtain ⟨okg1, okg2⟩ := okFr_top okf.2
                have okn : okFr n 0 ((g.1 ++ [.tuple b], g.2) :: fs) := by
                  refine okFr_put (f := g) (f' := (g.1 ++ [PyData.tuple b], g.2)) (okPs_app.mpr ⟨okg1, okbs⟩) okg2 ?_ okf.2
                  simp only [List.length_append, List.length_cons, List.length_nil]
                  omega
                have whn : whole ((g.1 ++ [.tuple b], g.2) :: fs) = [d] := by
                  unfold whole at wh
                  rw [List.append_nil] at wh
                  exact wh
                have t6 := top_len n6 okn whn
                rw [List.length_append] at t6
                refine ⟨a2, xs2, _, rfl, rfl, hA24, small1000 (by omega), ?_⟩
                have nlb : noLs [PyData.tuple b] = true := by
                  simp [noLs, noL, nl]
                have nlg := noLs_app nl2 nlb
                refine ⟨a2 :: as, (g.1 ++ [.tuple b], g.2) :: fs, _, _, _, rfl, fun c o e => ?_, ?_, nLs, nda, fzs, ⟨⟨_, upd_same, dpAll_upd hA24 _ nlg (dpApp (dpAll_same s4 _ hxs23) (.cons (.tup (SqT.of upd_same) (dpAll_same s4 _ hxs3)) .nil)), nlg⟩, (lvs3.same s4).other hA24 na2⟩, okn, whn, ?_⟩
                · rw [upd_ne (ne_of_none e fa2)]
                  exact s4 _ _ (sm3 _ _ e)
                · rw [upd_ne (Ne.symm na2L), List.map_cons, List.reverse_cons]
                  exact s4 _ _ hL3
                · rw [rem_eq (f := (g.1 ++ [PyData.tuple b], g.2)) (f' := g) rfl fs]
                  exact er
          | cons t todo =>
            have tok : okP n t := ok2.1
            have hop : (as.map V.ref).reverse ≠ [] ∨ xs = [] := by
              cases fs with
              | nil =>
                right
                have := f6.2 rfl (by simp)
                simp only at this lxs
                rw [this] at lxs
                exact List.eq_nil_of_length_eq_zero lxs
              | cons g fs =>
                left
                cases as with
                | nil => exact lvs.elim
                | cons _ _ => simp
            rcases okP_cases tok with ⟨m, rfl, hm⟩ | ⟨es, rfl, e1, e2, oks⟩
            · have rm2 : numS m :: rem ((b ++ [.int (m : Nat)], todo) :: fs) = (wds d)[i] :: (wds d).drop (i + 1) := by
                rw [← rm]
                cases fs with
                | nil => rfl
                | cons g fs => rfl
              obtain ⟨ew, er⟩ := List.cons.inj rm2
              rw [← ew]
              obtain ⟨_, _, _, h4, h5, _, _, h8⟩ := num_all m hm
              have hne : ∀ y : Str, numS m ≠ y → decide (V.str (numS m) = V.str y) = false := fun y h => decide_eq_false fun z => h (V.str.inj z)
              refine ⟨_, rfl, _, rfl, Lv, a, numS m, _, xs, rfl, hL2, hA, sas, by omega, .inr ⟨hop, .inr ⟨m, hm, rfl⟩⟩, hT2, _, rfl, ?_⟩
              refine iteF ⟨_, rfl, rfl, _, rfl, ?_⟩
              refine iteF' (hne _ h4) ⟨_, rfl, rfl, _, rfl, ?_⟩
              refine iteF' (hne _ h5) ⟨_, rfl, _, rfl, Lv, _, _, _, rfl, rfl, SqL.of hL2, atI_last _ _, .inl ⟨rfl, _, SqL.of hA⟩, _, rfl, numS m, _, rfl, h8, by omega, ?_⟩
              have nl' : noLs (b ++ [PyData.int (m : Nat)]) = true := noLs_app nl rfl
              refine ⟨a, xs, _, rfl, rfl, hA, small1000 (by have := f6.1; simp only at this lxs; omega), ?_⟩
              refine ⟨a :: as, (b ++ [PyData.int (m : Nat)], todo) :: fs, _, _, _, rfl, fun c o e => ?_, ?_, nL, nd, fz, ⟨⟨_, upd_same, dpAll_upd hA _ nl' (dpApp hxs (.cons (.int _) .nil)), nl'⟩, lvs.other hA nas⟩, ?_, ?_, er⟩
              · rw [upd_ne (ne_of_none e fa)]
                exact sm2 _ _ e
              · rw [upd_ne (Ne.symm naL), List.map_cons, List.reverse_cons]
                exact hL2
              · refine okFr_put (f := (b, PyData.int (m : Nat) :: todo)) (f' := (b ++ [PyData.int (m : Nat)], todo)) (okPs_app.mpr ⟨ok1, tok, trivial⟩) ok2.2 ?_ okf
                simp only [List.length_append, List.length_cons, List.length_nil]
                omega
              · rw [← wh]
                exact whole_eq (f := (b ++ [PyData.int (m : Nat)], todo)) (f' := (b, PyData.int (m : Nat) :: todo)) (by simp) fs
            · have rm2 : opS :: rem (([], es) :: (b, todo) :: fs) = (wds d)[i] :: (wds d).drop (i + 1) := by
                rw [← rm]
                cases fs with
                | nil =>
                  show opS :: (wdss es ++ clS :: wdss todo) = (opS :: (wdss es ++ [clS])) ++ wdss todo
                  simp
                | cons g fs =>
                  show opS :: (wdss es ++ clS :: (wdss todo ++ clS :: rem (g :: fs))) = ((opS :: (wdss es ++ [clS])) ++ wdss todo) ++ clS :: rem (g :: fs)
                  simp
              obtain ⟨ew, er⟩ := List.cons.inj rm2
              rw [← ew]
              refine ⟨_, rfl, _, rfl, Lv, a, opS, _, xs, rfl, hL2, hA, sas, by omega, .inr ⟨hop, .inl rfl⟩, hT2, _, rfl, ?_⟩
              refine iteF ⟨_, rfl, rfl, _, rfl, ?_⟩
              refine iteT' (by decide +kernel) ⟨_, rfl, .inl ⟨rfl, _, SqL.of hL2⟩, Nat.zero_le _, fun e he => ?_⟩
              have sE : Same H2 (upd H2 e (.lst [])) := fun c o q => by
                rw [upd_ne (ne_of_none q he)]
                exact q
              have hLE := sE _ _ hL2
              have neL : Lv ≠ e := fun z => by rw [← z, hL2] at he; cases he
              have lvE : LevAt K (upd H2 e (.lst [])) (a :: as) ((b, todo) :: fs) := LevAt.same sE ⟨⟨xs, hA, hxs, nl⟩, lvs⟩
              have ne : e ∉ a :: as := fun z => by
                obtain ⟨_, q⟩ := LevAt.mem (K := K) (H := H2) (as := a :: as) (fs := (b, todo) :: fs) ⟨⟨xs, hA, hxs, nl⟩, lvs⟩ z
                rw [he] at q
                cases q
              refine ⟨Lv, _, _, rfl, rfl, hLE, small1000 ?_, ?_⟩
              · rw [List.length_append, List.length_singleton]
                omega
              refine ⟨e :: a :: as, ([], es) :: (b, todo) :: fs, _, _, _, rfl, fun c o q => ?_, ?_, ?_, List.nodup_cons.mpr ⟨ne, nd⟩, ?_, ⟨⟨[], (upd_ne (Ne.symm neL)).trans upd_same, .nil, rfl⟩, lvE.other hLE nL⟩, ⟨⟨trivial, oks, ?_, ?_⟩, ?_⟩, ?_, er⟩
              · rw [upd_ne (ne_of_none q (upd_no hLv))]
                exact sE _ _ (sm2 _ _ q)
              · rw [upd_same, List.map_cons, List.reverse_cons, List.map_cons, List.reverse_cons]
              · intro z
                rcases List.mem_cons.mp z with z | z
                · exact neL z
                · exact nL z
              · intro c hc
                rcases List.mem_cons.mp hc with z | z
                · rw [z]
                  exact sm2.free he
                · exact fz c z
              · show 2 ≤ 0 + (0 + es.length)
                omega
              · show 0 + (0 + es.length) ≤ n
                omega
              · refine okFr_put (f := (b, PyData.tuple es :: todo)) (f' := (b, todo)) ok1 ok2.2 ?_ okf
                simp only [List.length_cons]
                omega
              · refine Eq.trans ?_ wh
                refine Eq.trans (b := whole ((b ++ [PyData.tuple ([] ++ es)], todo) :: fs)) (by rw [whole]) ?_
                exact whole_eq (f := (b ++ [PyData.tuple ([] ++ es)], todo)) (f' := (b, PyData.tuple es :: todo)) (by simp) fs
    · rintro σ H' ⟨as, fr, v2, v3, v4, rfl, sm, hL, nL, nd, fz, lv, okf, wh, rm⟩
      refine ⟨⟨_, SqL.of (sm _ _ hW), Nat.le_refl _⟩, ?_⟩
      rw [List.length_map, List.drop_length] at rm
      cases fr with
      | nil => exact okf.elim
      | cons f fs =>
        cases fs with
        | cons g fs =>
          unfold rem at rm
          simp at rm
        | nil =>
          have e2 : f.2 = [] := by
            by_cases z : f.2 = []
            · exact z
            · exact absurd rm (wdss_ne okf.2 z)
          unfold whole at wh
          rw [e2, List.append_nil] at wh
          cases as with
          | nil => exact lv.elim
          | cons a as =>
            obtain ⟨⟨xs, hA, hxs, _⟩, lvs⟩ := lv
            cases as with
            | cons _ _ => exact lvs.elim
            | nil =>
              rw [wh] at hxs
              cases hxs with
              | cons hv ht =>
                cases ht
                refine ⟨_, rfl, Lv, _, rfl, .inl (SqL.of hL), _, _, rfl, rfl, _, rfl, ?_⟩
                refine iteF ⟨_, rfl, Lv, _, _, _, rfl, rfl, SqL.of hL, atI_nat (j := 0) rfl, a, _, _, _, rfl, rfl, SqL.of hA, atI_nat (j := 0) rfl, k _ _ sm hv⟩
end
end RS
set_option Elab.async false
set_option maxRecDepth 100000
set_option maxHeartbeats 4000000
namespace GX
open PySem PySem.Spec PyProof.Rows L2
/-! ### xs.extend(t), t any tuple -/
theorem ext_tup (l b : Addr) (xs ys : Array Value) (n m : Nat) (dd : Option Addr) (sl : Array (Option Value)) (h0 : ¬(!xs.isEmpty && Builtin.List.listTooLong (xs.size + ys.size)) = true) (h1 : xs.size ≤ sizeLine) (h2 : xs.size + ys.size ≤ sizeLine + 1) :
    Meets (Builtin.«list.extend» ⟨[.ref l, .ref b], []⟩) (fun _ R s => s.heap.get? l = some ⟨.type "list", none, .seq xs n, #[]⟩ ∧ s.heap.get? b = some ⟨.type "tuple", dd, .seq ys m, sl⟩ ∧ R (.ok (.ret .none)) { s with heap := s.heap.update l (Obj.mapSeq fun x => x ++ ys), toks := s.toks }) := .of_wp fun prog w A R s h => by
    obtain ⟨hp, g, d, tk, os⟩ := s
    obtain ⟨hl, hb, h⟩ := h
    have g1 := PySem.AutoSeq1.idx_int
    have g2 := PySem.AutoSeq1.sub_tuple_tuple
    have g3 := PySem.AutoSeq1.sub_list_list
    have g4 := PySem.AutoSeq1.sub_tuple_list
    have g5 := PySem.AutoSeq1.sub_list_tuple
    have z : (xs ++ ys).size ≤ sizeLine + 1 := (Array.size_append (xs := xs) (ys := ys)).symm ▸ h2
    wp_walk using (wpAny_updateSeq hl rfl (hz := h1) (_hz' := z)), PySem.AutoSeq1.wpAny_loadPart' hl, PySem.AutoSeq1.wpAny_loadPart' hb
    exact ⟨_, rfl, h⟩
section
variable {X : Cx}
def rExtT (K : PySem.W.Frag) : V → List V → Hp → VK → Prop := fun x vs H Q => ∃ l b xs zs, x = .ref l ∧ vs = [.ref b] ∧ H l = some (.lst xs) ∧ SqT K H b zs ∧ xs.length + zs.length ≤ sizeLine ∧ Q .non (upd H l (.lst (xs ++ zs)))
theorem mt_extT : MtM X "list.extend" (rExtT X.K) := by
  intro pins s σ H x vs v us Q I rx rv h
  obtain ⟨l, b, xs, zs, rfl, rfl, hH, hB, hz, q⟩ := h
  cases rx
  obtain ⟨u, rfl, ru⟩ := rv.one
  cases ru
  obtain ⟨z, its, n, r, hl, e⟩ := I.lstM hH
  obtain ⟨its2, r2, ⟨⟨oc, dd, dt, sl⟩, e2, hc, m, hd⟩, hz2⟩ := I.tuple hB
  subst hc hd
  have hl2 := r2.length
  have hsz : its.toArray.size + its2.toArray.size ≤ sizeLine := by rw [List.size_toArray, List.size_toArray]; omega
  have hlong : ¬ (!its.toArray.isEmpty && Builtin.List.listTooLong (its.toArray.size + its2.toArray.size)) = true := fun w => by
    rw [notLongL hsz, Bool.and_false] at w
    cases w
  refine call_meets F.slot_list_extend ⟨_, e, rfl⟩ F.entry_list_extend (F.args_list_extend_2 _ _) (ext_tup l b its.toArray its2.toArray n m dd sl hlong (by rw [List.size_toArray]; omega) (by omega)) ⟨e, e2, ?_⟩
  refine ⟨.non, _, I.lset (its' := its ++ its2) hH e (by simp) (r.append r2) (by rw [List.length_append]; omega), rfl, q⟩
/-- len(d) of a dict -/
theorem len_dic : CallR X (.builtin "len") (fun vs H Q => ∃ p es, vs = [V.ref p] ∧ H p = some (.dK es) ∧ Q (.int es.length) H) := fun pins s σ H vs us Q I r ⟨p, es, e, hp, q⟩ => by
  subst e
  obtain ⟨u, rfl, ru⟩ := vals1 r
  cases ru
  exact d_len I (.inl hp) fun tk s1 I1 => ⟨.int es.length, _, I1, ⟨tk, rfl⟩, q⟩
end
end GX
set_option Elab.async false
set_option maxRecDepth 100000
set_option maxHeartbeats 4000000
namespace RS
open PySem PySem.Spec PyProof.Rows L2 GX
theorem le64 {n : Nat} (h : n + 64 < cLine) : n + 1 < cLine := by omega
def keysD (js : List Nat) : List (Key × V) := js.map fun (j : Nat) => ((Sum.inl (j : Int) : Key), V.bl true)
theorem valV_js {js : List Nat} {i : Nat} (h : i ∉ js) : valV (keysD js) (Sum.inl (i : Int)) = none := by
  unfold keysD
  induction js with
  | nil => rfl
  | cons j js ih =>
    rw [List.map_cons, valV_neg]
    · exact ih fun z => h (List.mem_cons_of_mem _ z)
    · intro z
      have : (j : Int) = (i : Int) := Sum.inl.inj z
      exact h (by rw [show i = j by omega]; exact List.mem_cons_self)
theorem dpAll_snoc {K : PySem.W.Frag} {H : Hp} : ∀ {xs : List V} {y : V} {ds : List PyData}, DpAll K H (xs ++ [y]) ds → ∃ ds0 d, ds = ds0 ++ [d] ∧ DpAll K H xs ds0 ∧ Dp K H y d
  | [], _, _, .cons h .nil => ⟨[], _, rfl, .nil, h⟩
  | _ :: xs, _, _, .cons h t => by
    obtain ⟨ds0, d, rfl, h1, h2⟩ := dpAll_snoc (xs := xs) t
    exact ⟨_ :: ds0, d, rfl, .cons h h1, h2⟩
end RS
set_option Elab.async false
set_option maxRecDepth 100000
set_option maxHeartbeats 4000000
namespace RS
open PySem PySem.Spec PyProof.Rows L2 GX
section
variable {P : Program} {w : World} {K : PySem.W.Frag} {mg : Str → Option Value} {base : Heap}
theorem scCheckPlan : FnScope ["lengths", "ways", "plan", "named", "left", "part"] ["lengths", "ways", "plan"] (defScope s_check_plan) := ⟨rfl, rfl, rfl, by decide +kernel, rfl, by decide +kernel, by decide +kernel⟩
def spCheckPlan (K : PySem.W.Frag) : Sp := fun vs H Q _ => ∃ (vl vp : V) (ls : List Nat) (n : Nat) (d : PyData), vs = [vl, .int (n : Nat), vp] ∧ Dp K H vl (lensD ls) ∧ Dp K H vp d ∧ OkPlan ls.length n d ∧ ls.length ≤ 40 ∧ n ≤ 6 ∧ ∀ H', Same H H' → Q .non H'
theorem check_plan_ok {c : Addr} (D : DefAt K mg "check_plan" s_check_plan c) (T : Txt K mg) (cN : Cal P w K mg base CX0 1 "is_number" ["value"] (spNum K)) : Cal P w K mg base CX0 2 "check_plan" ["lengths", "ways", "plan"] (spCheckPlan K) := by
  have sc := scCheckPlan
  obtain ⟨tA, hA⟩ := T.leastw
  refine def_ok0 D sc (fun vs H Q E h => ?_) (fun _ _ _ _ _ _ us hl => match us, hl with | [_, _, _], _ => rfl) (fun f A outer s H vs Q E hr h => ?_)
  · obtain ⟨vl, vp, ls, n, d, rfl, _⟩ := h
    rfl
  · obtain ⟨vl, vp, ls, n, d, rfl, hl, hp, ok, l40, n6, k⟩ := h
    have hu := hr.units
    refine ⟨_, (pss_cons (ps_par (i := 3) (j := 4) rfl sc.nd rfl rfl (by decide) rfl rfl (pa_cons pe_dnewK (pa_cons (pe_lst (pa_cons (pv 2) pa_nil)) pa_nil)) (by rfl)) (pss_cons (ps_while PassesOwn.never (pt_truth (pv 4) (by intro _; rfl)) (pss_cons (ps_set (i := 5) sc.nd rfl (Or.inl rfl) (pe_bm0 PySem.F.plainAttrs_list PySem.F.slot_list_pop PySem.F.type_list_pop mt_pop (pv 4))) (pss_one (ps_if (pt_val (pe_callB call_isiD (by rfl) T.isinstance (by decide +kernel) (pa_cons (pv 5) (pa_cons (pe_bltn (v := V.ty "tuple") (u := Value.type "tuple") (by rfl) T.tuple_ (by decide +kernel) rfl) pa_nil)))) (pss_cons (ps_if (pt_not (pt_chain op_le op_le (pe_glob (v := V.int 2) (by rfl) hA ⟨_, rfl⟩) (pe_callB call_lenD (by rfl) T.len PySem.boot_len (pa_cons (pv 5) pa_nil)) (pv 1))) pss_never pss_nil) (pss_one (ps_expr (pe_bm PySem.F.plainAttrs_list PySem.F.slot_list_extend PySem.F.type_list_extend mt_extT (pv 4) (pa_cons (pv 5) pa_nil))))) (pss_one (ps_if ((pw_or (pt_not (pt_val (pe_c cN hr (by decide) (by rfl) pass0 (pa_cons (pv 5) pa_nil)))) (pw_or (pt_not (pt_chain op_le op_lt pe_int (pv 5) (pe_callB call_lenD (by rfl) T.len PySem.boot_len (pa_cons (pv 0) pa_nil)))) (pw_or1 (pt_cmp (pc_din (le64 hu) (pv 5) (pv 3)))))).pt) pss_never (pss_one (ps_dput (le64 hu) (pv 3) (pv 5) pe_bl (by rfl))))))))) (pss_one (ps_if (pt_cmpR op_lt (pe_callB len_dic (by rfl) T.len PySem.boot_len (pa_cons (pv 3) pa_nil)) (pe_callB call_lenD (by rfl) T.len PySem.boot_len (pa_cons (pv 0) pa_nil)) (nomark _)) pss_never pss_nil)))), ?_⟩
    intro p hp0
    refine ⟨_, rfl, by show 1 ≤ sizeLine; decide, fun q hq => ⟨_, _, rfl, ?_⟩⟩
    refine ⟨fun m σ H' => ∃ (xs : List V) (ds : List PyData) (js : List Nat) (v5 : Option V), σ = [some vl, some (.int (n : Nat)), some vp, some (.ref p), some (.ref q), v5] ∧ Same H H' ∧
      H' p = some (.dK (keysD js)) ∧ H' q = some (.lst xs) ∧ DpAll K H xs ds ∧ okPs n ds ∧ (js ++ leafs ds).Perm (List.range ls.length) ∧ m = sizePs ds, ⟨_, [vp], [d], [], none, rfl, fun b o e => ?_, ?_, upd_same, ?_, ?_, ?_, rfl⟩, ?_⟩
    · rw [upd_ne (ne_of_none e (upd_no hq)), upd_ne (ne_of_none e hp0)]
      exact e
    · rw [upd_ne (fun z => by rw [z, upd_same] at hq; cases hq), upd_same]
      rfl
    · exact .cons hp .nil
    · exact ⟨ok.ok, trivial⟩
    · simpa [leafs] using ok.all
    rintro m σ H' ⟨xs, ds, js, v5, rfl, sm, hP, hQ, hd, okd, pm, em⟩
    have npq : p ≠ q := fun z => by rw [z, upd_same] at hq; cases hq
    refine ⟨_, rfl, !xs.isEmpty, .inl ⟨xs, SqL.of hQ, rfl⟩, ?_⟩
    rcases xs.eq_nil_or_concat with rfl | ⟨xs0, y, rfl⟩
    · cases hd
      refine iteF ?_
      have pm' : js.Perm (List.range ls.length) := by simpa [leafs] using pm
      have lj : js.length = ls.length := by rw [pm'.length_eq, List.length_range]
      refine ⟨_, rfl, p, _, rfl, hP, _, rfl, _, _, (ls.map fun n => PyData.int (n : Nat)).length, rfl, dp_same sm _ hl, rfl, _, _, rfl, rfl, _, rfl, ?_⟩
      refine iteF' (decide_eq_false ?_) (k _ sm)
      show ¬ ((keysD js).length : Int) < ((ls.map fun n => PyData.int (n : Nat)).length : Nat)
      unfold keysD
      rw [List.length_map, List.length_map, lj]
      omega
    · rw [List.concat_eq_append] at hQ hd ⊢
      obtain ⟨ds0, e, rfl, hd0, he⟩ := dpAll_snoc hd
      obtain ⟨okd0, oke⟩ := okPs_app.mp okd
      have oke : okP n e := oke.1
      have pm1 : (js ++ (leafs ds0 ++ leaf e)).Perm (List.range ls.length) := by simpa [leafs_app, leafs] using pm
      refine iteT' (by simp) ⟨_, fun _ _ h => h, ?_⟩
      have hQ1 : upd H' q (.lst xs0) q = some (.lst xs0) := upd_same
      have hP1 : upd H' q (.lst xs0) p = some (.dK (keysD js)) := (upd_ne npq).trans hP
      have sm1 : ∀ u, Same H (upd H' q u) := fun u b o e => by
        rw [upd_ne (ne_of_none e (upd_no hq))]
        exact sm b o e
      have he1 := dp_same (sm1 (.lst xs0)) _ he
      refine ⟨_, rfl, .inl ⟨rfl, _, SqL.of hQ⟩, q, _, y, rfl, rfl, hQ, by simp, ?_⟩
      rw [List.dropLast_concat]
      refine ⟨_, rfl, _, _, _, rfl, by simp, he1, _, rfl, ?_⟩
      rcases okP_cases oke with ⟨i, rfl, hi⟩ | ⟨es, rfl, e1, e2, oks⟩
      · cases he1
        have hn : isNum (.int (i : Int)) = true := by simp [isNum, isI, isT, tyN]
        refine iteF ⟨_, rfl, _, _, rfl, .int _, _, rfl, ?_⟩
        rw [hn]
        have pm2 : (js ++ (leafs ds0 ++ [i])).Perm (List.range ls.length) := by simpa [leaf] using pm1
        have hi2 : i < ls.length := List.mem_range.mp (pm2.mem_iff.mp (by simp))
        have ni : i ∉ js := fun z => by
          have nd := pm2.nodup_iff.mpr List.nodup_range
          exact (List.nodup_append.mp nd).2.2 i z i (by simp) rfl
        refine iteF ⟨_, rfl, _, _, rfl, rfl, _, rfl, ?_⟩
        rw [show decide ((0 : Int) ≤ (i : Nat)) = true from decide_eq_true (by omega)]
        refine iteT ⟨_, rfl, _, _, (ls.map fun n => PyData.int (n : Nat)).length, rfl, dp_same (sm1 _) _ hl, rfl, _, _, rfl, rfl, _, rfl, ?_⟩
        rw [List.length_map, show decide (((i : Nat) : Int) < (ls.length : Nat)) = true from decide_eq_true (by omega)]
        refine iteF ⟨_, rfl, _, rfl, p, _, rfl, DGet.k (k := Sum.inl (i : Int)) hP1, _, rfl, ?_⟩
        rw [valV_js ni]
        refine iteF ⟨_, rfl, _, rfl, p, _, rfl, DPut.k (k := Sum.inl (i : Int)) hP1 ?_, ?_⟩
        · show (keysD js).length < sizeLine
          refine small1000 ?_
          have := pm2.length_eq
          rw [List.length_append, List.length_range] at this
          unfold keysD
          rw [List.length_map]
          omega
        · refine ⟨_, ?_, xs0, ds0, js ++ [i], _, rfl, fun b o e => ?_, ?_, (upd_ne (Ne.symm npq)).trans hQ1, hd0, okd0, ?_, rfl⟩
          · rw [em, sizePs_app]
            show sizePs ds0 < sizePs ds0 + (1 + 0)
            omega
          · rw [upd_ne (ne_of_none e hp0)]
            exact sm1 _ _ _ e
          · rw [upd_same, putK_new _ (valV_js ni)]
            unfold keysD
            rw [List.map_append]
            rfl
          · refine List.Perm.trans ?_ pm2
            rw [List.append_assoc]
            exact List.perm_append_comm.append_left _
      · refine iteT ⟨_, rfl, _, _, _, rfl, he1, rfl, _, _, rfl, rfl, _, rfl, ?_⟩
        rw [show decide ((2 : Int) ≤ (es.length : Nat)) = true from decide_eq_true (by omega)]
        refine iteT ⟨_, rfl, _, _, rfl, rfl, _, rfl, ?_⟩
        rw [show decide (((es.length : Nat) : Int) ≤ (n : Nat)) = true from decide_eq_true (by omega)]
        refine iteF ?_
        cases he with
        | @tup a zs _ hS hI =>
          have lz : zs.length = es.length := dpLen hI
          have lx := dpLen hd0
          have lf := leafs_depth ds0 okd0
          have lp := pm1.length_eq
          rw [List.length_append, List.length_append, List.length_range] at lp
          refine ⟨_, rfl, .inl ⟨rfl, _, SqL.of hQ1⟩, _, rfl, q, a, xs0, zs, rfl, rfl, hQ1, sqT_same (sm1 _) hS, ?_, ?_⟩
          · exact Nat.le_of_lt (small1000 (by omega))
          · refine ⟨_, ?_, xs0 ++ zs, ds0 ++ es, js, _, rfl, fun b o e => ?_, (upd_ne npq).trans hP1, upd_same, dpApp hd0 hI, okPs_app.mpr ⟨okd0, oks⟩, ?_, rfl⟩
            · rw [em, sizePs_app, sizePs_app]
              show sizePs ds0 + sizePs es < sizePs ds0 + ((1 + sizePs es) + 0)
              omega
            · rw [upd_ne (ne_of_none e (upd_no hq))]
              exact sm1 _ _ _ e
            · rw [leafs_app]
              exact pm1
end
end RS
set_option Elab.async false
set_option maxRecDepth 100000
set_option maxHeartbeats 4000000
namespace LM
open PySem PySem.Spec PyProof.Rows L2
/-! ### known objects that stay: the maker's cells while a call runs -/
def Pin (o : Obj) : HO := .frz o (.own 0)
/-- the addresses of a frame's cells -/
def Cell (cl : List (Str × Addr)) (b : Addr) : Prop := ∃ y, cl.lookup y = some b
open Classical in
/-- the abstract heap without the cells -/
noncomputable def off (cl : List (Str × Addr)) (H : Hp) : Hp := fun b => if Cell cl b then none else H b
open Classical in
/-- H' with the cells of H -/
noncomputable def back (cl : List (Str × Addr)) (H H' : Hp) : Hp := fun b => if Cell cl b then H b else H' b
theorem off_c {cl : List (Str × Addr)} {H : Hp} {b : Addr} (h : Cell cl b) : off cl H b = none := if_pos h
theorem off_n {cl : List (Str × Addr)} {H : Hp} {b : Addr} (h : ¬ Cell cl b) : off cl H b = H b := if_neg h
theorem back_c {cl : List (Str × Addr)} {H H' : Hp} {b : Addr} (h : Cell cl b) : back cl H H' b = H b := if_pos h
theorem back_n {cl : List (Str × Addr)} {H H' : Hp} {b : Addr} (h : ¬ Cell cl b) : back cl H H' b = H' b := if_neg h
/-- all cells are known in H -/
def Held (cl : List (Str × Addr)) (H : Hp) : Prop := ∀ b, Cell cl b → ∃ o, H b = some (Pin o)
/-- no cell is told of in H -/
def Loose (cl : List (Str × Addr)) (H : Hp) : Prop := ∀ b, Cell cl b → H b = none
theorem loose_off {cl : List (Str × Addr)} {H : Hp} : Loose cl (off cl H) := fun _ h => off_c h
theorem pin_own {o : Obj} {a : Addr} : Pin o ≠ .own a := fun z => nomatch z
theorem pin_tbl {o : Obj} {ps : Array Value} : Pin o ≠ .tbl ps := fun z => nomatch z
theorem pin_tup {o : Obj} {xs : List V} : Pin o ≠ .tup xs := fun z => nomatch z
section
variable {P : Program} {w : World} {K : PySem.W.Frag} {mg : Str → Option Value} {base : Heap} {A : Around} {outer : List Env} {s s' : Shared} {H H' G : Hp} {cl : List (Str × Addr)} {h h' : Heap} {fs : List Addr}
theorem pin_at (x : HOk P w H h) {b : Addr} {o : Obj} (e : H b = some (Pin o)) : h.get? b = some o := (x b _ e).1
theorem held_off (hd : Held cl H) (b : Addr) (u : HO) (hu : ∀ o, u ≠ Pin o) (e : H b = some u) : off cl H b = some u := by
  by_cases c : Cell cl b
  · obtain ⟨o, z⟩ := hd b c
    rw [z] at e
    exact absurd (Option.some.inj e).symm (hu o)
  · rw [off_n c]
    exact e
theorem hok_off (hd : Held cl H) (x : HOk P w H h) : HOk P w (off cl H) h := fun b u e => by
  by_cases c : Cell cl b
  · rw [off_c c] at e
    cases e
  · rw [off_n c] at e
    exact (x b u e).stay (fun _ _ _ q => q) (fun d q => held_off hd d _ (fun o z => pin_own z.symm) q) fun d xs q => held_off hd d _ (fun o z => pin_tup z.symm) q
/-- the state at a call, its cells let go -/
theorem env_off (hd : Held cl H) (e : Env0 P w K mg base A outer s H) : Env0 P w K mg base A outer s (off cl H) := by
  refine ⟨e.frames, e.mod, fun b o q => ⟨(e.bs b o q).1, ?_⟩, e.bsz, e.funs, fun b q => ?_, hok_off hd e.hok, e.bare⟩
  · by_cases c : Cell cl b
    · exact off_c c
    · rw [off_n c]
      exact (e.bs b o q).2
  · by_cases c : Cell cl b
    · exact off_c c
    · rw [off_n c]
      exact e.frf b q
/-- what a run did ahead of which the cells were let go: with them -/
theorem un_back (hd : Held cl H) (hk : HOk P w H h) (nf : ∀ b, Cell cl b → b ∉ fs) (u : Un fs [] (off cl H) H' h h') : Un fs [] H (back cl H H') h h' := by
  have nc : ∀ b, H b = none → ¬ Cell cl b := fun b n c => by
    obtain ⟨o, z⟩ := hd b c
    rw [n] at z
    cases z
  refine ⟨fun b o q n hb hx => u.keep b o q (by rw [off_n (nc b n)]; exact n) hb hx, fun b o q n hb hx => u.slot b o q (by rw [off_n (nc b n)]; exact n) hb hx, fun b o q n hx => ?_, u.there, fun b xs q => ?_, fun b o v q => ?_, fun b ps q => ?_⟩
  · rw [back_n (nc b n)]
    exact u.free b o q (by rw [off_n (nc b n)]; exact n) hx
  · have c : ¬ Cell cl b := fun c => by
      obtain ⟨o, z⟩ := hd b c
      rw [q] at z
      cases z
    rw [back_n c]
    exact u.tups b xs (by rw [off_n c]; exact q)
  · by_cases c : Cell cl b
    · rw [back_c c]
      exact q
    · rw [back_n c]
      exact u.frzs b o v (by rw [off_n c]; exact q)
  · have c : ¬ Cell cl b := fun c => by
      obtain ⟨o, z⟩ := hd b c
      rw [q] at z
      cases z
    rw [back_n c]
    exact u.tbls b ps (by rw [off_n c]; exact q)
theorem loose_un (hk : HOk P w H h) (hd : Held cl H) (u : Un fs [] (off cl H) H' h h') : Loose cl H' := fun b c => by
  obtain ⟨o, z⟩ := hd b c
  exact u.free b o (pin_at hk z) (off_c c) (by simp)
theorem hok_back (hd : Held cl H) (hk : HOk P w H h) (nf : ∀ b, Cell cl b → b ∉ fs) (u : Un fs [] (off cl H) H' h h') (x : HOk P w H' h') : HOk P w (back cl H H') h' := fun b v e => by
  have lo := loose_un hk hd u
  by_cases c : Cell cl b
  · rw [back_c c] at e
    obtain ⟨o, z⟩ := hd b c
    rw [z] at e
    cases e
    have := u.keep b o (pin_at hk z) (off_c c) (nf b c) (by simp)
    exact ⟨this, ⟨o, this⟩⟩
  · rw [back_n c] at e
    have st : ∀ d v, H' d = some v → back cl H H' d = some v := fun d v q => by
      have : ¬ Cell cl d := fun z => by
        rw [lo d z] at q
        cases q
      rw [back_n this]
      exact q
    exact (x b v e).stay (fun _ _ _ q => q) (fun d q => st d _ q) fun d xs q => st d _ q
/-- G is H with the cells known -/
structure Up (cl : List (Str × Addr)) (H G : Hp) (h : Heap) : Prop where
  lo : Loose cl H
  same : ∀ b, ¬ Cell cl b → G b = H b
  held : ∀ b, Cell cl b → ∃ o, h.get? b = some o ∧ G b = some (Pin o)
theorem Up.hd (p : Up cl H G h) : Held cl G := fun b c => by
  obtain ⟨o, _, z⟩ := p.held b c
  exact ⟨o, z⟩
theorem up_some (p : Up cl H G h) {b : Addr} {u : HO} (e : H b = some u) : G b = some u := by
  have : ¬ Cell cl b := fun c => by
    rw [p.lo b c] at e
    cases e
  rw [p.same b this]
  exact e
theorem hok_up (p : Up cl H G h) (x : HOk P w H h) : HOk P w G h := fun b u e => by
  by_cases c : Cell cl b
  · obtain ⟨o, ho, z⟩ := p.held b c
    rw [z] at e
    cases e
    exact ⟨ho, ⟨o, ho⟩⟩
  · rw [p.same b c] at e
    exact (x b u e).stay (fun _ _ _ q => q) (fun d q => up_some p q) fun d xs q => up_some p q
theorem env_up (p : Up cl H G s.heap) (nb : ∀ b, Cell cl b → base.get? b = none) (nf : ∀ b, Cell cl b → b ∉ frs outer) (e : Env0 P w K mg base A outer s H) : Env0 P w K mg base A outer s G := by
  refine ⟨e.frames, e.mod, fun b o q => ⟨(e.bs b o q).1, ?_⟩, e.bsz, e.funs, fun b q => ?_, hok_up p e.hok, e.bare⟩
  · rw [p.same b fun c => by rw [nb b c] at q; cases q]
    exact (e.bs b o q).2
  · rw [p.same b fun c => nf b c q]
    exact e.frf b q
/-- behind a call with known cells: they are let go again -/
theorem end_up {Q : VK} {u : Value} (p : Up cl H G s.heap) (h : CE outer P w G s (fun v H' => Q v (off cl H')) u s') : CE outer P w H s Q u s' := by
  obtain ⟨v, H', os, bare, un, hk, r, q⟩ := h
  have kept : ∀ b, Cell cl b → ∃ o, s.heap.get? b = some o ∧ H' b = some (Pin o) := fun b c => by
    obtain ⟨o, ho, z⟩ := p.held b c
    exact ⟨o, ho, un.frzs b o _ z⟩
  have hd : Held cl H' := fun b c => by
    obtain ⟨o, _, z⟩ := kept b c
    exact ⟨o, z⟩
  refine ⟨v, off cl H', os, bare, ⟨fun b o e n hb hx => ?_, fun b o e n hb hx => ?_, fun b o e n hx => ?_, un.there, fun b xs e => ?_, fun b o v e => ?_, fun b ps e => ?_⟩, hok_off hd hk, r, q⟩
  · by_cases c : Cell cl b
    · obtain ⟨o', ho, z⟩ := kept b c
      rw [e] at ho
      cases ho
      exact pin_at hk z
    · exact un.keep b o e (by rw [p.same b c]; exact n) hb hx
  · by_cases c : Cell cl b
    · obtain ⟨o', ho, z⟩ := kept b c
      rw [e] at ho
      cases ho
      exact ⟨o.slots, pin_at hk z⟩
    · exact un.slot b o e (by rw [p.same b c]; exact n) hb hx
  · by_cases c : Cell cl b
    · exact off_c c
    · rw [off_n c]
      exact un.free b o e (by rw [p.same b c]; exact n) hx
  · have g := un.tups b xs (up_some p e)
    exact held_off hd b _ (fun o z => pin_tup z.symm) g
  · have c : ¬ Cell cl b := fun c => by
      rw [p.lo b c] at e
      cases e
    rw [off_n c]
    exact un.frzs b o v (up_some p e)
  · obtain ⟨more, g⟩ := un.tbls b ps (up_some p e)
    exact ⟨more, held_off hd b _ (fun o z => nomatch z) g⟩
end
end LM
set_option Elab.async false
set_option maxRecDepth 100000
set_option maxHeartbeats 4000000
namespace LM
open PySem PySem.Spec PyProof.Rows L2
open LamX (ExtN TabS TabB CodeO LamS lamCx lamEnv)
/-! ### an exception through let-go cells -/
section
variable {P : Program} {w : World} {outer : List Env} {s s' : Shared} {H : Hp} {cl : List (Str × Addr)}
theorem cx_back {E : XK} {u : Value} (hd : Held cl H) (hk : HOk P w H s.heap) (nf : ∀ b, Cell cl b → b ∉ frs outer) (x : L2.CX P w outer (off cl H) s (fun c d H' => Loose cl H' → E c d (back cl H H')) u s') : L2.CX P w outer H s E u s' := by
  obtain ⟨a, B, H', c, d, e, fl, ok, ub, na, os, bare, q⟩ := x
  have nc : ∀ b, H b = none → ¬ Cell cl b := fun b n z => by
    obtain ⟨o, y⟩ := hd b z
    rw [n] at y
    cases y
  have lo : Loose cl H' := fun b z => by
    obtain ⟨o, y⟩ := hd b z
    exact ub.free b o (pin_at hk y) (off_c z)
  have ap : ∀ b u, (∀ o, u ≠ Pin o) → H b = some u → ¬ Cell cl b := fun b u hu y z => by
    obtain ⟨o, v⟩ := hd b z
    rw [y] at v
    exact hu o (Option.some.inj v)
  have inB : ∀ b, Cell cl b → ∃ o, H b = some (Pin o) ∧ B.get? b = some o := fun b z => by
    obtain ⟨o, y⟩ := hd b z
    exact ⟨o, y, ub.keep b o (pin_at hk y) (off_c z) (nf b z)⟩
  have nca : ¬ Cell cl a := fun z => by
    obtain ⟨o, _, y⟩ := inB a z
    rw [fl.2.1] at y
    cases y
  refine ⟨a, B, back cl H H', c, d, e, fl, fun b v y => ?_, ⟨fun b o y n hb => ub.keep b o y (by rw [off_n (nc b n)]; exact n) hb, ub.slot, fun b o y n => ?_, ub.there, fun b xs y => ?_, fun b o v y => ?_, fun b ps y => ?_⟩, by rw [back_n nca]; exact na, os, bare, q lo⟩
  · by_cases z : Cell cl b
    · rw [back_c z] at y
      obtain ⟨o, y2, g⟩ := inB b z
      rw [y2] at y
      cases y
      exact ⟨g, ⟨o, g⟩⟩
    · rw [back_n z] at y
      have st : ∀ d v, H' d = some v → back cl H H' d = some v := fun d v q => by
        have : ¬ Cell cl d := fun z => by
          rw [lo d z] at q
          cases q
        rw [back_n this]
        exact q
      exact (ok b v y).stay (fun _ _ _ q => q) (fun d q => st d _ q) fun d xs q => st d _ q
  · rw [back_n (nc b n)]
    exact ub.free b o y (by rw [off_n (nc b n)]; exact n)
  · have z := ap b _ (fun o y => pin_tup y.symm) y
    rw [back_n z]
    exact ub.tups b xs (by rw [off_n z]; exact y)
  · by_cases z : Cell cl b
    · rw [back_c z]
      exact y
    · rw [back_n z]
      exact ub.frzs b o v (by rw [off_n z]; exact y)
  · have z := ap b _ (fun o y => pin_tbl y.symm) y
    rw [back_n z]
    exact ub.tbls b ps (by rw [off_n z]; exact y)
theorem cr_back {Q : VK} {E : XK} {r : Result} (hd : Held cl H) (hk : HOk P w H s.heap) (nf : ∀ b, Cell cl b → b ∉ frs outer) (x : CR (L2.CX P w) outer P w (off cl H) s (fun v H' => Loose cl H' → Q v (back cl H H')) (fun c d H' => Loose cl H' → E c d (back cl H H')) r s') : CR (L2.CX P w) outer P w H s Q E r s' := by
  cases r with
  | error e => exact cx_back hd hk nf x
  | ok fl =>
    cases fl with
    | ret u =>
      obtain ⟨v, H', os, bare, un, ok, rv, q⟩ := x
      exact ⟨v, back cl H H', os, bare, un_back hd hk nf un, hok_back hd hk nf un ok, rv, q (loose_un hk hd un)⟩
    | next => exact x
    | brk => exact x
    | cont => exact x
end
/-! ### what a lambda does where it is called -/
/-- f, called without arguments where R holds, keeps tl -/
structure Act (P : Program) (w : World) (K : PySem.W.Frag) (mg : Str → Option Value) (base : Heap) (k : Nat) (f : Addr) (R : Hp → Prop) (tl : Hp → VK → XK → Prop) : Prop where
  same : ∀ H H' : Hp, (∀ b o, H b = some o → H' b = some o) → R H → R H'
  fn : ∀ (s : Shared) (H : Hp), R H → HOk P w H s.heap → PySem.W.FnAt f s.heap
  run : ∀ (A : Around) (outer : List Env) (s : Shared) (H : Hp) (Q : VK) (E : XK), Room k A → Env0 P w K mg base A outer s H → R H → tl H Q E → codeAny (model P w) A (.call (.ref f) ⟨[], []⟩) (CR (L2.CX P w) outer P w H s Q E) s
/-- the lambda that stands at f -/
def IsLam (H : Hp) (f : Addr) (q : Str) (params : Arguments) (body : Expr) (scope : Scope) (clos : List (Str × Addr)) : Prop :=
  ∃ (c' : Addr) (pm ctv : Value), H f = some (Pin (PySem.W.kla_obj "<lambda>" q params body scope clos pm c' ctv)) ∧ H c' = some (CodeO c' q)
theorem IsLam.ext {H H' : Hp} {f : Addr} {q : Str} {params : Arguments} {body : Expr} {scope : Scope} {clos : List (Str × Addr)} (h : IsLam H f q params body scope clos) (e : ExtN H H') : IsLam H' f q params body scope clos := by
  obtain ⟨c', pm, ctv, h1, h2⟩ := h
  exact ⟨c', pm, ctv, e _ _ h1 (fun ps z => nomatch z), e _ _ h2 (fun ps z => LamX.codeO_ne ps z)⟩
/-- what a frame's cells hold, told at a call: H ahead, G with the cells -/
structure Caught (X : Cx) (σ : L2.St) (H G : Hp) : Prop where
  len : σ.length = X.N.length
  has : ∀ y, X.env.kindOf y = some .cell ∨ X.env.kindOf y = some .free → ∃ c, X.env.cells.lookup y = some c
  inj : ∀ x y c, X.env.cells.lookup x = some c → X.env.cells.lookup y = some c → x = y
  lo : Loose X.env.cells H
  same : ∀ b, ¬ Cell X.env.cells b → G b = H b
  held : ∀ b, Cell X.env.cells b → ∃ o v, G b = some (Pin o) ∧ o.data = .cell v
  val : ∀ (i : Nat) (y : Str) (v : V), X.N[i]? = some y → σ[i]? = some (some v) → X.env.kindOf y = some .cell ∨ X.env.kindOf y = some .free → ∃ c o u, X.env.cells.lookup y = some c ∧ G c = some (Pin o) ∧ o.data = .cell (some u) ∧ RelV v u
theorem Caught.some {X : Cx} {σ : L2.St} {H G : Hp} (c : Caught X σ H G) {b : Addr} {o : HO} (e : H b = some o) : G b = some o := by
  rw [c.same b fun z => by rw [c.lo b z] at e; cases e]
  exact e
theorem Caught.hd {X : Cx} {σ : L2.St} {H G : Hp} (c : Caught X σ H G) : Held X.env.cells G := fun b z => by
  obtain ⟨o, _, e, _⟩ := c.held b z
  exact ⟨o, e⟩
open Classical in
theorem caught_of {X : Cx} {pins : List (Addr × Obj)} {σ : L2.St} {H : Hp} {s : Shared} (I : Inv X pins σ H s) : ∃ G, Up X.env.cells H G s.heap ∧ Caught X σ H G := by
  have lo : Loose X.env.cells H := fun b ⟨y, e⟩ => I.freeC y b e
  have at_ : ∀ b, Cell X.env.cells b → ∃ o v, s.heap.get? b = some o ∧ o.data = .cell v := fun b ⟨y, e⟩ => by
    obtain ⟨v, o, h1, h2⟩ := I.cell y b e
    exact ⟨o, v, h1, h2⟩
  refine ⟨fun b => if Cell X.env.cells b then (s.heap.get? b).map Pin else H b, ⟨lo, fun b c => if_neg c, fun b c => ?_⟩, ⟨I.len, fun y hy => I.ok.has y hy, I.ok.inj, lo, fun b c => if_neg c, fun b c => ?_, fun i y v h1 h2 h3 => ?_⟩⟩
  · obtain ⟨o, v, h1, h2⟩ := at_ b c
    refine ⟨o, h1, ?_⟩
    show (if Cell X.env.cells b then (s.heap.get? b).map Pin else H b) = _
    rw [if_pos c, h1]
    rfl
  · obtain ⟨o, v, h1, h2⟩ := at_ b c
    refine ⟨o, v, ?_, h2⟩
    show (if Cell X.env.cells b then (s.heap.get? b).map Pin else H b) = _
    rw [if_pos c, h1]
    rfl
  · obtain ⟨m, _, hl⟩ := I.loc
    have hv : Vis X.env.scope y := h3.elim (fun k => .inr (.inl k)) fun k => .inr (.inr k)
    obtain ⟨u, r, q⟩ := hl i y v h1 h2 hv
    rcases q with ⟨k, _⟩ | ⟨_, c, e, o, ho, hd⟩
    · rcases h3 with z | z <;> rw [z] at k <;> cases k
    · refine ⟨c, o, u, e, ?_, hd, r⟩
      show (if Cell X.env.cells c then (s.heap.get? c).map Pin else H c) = _
      rw [if_pos ⟨y, e⟩, ho]
      rfl
/-- the lambda's own frame is entered -/
theorem lam_in {X : Cx} {σ : L2.St} {H G HZ : Hp} {A : Around} {outer : List Env} {E : XK} {scope : Scope} {f c' : Addr} {h₁ : Heap} {tk : Nat} {s1 : Shared} (U : Caught X σ H G) (L : LamS X.env.scope scope) (e0 : Env0 X.prog X.w X.K X.mg X.base A outer s1 (off X.env.cells HZ)) (hd : A.handled = none)
    (hz : ∀ b, Cell X.env.cells b → ∃ o, G b = some (Pin o) ∧ s1.heap.get? b = some o) (hns : h₁.Ns s1.heap.objs.size fun y => ([] : List (Str × Value)).reverse.lookup y) (kp : ∀ b o, s1.heap.get? b = some o → h₁.get? b = some o) :
    Inv (lamCx X A outer s1 (off X.env.cells HZ) E scope f c') [] σ (off X.env.cells HZ) { s1 with heap := h₁, toks := tk } := by
  have has : ∀ y ∈ scope.names, y.2 = .free → ∃ c, X.env.cells.lookup y.1 = some c := fun y hy e => U.has _ (L.free y hy e)
  have cm : ∀ {y c}, (cloFrom X.env.cells scope.names []).lookup y = some c → X.env.cells.lookup y = some c := fun {y c} e => by
    rcases cloFrom_mem (PySem.mem_of_lookup e) with z | ⟨h1, h2⟩
    · cases z
    · obtain ⟨c1, hc⟩ := has _ h1 rfl
      have hc : X.env.cells.lookup y = some c1 := hc
      rw [hc] at h2
      rw [h2]
      exact hc
  have look : ∀ {y}, scope.names.lookup y = some .free → ∃ c, (cloFrom X.env.cells scope.names []).lookup y = some c := fun {y} hl =>
    mem_lookup (cloFrom_has (cells := X.env.cells) (acc := []) (PySem.mem_of_lookup hl))
  have isC : ∀ {y c}, X.env.cells.lookup y = some c → ∃ v, h₁.IsCell c v := fun {y c} e => by
    obtain ⟨o, v, g, d⟩ := U.held c ⟨y, e⟩
    obtain ⟨o', g', k⟩ := hz c ⟨y, e⟩
    rw [g] at g'
    have : o = o' := by injection g' with g'; injection g'
    subst this
    exact ⟨v, o, kp _ _ k, d⟩
  have noex : ∀ b : Addr, b ∉ (lamCx X A outer s1 (off X.env.cells HZ) E scope f c').ex := fun b z => nomatch (show b ∈ ([] : List Addr) from z)
  refine ⟨⟨e0.mod, L.kind, rfl, rfl, Nat.le_refl _, fun y z c e1 e2 => U.inj y z c (cm e1) (cm e2), fun y hy => ?_, fun y c z _ => Bool.noConfusion (show false = true from z), fun _ => hd, Around.frames_deeper e0.frames, .inr ⟨rfl, rfl⟩, fun b z => absurd z (noex b), e0.bs, e0.bsz, fun b _ _ => noex b,
      fun b z => absurd z (noex b), e0.funs, e0.frf⟩,
    rfl, e0.bare, Un.kept kp, ⟨_, hns, fun i y v e1 e2 e3 => ?_⟩, fun y c e => isC (cm e), e0.hok.fresh (Nat.le_refl _), fun y c e => off_c ⟨y, cm e⟩, fun q hq => absurd (show q ∈ ([] : List (Addr × Obj)) ++ [] from hq) (by simp), e0.hok.kept kp, U.len⟩
  · have hy : scope.names.lookup y = some .cell ∨ scope.names.lookup y = some .free := hy
    rcases hy with hy | hy
    · exact absurd rfl (L.own _ (PySem.mem_of_lookup hy)).2
    · exact look hy
  · have e3 : Vis scope y := e3
    rcases e3 with k | k | k
    · exact absurd rfl (L.own _ (PySem.mem_of_lookup k)).1
    · exact absurd rfl (L.own _ (PySem.mem_of_lookup k)).2
    · obtain ⟨c, o, u, h1, h2, h3, r⟩ := U.val i y v e1 e2 (L.free _ (PySem.mem_of_lookup k) rfl)
      obtain ⟨c2, z⟩ := look k
      have := cm z
      rw [h1] at this
      cases this
      obtain ⟨o', g', kk⟩ := hz c ⟨y, h1⟩
      rw [h2] at g'
      have : o = o' := by injection g' with g'; injection g'
      subst this
      exact ⟨u, r, .inr ⟨.inr k, c, z, o, kp _ _ kk, h3⟩⟩
/-- what the lambda at f does, wherever it is called while the frame's cells are known -/
theorem lam_act {X : Cx} {σ : L2.St} {H G : Hp} {params : Arguments} {body : Expr} {scope : Scope} {f : Addr} {k : Nat} {t : XK → TE} (U : Caught X σ H G) (L : LamS X.env.scope scope) (hl : IsLam G f (X.env.qual ++ "<lambda>") params body scope (cloFrom X.env.cells scope.names []))
    (hbind : ∀ (q : Str) (cl : List (Str × Addr)) (pm cv ctv : Value), bindArgs (PySem.W.kla_fn "<lambda>" q params body scope cl pm cv ctv) ⟨[], []⟩ = pure [])
    (hbody : ∀ (A : Around) (outer : List Env) (s : Shared) (H : Hp) (E : XK) (c' : Addr), Room k (A.deeper (lamEnv X scope s.heap.objs.size f c')) → PE (lamCx X A outer s H E scope f c') body (t E)) :
    ∃ R : Hp → Prop, R G ∧ Act X.prog X.w X.K X.mg X.base (k + 1) f R (fun H Q E => t (fun c d H' => Loose X.env.cells H' → E c d (back X.env.cells H H')) σ (off X.env.cells H) (fun v H' => Loose X.env.cells H' → Q v (back X.env.cells H H'))) := by
  obtain ⟨c', pm, ctv, h1, h2⟩ := hl
  refine ⟨fun HZ => HZ f = G f ∧ HZ c' = G c' ∧ ∀ b, Cell X.env.cells b → HZ b = G b, ⟨rfl, rfl, fun _ _ => rfl⟩, ⟨fun H H' e ⟨r1, r2, r3⟩ => ⟨?_, ?_, fun b c => ?_⟩, fun s H ⟨r1, _, _⟩ ok => ?_, fun A outer s HZ Q E hr e0 ⟨r1, r2, r3⟩ ht => ?_⟩⟩
  · rw [h1] at r1 ⊢
    exact e _ _ r1
  · rw [h2] at r2 ⊢
    exact e _ _ r2
  · obtain ⟨o, z⟩ := U.hd b c
    have r3 := r3 b c
    rw [z] at r3 ⊢
    exact e _ _ r3
  · rw [h1] at r1
    exact ⟨_, _, _, _, pin_at ok r1⟩
  have hd : Held X.env.cells HZ := fun b c => by
    rw [r3 b c]
    exact U.hd b c
  have nf : ∀ b, Cell X.env.cells b → b ∉ frs outer := fun b c z => by
    obtain ⟨o, y⟩ := hd b c
    rw [e0.frf b z] at y
    cases y
  rw [h1] at r1
  rw [h2] at r2
  have of1 := pin_at e0.hok r1
  obtain ⟨⟨oc, vs, tt, hoc, hdc, hvc⟩, _, _⟩ := e0.hok c' _ r2
  have e1 := env_off hd e0
  have lim : s.heap.NoLimit := e0.mod.nolimit.keeps fun b o e => (e0.bs b o e).1
  refine codeAny_mono (R := CR (L2.CX X.prog X.w) outer X.prog X.w (off X.env.cells HZ) s (fun v H' => Loose X.env.cells H' → Q v (back X.env.cells HZ H')) (fun c d H' => Loose X.env.cells H' → E c d (back X.env.cells HZ H'))) ?_ fun r s' hq => cr_back hd e0.hok nf hq
  refine PySem.W.kla_callFunE hr.depth of1 rfl L.co L.gen rfl ⟨c', oc, vs, tt, rfl, hoc, hdc, hvc⟩ ?_
  rw [hbind]
  refine wpAny_pure (wpAny_newFunctionEnv (fun y hy => (L.own y hy).2) (fun y hy => absurd hy (by simp)) (fun h₁ hns hsb => ⟨lim.fresh _ hsb, ?_⟩) L.kind)
  show codeAny _ _ (.expr body (lamEnv X scope s.heap.objs.size f c')) _ _
  have kp : ∀ b o, s.heap.get? b = some o → h₁.get? b = some o := fun b o e => hsb.extBut b o (Nat.ne_of_lt (Heap.lt_size e)) (Heap.get?_push_of_some _ e)
  have J := lam_in (E := fun c d H' => Loose X.env.cells H' → E c d (back X.env.cells HZ H')) (scope := scope) (f := f) (c' := c') (tk := s.toks + ([] : List (Str × Value)).length) U L e1 hr.hd (fun b c => by
    obtain ⟨o, z⟩ := U.hd b c
    exact ⟨o, z, pin_at e0.hok ((r3 b c).trans z)⟩) hns kp
  refine PySem.W.kla_codeExpr (wpAny_mono ((hbody _ _ s (off X.env.cells HZ) _ c' (hr.deeper _)).run [] _ _ (off X.env.cells HZ) _ J ht) (fun v s' hq => ?_) fun e s' hq => hq)
  obtain ⟨w', H', J', rv, q⟩ := hq
  exact ⟨w', H', J'.os, J'.bare, J'.base, J'.hok, rv, q⟩
theorem caught_same {X : Cx} {σ : L2.St} {H G H' : Hp} (c : Caught X σ H G) (s : ∀ b o, G b = some o → H' b = some o) : ∀ b o, H b = some o → off X.env.cells H' b = some o := fun b o e => by
  rw [off_n fun z => by rw [c.lo b z] at e; cases e]
  exact s b o (c.some e)
theorem back_same {cl : List (Str × Addr)} {H H' : Hp} (s : ∀ b o, off cl H b = some o → H' b = some o) : ∀ b o, H b = some o → back cl H H' b = some o := fun b o e => by
  by_cases c : Cell cl b
  · rw [back_c c]
    exact e
  · rw [back_n c]
    exact s b o (by rw [off_n c]; exact e)
theorem back_at {cl : List (Str × Addr)} {H H' : Hp} (lo : Loose cl H') {b : Addr} {o : HO} (e : H' b = some o) : back cl H H' b = some o := by
  rw [back_n fun c => by rw [lo b c] at e; cases e]
  exact e
end LM
set_option Elab.async false
set_option maxRecDepth 100000
set_option maxHeartbeats 4000000
namespace LM
open PySem PySem.Spec PyProof.Rows L2
open LamX (ExtN TabS TabB CodeO LamS lamCx lamEnv)
/-! ### a lambda is made -/
def tLam (P : Addr) (q : Str) (params : Arguments) (body : Expr) (scope : Scope) (clos : List (Str × Addr)) : TE := fun _ H Q => TabS H P q ∧
  ∀ (f : Addr) (H1 : Hp), ExtN H H1 → TabS H1 P q → IsLam H1 f q params body scope clos → H f = none → Q (.ref f) H1
section
variable {X : Cx}
theorem pe_lam {c P : Addr} {params : Arguments} {body : Expr} {scope : Scope} {pos : Pos} (TB : TabB X.base X.mg c P) (hcode : X.env.code = .ref c) (L : LamS X.env.scope scope) (hdef : defaultsOf params X.env = ([], [])) :
    PE X (.Lambda params body scope pos) (tLam P (X.env.qual ++ "<lambda>") params body scope (cloFrom X.env.cells scope.names [])) := by
  refine ⟨fun pins s σ H Q I ⟨hT, h⟩ => ?_⟩
  obtain ⟨ps, hP, ht, ha⟩ := id hT
  refine PySem.W.kla_eval hdef ?_
  have hP' : s.heap.get? P = some { cls := .none, data := .fields ps } := I.hok P _ hP
  cases hc : codeAmong pos ps.toList with
  | none =>
    refine PySem.W.kla_makeFunction (mg := X.mg) (c := c) (P := P) (ps := ps) (closure_ok (L.has I.ok)) I.ok.glob (I.mod.glob.keeps I.bk) hcode (TB.code.keeps I.bk) hP' ht hc TB.gP (TB.bm.keeps I.bk) fun c' ctv g tk hx hge hlt hrec htb => ?_
    obtain ⟨c2, oc, vs, t, e2, hoc, hd, hv⟩ := hrec
    cases e2
    have nC : H c' = none := I.hok.fresh hge
    have I1 := LamX.inv_table (t' := tk) (q := X.env.qual ++ "<lambda>") (more := #[rawInt pos.line, rawInt pos.col, .ref c']) I hP (fun b o hb e => hx b o hb e) htb hge ⟨oc, vs, t, hoc, hd, hv⟩
    have I2 := I1.laid (a := g.objs.size) (o := Pin (PySem.W.kla_obj "<lambda>" (X.env.qual ++ "<lambda>") params body scope (cloFrom X.env.cells scope.names []) ((X.mg "__name__").getD .none) c' ctv)) (t' := tk) (fun b u e => Heap.get?_push_of_some (h := g) _ e) (Nat.le_refl _) ⟨Heap.get?_push_size _ rfl, ⟨_, Heap.get?_push_size _ rfl⟩⟩
    have nF : H g.objs.size = none := I.hok.fresh (Nat.le_trans hge (Nat.le_of_lt hlt))
    have n1 : g.objs.size ≠ c' := Nat.ne_of_gt hlt
    have n2 : P ≠ g.objs.size := ne_of_none hP nF
    have n3 : P ≠ c' := ne_of_none hP nC
    have hE : ExtN H (upd (upd (upd H P (.tbl (ps ++ #[rawInt pos.line, rawInt pos.col, .ref c']))) c' (CodeO c' (X.env.qual ++ "<lambda>"))) g.objs.size (Pin (PySem.W.kla_obj "<lambda>" (X.env.qual ++ "<lambda>") params body scope (cloFrom X.env.cells scope.names []) ((X.mg "__name__").getD .none) c' ctv))) := fun b o e n => by
      rw [upd_ne (ne_of_none e nF), upd_ne (ne_of_none e nC), upd_ne fun z => n ps (Option.some.inj (e.symm.trans (by rw [z]; exact hP)))]
      exact e
    have hC2 : (upd (upd (upd H P (.tbl (ps ++ #[rawInt pos.line, rawInt pos.col, .ref c']))) c' (CodeO c' (X.env.qual ++ "<lambda>"))) g.objs.size (Pin (PySem.W.kla_obj "<lambda>" (X.env.qual ++ "<lambda>") params body scope (cloFrom X.env.cells scope.names []) ((X.mg "__name__").getD .none) c' ctv))) c' = some (CodeO c' (X.env.qual ++ "<lambda>")) := by
      rw [upd_ne (Ne.symm n1), upd_same]
    refine ⟨.ref g.objs.size, _, I2, rfl, h _ _ hE ⟨_, by rw [upd_ne n2, upd_ne n3, upd_same], ?_, fun p' cv hcv => ?_⟩ ⟨c', _, ctv, upd_same, hC2⟩ nF⟩
    · simp only [Array.toList_append]
      exact PySem.TriplesOk_snoc _ _ _ _ ht
    · simp only [Array.toList_append] at hcv
      rcases LamX.among_app _ ht hcv with z | z
      · obtain ⟨c0, y1, y2⟩ := ha p' cv z
        exact ⟨c0, y1, hE _ _ y2 (fun ps => LamX.codeO_ne ps)⟩
      · exact ⟨c', z, hC2⟩
  | some cv =>
    obtain ⟨c', rfl, hco⟩ := ha pos cv hc
    refine PySem.W.kla_makeFunctionHit (mg := X.mg) (c := c) (P := P) (ps := ps) (closure_ok (L.has I.ok)) I.ok.glob (I.mod.glob.keeps I.bk) hcode (TB.code.keeps I.bk) hP' ht hc (TB.bm.keeps I.bk) fun ctv g tk hx hsz => ?_
    have I1 : Inv X pins σ H { s with heap := g, toks := tk } := I.kept hx
    have I2 := I1.laid (a := g.objs.size) (o := Pin (PySem.W.kla_obj "<lambda>" (X.env.qual ++ "<lambda>") params body scope (cloFrom X.env.cells scope.names []) ((X.mg "__name__").getD .none) c' ctv)) (t' := tk) (fun b u e => Heap.get?_push_of_some (h := g) _ e) (Nat.le_refl _) ⟨Heap.get?_push_size _ rfl, ⟨_, Heap.get?_push_size _ rfl⟩⟩
    have nF : H g.objs.size = none := I.hok.fresh hsz
    have hE : ∀ b o, H b = some o → (upd H g.objs.size (Pin (PySem.W.kla_obj "<lambda>" (X.env.qual ++ "<lambda>") params body scope (cloFrom X.env.cells scope.names []) ((X.mg "__name__").getD .none) c' ctv))) b = some o := fun b o e => by
      rw [upd_ne (ne_of_none e nF)]
      exact e
    exact ⟨.ref g.objs.size, _, I2, rfl, h _ _ (ExtN.of hE) (hT.ext hE) ⟨c', _, ctv, upd_same, hE _ _ hco⟩ nF⟩
theorem IsLam.up {X : Cx} {σ : L2.St} {H G : Hp} {f : Addr} {q : Str} {params : Arguments} {body : Expr} {scope : Scope} {clos : List (Str × Addr)} (h : IsLam H f q params body scope clos) (c : Caught X σ H G) : IsLam G f q params body scope clos := by
  obtain ⟨c', pm, ctv, h1, h2⟩ := h
  exact ⟨c', pm, ctv, c.some h1, c.some h2⟩
/-! ### a def is called, this frame's cells being known meanwhile -/
def tCallP (X : Cx) (sp : Sp) (t : TA) : TE := fun σ H Q => t σ H fun vs H1 => ∀ G, Caught X σ H1 G → sp vs G (fun v H' => Q v (off X.env.cells H')) C8.E0
theorem cells_apart {pins : List (Addr × Obj)} {σ : L2.St} {H : Hp} {s : Shared} (I : Inv X pins σ H s) (hfn : ∀ y, X.fn y = true) : (∀ b, Cell X.env.cells b → X.base.get? b = none) ∧ ∀ b, Cell X.env.cells b → b ∉ frs X.stack := by
  have ab : ∀ b, Cell X.env.cells b → X.s_0.heap.objs.size ≤ b := fun b ⟨y, e⟩ => I.ok.cab y b (hfn y) e
  refine ⟨fun b c => Heap.get?_none_of_le (Nat.le_trans I.ok.bsz (ab b c)), fun b c hm => ?_⟩
  rcases List.mem_cons.mp (I.stkSub b hm) with z | z
  · obtain ⟨y, e⟩ := c
    exact I.cne y b e z
  · obtain ⟨_, o, ho, _⟩ := I.ok.funs.mem z
    exact absurd (Nat.lt_of_lt_of_le (Heap.lt_size ho) (ab b c)) (Nat.lt_irrefl _)
section
variable {CX : CXT} {k j : Nat} {ps : List Str} {sp : Sp} {E : XK} {x : Str} {p pos : Pos} {e : Expr} {es : List Expr} {t : TA} {to : TE}
theorem pe_cP (c : RS.Cal X.prog X.w X.K X.mg X.base C8.CX0 k x ps sp) (hr : Room j X.A) (hk : k ≤ j) (hfn : ∀ y, X.fn y = true) (hg : Gl X x) (ha : PA X (e :: es) t) (hdb : (x == ("__debug__" : Str)) = false := by decide)
    (he : starEach (e :: es) X.env = (false, eval e X.env) :: starEach es X.env := by rfl) (hpl : (backTo pos (starEach es X.env)).any (·.1) = false := by rfl) :
    PE X (.Call (.Name x p) (e :: es) [] pos) (tCallP X sp t) := by
  obtain ⟨f, fd, F, hm, kp, hb⟩ := c.ex
  refine ⟨fun pins s σ H Q I h => ?_⟩
  refine wpAny_Call_Name_kw (ld_glob I hg hm ?_ hdb)
  refine PySem.W.callWith_K (h₀ := X.base) I.ok.mod.kin kp (thn (ha.run pos pins s σ H _ I h) fun us s1 ⟨vs, H1, I1, r, q⟩ => ⟨I1.kIn, ?_⟩) he hpl
  obtain ⟨G, up, ca⟩ := caught_of I1
  obtain ⟨nb, nf⟩ := cells_apart I1 hfn
  have q := q G ca
  have hl : us.length = ps.length := by rw [← r.length]; exact F.len _ _ _ _ q
  have b := hb s1 us I1.kIn (by rw [List.append_nil]; exact hl)
  rw [List.append_nil] at b
  refine wpAny_call (codeAny_mono (F.run X.A X.stack s1 G ⟨us, []⟩ us vs _ _ (hr.mono hk) (env_up up nb nf I1.env0) b r q) fun r s' hq => ?_)
  cases r with
  | error e => exact False.elim hq
  | ok fl =>
    cases fl with
    | ret u => exact I1.after (end_up up hq)
    | next => exact False.elim hq
    | brk => exact False.elim hq
    | cont => exact False.elim hq
/-! ### what was handed in is called -/
def tAct (P : Program) (w : World) (K : PySem.W.Frag) (mg : Str → Option Value) (base : Heap) (k : Nat) (E : L2.St → XK) (to : TE) : TE := fun σ H Q => to σ H fun x H1 => ∃ (f : Addr) (R : Hp → Prop) (tl : Hp → VK → XK → Prop), x = .ref f ∧ Act P w K mg base k f R tl ∧ R H1 ∧ tl H1 Q (E σ)
theorem pe_act {P : Program} {w : World} {K : PySem.W.Frag} {mg : Str → Option Value} {base : Heap} {a : Str} {p1 p2 : Pos} {E : L2.St → XK} (eP : X.prog = P) (ew : X.w = w) (eK : X.K = K) (eg : X.mg = mg) (eb : X.base = base) (hx : ∀ σ, PassesAt (L2.CX X.prog X.w) X σ (E σ)) (hr : Room j X.A) (hk : k ≤ j) (ho : PE X (.Name a p1) to) : PE X (.Call (.Name a p1) [] [] p2) (tAct P w K mg base k E to) := by
  subst eP ew eK eg eb
  refine ⟨fun pins s σ H Q I h => ?_⟩
  refine wpAny_Call_Name_kw (thn (ho.run pins s σ H _ I h) fun u s1 ⟨v, H1, I1, r1, f, R, tl, ev, A, hR, q⟩ => ?_)
  subst ev
  obtain rfl : u = Value.ref f := r1
  refine PySem.W.callWith_F0 (first := []) (A.fn s1 H1 hR I1.hok) ?_
  refine wpAny_call (codeAny_mono (A.run X.A X.stack s1 H1 Q (E σ) (hr.mono hk) I1.env0 hR q) fun r s' hq => ?_)
  cases r with
  | error e => exact hx σ pins H1 s1 e s' I1 hq
  | ok fl =>
    cases fl with
    | ret u => exact I1.after hq
    | next => exact False.elim hq
    | brk => exact False.elim hq
    | cont => exact False.elim hq
end
end
end LM
set_option Elab.async false
set_option maxRecDepth 100000
namespace RS
open PySem PySem.Spec PyProof.Rows L2 GX
theorem sameNew {H H1 : Hp} {a : Addr} {o : HO} (s : Same H H1) (h : H1 a = none) : Same H (upd H1 a o) := fun b u e => by
  rw [upd_ne (ne_of_none (s _ _ e) h)]
  exact s _ _ e
end RS
set_option Elab.async false
set_option maxRecDepth 100000
set_option maxHeartbeats 4000000
namespace RS
open PySem PySem.Spec PyProof.Rows L2 GX
theorem catA_any {K : PySem.W.Frag} {H : Hp} {a b : Addr} {xs ys : List V} {Q : VK} (ha : SqT K H a xs) (hb : SqT K H b ys) (hz : xs.length + ys.length ≤ sizeLine) (q : ∀ p H', Same H H' → SqT K H' p (xs ++ ys) → Q (.ref p) H') : rCatA K (.ref a) (.ref b) H Q :=
  ⟨a, b, xs, ys, rfl, rfl, ha, hb, hz, fun e => q b H (Same.refl H) (by rw [e]; exact hb), fun _ e => q a H (Same.refl H) (by rw [e, List.append_nil]; exact ha), fun _ _ p hp => q p _ (sameNew (Same.refl H) hp) (SqT.of upd_same)⟩
theorem slA_any {K : PySem.W.Frag} {H : Hp} {a : Addr} {xs : List V} {lo hi : Option Int} {Q : VK} (ha : SqT K H a xs) (q : ∀ p H', Same H H' → SqT K H' p (cutV xs lo hi) → Q (.ref p) H') : rSlA K (.ref a) lo hi H Q :=
  ⟨a, xs, rfl, ha, fun ⟨e1, e2⟩ => q a H (Same.refl H) (by
    have : cutV xs lo hi = xs := by
      unfold cutV
      rw [e1, e2, List.drop_zero, Nat.sub_zero, List.take_length]
    rw [this]
    exact ha), fun _ p hp => q p _ (sameNew (Same.refl H) hp) (SqT.of upd_same)⟩
end RS
set_option Elab.async false
set_option maxRecDepth 100000
set_option maxHeartbeats 4000000
namespace RS
open PySem PySem.Spec PyProof.Rows L2 GX LM
/-! ### what plans may not be made of -/
/-- an error class without fields -/
structure PlE (K : PySem.W.Frag) (mg : Str → Option Value) (nm : Str) (C : Addr) : Prop where
  x : PySem.W.excIn K C [.type "ValueError", .type "Exception", .type "BaseException", .type "object"] "ValueError.__new__" = true
  g : mg nm = some (.ref C)
  k : PySem.W.keepIn K (.ref C) = true
  b : PySem.W.subIn K (.ref C) (.type "BaseException") = some true
  t : PySem.W.typeIn K (.ref C) = some (.type "type")
def okLen (z : Int) : Bool := decide (1 ≤ z) && decide (z ≤ 1000000)
def intsD (zs : List Int) : PyData := .list (zs.map .int)
def OkLz (zs : List Int) : Prop := 1 ≤ zs.length ∧ zs.length ≤ 40 ∧ ∀ z ∈ zs, okLen z = true
section
variable {P : Program} {w : World} {K : PySem.W.Frag} {mg : Str → Option Value} {base : Heap}
def spLenE (K : PySem.W.Frag) (CL p : Addr) : Sp := fun vs H _ E => ∃ (vl : V) (zs : List Int), vs = [vl] ∧ Dp K H vl (intsD zs) ∧ zs.length ≤ 1000 ∧ ¬ OkLz zs ∧ Tab H p ∧ ∀ H', Same H H' → E (.ref CL) none H'
theorem check_lengthsE_ok {c p CL : Addr} (D : DefAt K mg "check_lengths" s_check_lengths c) (T : Txt K mg) (TB : GxR.TabB base mg c p) (X : PlE K mg "BadLengths" CL) (cN : Cal P w K mg base CX0 1 "is_number" ["value"] (spNum K)) : Cal P w K mg base (L2.CX P w) 3 "check_lengths" ["lengths"] (spLenE K CL p) := by
  have sc := scCheckLengths
  obtain ⟨tA, hA⟩ := T.lengths
  obtain ⟨tB, hB⟩ := T.length
  refine def_ok D sc (fun vs H Q E h => ?_) (fun _ _ _ _ _ _ us hl => match us, hl with | [_], _ => rfl) (fun f A outer s H vs Q E hr h => ?_)
  · obtain ⟨vl, ls, rfl, _⟩ := h
    rfl
  · obtain ⟨vl, zs, rfl, hl, lz, bad, ht, k⟩ := h
    refine ⟨_, (pss_cons (ps_if ((pw_or (pt_not (pt_val (pe_callB call_isiD (by rfl) T.isinstance (by decide +kernel) (pa_cons (pv 0) (pa_cons (pe_bltn (v := V.ty "list") (u := Value.type "list") (by rfl) T.list_ (by decide +kernel) rfl) pa_nil))))) (pw_or1 (pt_not (pt_chain op_le op_le pe_int (pe_callB call_lenD (by rfl) T.len PySem.boot_len (pa_cons (pv 0) pa_nil)) (pe_glob (v := V.int 40) (by rfl) hA ⟨_, rfl⟩))))).pt) (pss_one (ps_raise rfl (takes_of rfl rfl rfl rfl) (L2.pmk_own PySem.F.excBase_ValueError X.x X.g X.k (raises_own X.b X.t) (by rfl)))) pss_nil) (pss_one (ps_if (pt_not (pt_val (pe_all (own := [("length", 1)])  hr rfl T.all TB rfl rfl sc.nd (blkOk_by (N := ["lengths", "length"]) (sc := defScope s_check_lengths) (own := [("length", 1)]) (by decide +kernel)) (by decide +kernel) rfl rfl (pi_list (pv 0)) (fun _ _ _ _ _ _ _ => (pg_name (i := 1) sc.nd rfl (Or.inl rfl))) (fun _ _ _ _ _ _ _ hr => pe_and (pe_c cN hr (by decide) (by rfl) pass0 (pa_cons (pv 1) pa_nil)) (pe_one (pe_chain op_le op_le pe_int (pv 1) (pe_glob (v := V.int 1000000) (by rfl) hB ⟨_, rfl⟩))))))) (pss_one (ps_raise rfl (takes_of rfl rfl rfl rfl) (L2.pmk_own PySem.F.excBase_ValueError X.x X.g X.k (raises_own X.b X.t) (by rfl)))) pss_nil))), ?_⟩
    refine ⟨_, rfl, _, _, _, rfl, by simp, hl, _, rfl, ?_⟩
    refine iteF ⟨_, rfl, _, _, (zs.map PyData.int).length, rfl, hl, rfl, _, _, rfl, rfl, _, rfl, ?_⟩
    rw [List.length_map]
    by_cases c1 : 1 ≤ zs.length
    · rw [show decide ((1 : Int) ≤ (zs.length : Nat)) = true from decide_eq_true (by omega)]
      refine iteT ⟨_, _, rfl, rfl, _, rfl, ?_⟩
      by_cases c2 : zs.length ≤ 40
      · rw [show decide (((zs.length : Nat) : Int) ≤ 40) = true from decide_eq_true (by omega)]
        refine iteF ?_
        cases hl with
        | @lst a xs _ hS hI =>
          refine ⟨_, rfl, a, rfl, ⟨xs, hS⟩, ht, ?_⟩
          have lx : xs.length = zs.length := by rw [dpLen hI, List.length_map]
          refine all_by xs.length (fun i H' => Same H H' ∧ ∀ z ∈ zs.take i, okLen z = true) ⟨Same.refl H, fun z h => nomatch h⟩ (fun i H' hi ⟨sm, hz⟩ => ?_) (fun H' ⟨sm, hz⟩ => ?_)
          · refine ⟨⟨xs, xs[i], sm.seq hS, List.getElem?_eq_getElem hi⟩, fun y H2 ⟨e, hy⟩ => ?_⟩
            have ey := hy xs (sm.seq hS)
            obtain ⟨d, ed, hd⟩ := dpGet hI ey
            obtain ⟨n, en, rfl⟩ : ∃ n, zs[i]? = some n ∧ d = PyData.int n := by
              rw [List.getElem?_map] at ed
              cases q : zs[i]? with
              | none => rw [q] at ed; cases ed
              | some b => rw [q] at ed; exact ⟨b, rfl, (Option.some.inj ed).symm⟩
            cases hd
            subst e
            refine ⟨rfl, _, rfl, _, _, rfl, .int n, _, rfl, ?_⟩
            have hn : isNum (.int n) = true := by simp [isNum, isI, isT, tyN]
            rw [hn]
            refine iteT ⟨_, rfl, _, _, rfl, rfl, _, rfl, ?_⟩
            by_cases d1 : 1 ≤ n
            · rw [decide_eq_true d1]
              refine iteT ⟨_, _, rfl, rfl, _, rfl, ?_⟩
              by_cases d2 : n ≤ 1000000
              · rw [decide_eq_true d2]
                refine ⟨fun _ => .mk hi ⟨sm, fun z hz' => ?_⟩, fun z => Bool.noConfusion z⟩
                rw [List.take_add_one, en] at hz'
                rcases List.mem_append.mp hz' with h | h
                · exact hz z h
                · rw [show z = n by simpa using h]
                  unfold okLen
                  rw [decide_eq_true d1, decide_eq_true d2]
                  rfl
              · rw [decide_eq_false d2]
                exact ⟨fun z => Bool.noConfusion z, fun _ => ⟨_, rfl, iteT (k _ sm)⟩⟩
            · rw [decide_eq_false d1]
              exact iteF ⟨false, rfl, fun z => Bool.noConfusion z, fun _ => ⟨_, rfl, iteT (k _ sm)⟩⟩
          · refine absurd ⟨c1, c2, fun z h => hz z ?_⟩ bad
            rw [lx, List.take_length]
            exact h
      · rw [show decide (((zs.length : Nat) : Int) ≤ 40) = false from decide_eq_false (by omega)]
        exact iteT (k _ (Same.refl H))
    · rw [show decide ((1 : Int) ≤ (zs.length : Nat)) = false from decide_eq_false (by omega)]
      exact iteF ⟨_, rfl, iteT (k _ (Same.refl H))⟩
def spWaysE (CM : Addr) : Sp := fun vs H _ E => ∃ (n : Int), vs = [.int n] ∧ (n < 2 ∨ 6 < n) ∧ E (.ref CM) none H
theorem check_waysE_ok {c CM : Addr} (D : DefAt K mg "check_ways" s_check_ways c) (T : Txt K mg) (X : PlE K mg "BadRoom" CM) (cN : Cal P w K mg base CX0 1 "is_number" ["value"] (spNum K)) : Cal P w K mg base (L2.CX P w) 2 "check_ways" ["ways"] (spWaysE CM) := by
  have sc := scCheckWays
  obtain ⟨tA, hA⟩ := T.leastw
  obtain ⟨tB, hB⟩ := T.mostw
  refine def_ok D sc (fun vs H Q E h => ?_) (fun _ _ _ _ _ _ us hl => match us, hl with | [_], _ => rfl) (fun f A outer s H vs Q E hr h => ?_)
  · obtain ⟨n, rfl, _⟩ := h
    rfl
  · obtain ⟨n, rfl, h1, k⟩ := h
    refine ⟨_, (pss_one (ps_if ((pw_or (pt_not (pt_val (pe_c cN hr (by decide) (by rfl) pass0 (pa_cons (pv 0) pa_nil)))) (pw_or1 (pt_not (pt_chain op_le op_le (pe_glob (v := V.int 2) (by rfl) hA ⟨_, rfl⟩) (pv 0) (pe_glob (v := V.int 6) (by rfl) hB ⟨_, rfl⟩))))).pt) (pss_one (ps_raise rfl (takes_of rfl rfl rfl rfl) (L2.pmk_own PySem.F.excBase_ValueError X.x X.g X.k (raises_own X.b X.t) (by rfl)))) pss_nil)), ?_⟩
    refine ⟨_, rfl, _, _, rfl, .int n, _, rfl, ?_⟩
    have hn : isNum (.int n) = true := by simp [isNum, isI, isT, tyN]
    rw [hn]
    refine iteF ⟨_, rfl, _, _, rfl, rfl, _, rfl, ?_⟩
    by_cases c1 : 2 ≤ n
    · rw [decide_eq_true c1]
      refine iteT ⟨_, _, rfl, rfl, _, rfl, ?_⟩
      rw [decide_eq_false (show ¬ n ≤ 6 by omega)]
      exact iteT k
    · rw [decide_eq_false c1]
      exact iteF ⟨_, rfl, iteT k⟩
/-- lengths that may not be, or good ones and ways that may not be -/
def spMergE (K : PySem.W.Frag) (CL CM p : Addr) : Sp := fun vs H _ E => ∃ (vl : V) (n : Int), vs = [vl, .int n] ∧ Tab H p ∧
  ((∃ zs : List Int, Dp K H vl (intsD zs) ∧ zs.length ≤ 1000 ∧ ¬ OkLz zs ∧ ∀ H', Same H H' → E (.ref CL) none H') ∨ (∃ ls : List Nat, Dp K H vl (lensD ls) ∧ OkLens ls ∧ (n < 2 ∨ 6 < n) ∧ ∀ H', Same H H' → E (.ref CM) none H'))
end
end RS
set_option Elab.async false
set_option maxRecDepth 100000
set_option maxHeartbeats 4000000
namespace RS
open PySem PySem.Spec PyProof.Rows L2 GX LM
/-! ### any nest of tuples and numbers -/
mutual
def anyP : PyData → Prop
  | .int _ => True
  | .tuple ds => anyPs ds
  | _ => False
def anyPs : List PyData → Prop
  | [] => True
  | d :: ds => anyP d ∧ anyPs ds
end
mutual
def leafI : PyData → List Int
  | .int i => [i]
  | .tuple ds => leafsI ds
  | _ => []
def leafsI : List PyData → List Int
  | [] => []
  | d :: ds => leafI d ++ leafsI ds
end
mutual
def fitP (n : Nat) : PyData → Bool
  | .tuple ds => decide (2 ≤ ds.length) && decide (ds.length ≤ n) && fitPs n ds
  | _ => true
def fitPs (n : Nat) : List PyData → Bool
  | [] => true
  | d :: ds => fitP n d && fitPs n ds
end
theorem anyPs_iff : ∀ {ds : List PyData}, anyPs ds ↔ ∀ d ∈ ds, anyP d
  | [] => by simp [anyPs]
  | d :: ds => by
    unfold anyPs
    rw [anyPs_iff]
    simp
theorem anyPs_app {xs ys : List PyData} : anyPs (xs ++ ys) ↔ anyPs xs ∧ anyPs ys := by
  rw [anyPs_iff, anyPs_iff, anyPs_iff]
  constructor
  · exact fun h => ⟨fun d hd => h d (List.mem_append_left _ hd), fun d hd => h d (List.mem_append_right _ hd)⟩
  · rintro ⟨h1, h2⟩ d hd
    rcases List.mem_append.mp hd with q | q
    · exact h1 d q
    · exact h2 d q
theorem leafsI_app : ∀ xs ys : List PyData, leafsI (xs ++ ys) = leafsI xs ++ leafsI ys
  | [], _ => rfl
  | d :: xs, ys => by
    show leafI d ++ leafsI (xs ++ ys) = (leafI d ++ leafsI xs) ++ leafsI ys
    rw [leafsI_app xs ys, List.append_assoc]
theorem fitPs_app {n : Nat} : ∀ xs ys : List PyData, fitPs n (xs ++ ys) = (fitPs n xs && fitPs n ys)
  | [], _ => by simp [fitPs]
  | d :: xs, ys => by
    show (fitP n d && fitPs n (xs ++ ys)) = ((fitP n d && fitPs n xs) && fitPs n ys)
    rw [fitPs_app xs ys, Bool.and_assoc]
theorem anyP_cases {d : PyData} (h : anyP d) : (∃ i, d = .int i) ∨ ∃ ds, d = .tuple ds ∧ anyPs ds := by
  cases d with
  | int i => exact .inl ⟨i, rfl⟩
  | tuple ds => exact .inr ⟨ds, rfl, h⟩
  | none => exact h.elim
  | bool _ => exact h.elim
  | str _ => exact h.elim
  | list _ => exact h.elim
  | dict _ => exact h.elim
theorem len_sizePs : ∀ ds : List PyData, ds.length ≤ sizePs ds
  | [] => Nat.le_refl _
  | d :: ds => by
    have h1 := len_sizePs ds
    have h2 : 1 ≤ sizeP d := by cases d <;> simp [sizeP]
    show ds.length + 1 ≤ sizeP d + sizePs ds
    omega
def upto (m : Nat) : List Int := (List.range m).map fun j => ((j : Nat) : Int)
/-- a plan of m runs, at most n at a time -/
def OkG (m n : Nat) (d : PyData) : Prop := fitP n d = true ∧ (leafI d).Perm (upto m)
theorem valV_in {js : List Nat} {i : Nat} (h : i ∈ js) : valV (keysD js) (Sum.inl (i : Int)) = some (V.bl true) := by
  unfold keysD
  induction js with
  | nil => cases h
  | cons j js ih =>
    rw [List.map_cons]
    by_cases e : i = j
    · subst e
      simp [valV]
    · rw [valV_neg]
      · exact ih ((List.mem_cons.mp h).resolve_left e)
      · intro z
        have : (j : Int) = (i : Int) := Sum.inl.inj z
        omega
theorem pigeon : ∀ (m : Nat) (js : List Nat), js.Nodup → (∀ j ∈ js, j < m) → js.length ≤ m ∧ (m ≤ js.length → js.Perm (List.range m))
  | 0, js, _, sub => by
    have : js = [] := List.eq_nil_iff_forall_not_mem.mpr fun j hj => absurd (sub j hj) (by omega)
    subst this
    exact ⟨Nat.le_refl _, fun _ => by simp⟩
  | m + 1, js, nd, sub => by
    by_cases c : m ∈ js
    · have p := List.perm_cons_erase c
      have nd2 : (js.erase m).Nodup := nd.erase m
      obtain ⟨h1, h2⟩ := pigeon m (js.erase m) nd2 fun j hj => by
        have h3 := sub j (List.mem_of_mem_erase hj)
        have h4 : j ≠ m := fun z => by
          rw [z] at hj
          exact nd.not_mem_erase hj
        omega
      have e := p.length_eq
      rw [List.length_cons] at e
      refine ⟨by omega, fun h => ?_⟩
      rw [List.range_succ]
      exact p.trans (((h2 (by omega)).cons m).trans (List.perm_append_comm (l₁ := [m]) (l₂ := List.range m)))
    · obtain ⟨h1, h2⟩ := pigeon m js nd fun j hj => by
        have h3 := sub j hj
        have h4 : j ≠ m := fun z => c (by rw [← z]; exact hj)
        omega
      exact ⟨by omega, fun h => by omega⟩
theorem full_perm {js : List Nat} {m : Nat} (nd : js.Nodup) (sub : ∀ j ∈ js, j < m) (h : m ≤ js.length) : js.Perm (List.range m) := (pigeon m js nd sub).2 h
section
variable {P : Program} {w : World} {K : PySem.W.Frag} {mg : Str → Option Value} {base : Heap}
def spPlanE (K : PySem.W.Frag) (CP : Addr) : Sp := fun vs H _ E => ∃ (vl vp : V) (ls : List Nat) (n : Nat) (d : PyData), vs = [vl, .int (n : Nat), vp] ∧ Dp K H vl (lensD ls) ∧ Dp K H vp d ∧ anyP d ∧ sizeP d ≤ 100000 ∧ ¬ OkG ls.length n d ∧ ls.length ≤ 40 ∧ ∀ H', Same H H' → E (.ref CP) none H'
theorem check_planE_ok {c CP : Addr} (D : DefAt K mg "check_plan" s_check_plan c) (T : Txt K mg) (X : PlE K mg "BadPlan" CP) (cN : Cal P w K mg base CX0 1 "is_number" ["value"] (spNum K)) : Cal P w K mg base (L2.CX P w) 2 "check_plan" ["lengths", "ways", "plan"] (spPlanE K CP) := by
  have sc := scCheckPlan
  obtain ⟨tA, hA⟩ := T.leastw
  refine def_ok D sc (fun vs H Q E h => ?_) (fun _ _ _ _ _ _ us hl => match us, hl with | [_, _, _], _ => rfl) (fun f A outer s H vs Q E hr h => ?_)
  · obtain ⟨vl, vp, ls, n, d, rfl, _⟩ := h
    rfl
  · obtain ⟨vl, vp, ls, n, d, rfl, hl, hp, ok, big, bad, l40, k⟩ := h
    have hu := hr.units
    have sz : (1000000 : Nat) ≤ sizeLine := by decide
    refine ⟨_, (pss_cons (ps_par (i := 3) (j := 4) rfl sc.nd rfl rfl (by decide) rfl rfl (pa_cons pe_dnewK (pa_cons (pe_lst (pa_cons (pv 2) pa_nil)) pa_nil)) (by rfl)) (pss_cons (ps_while (passes_of rfl) (pt_truth (pv 4) (by intro _; rfl)) (pss_cons (ps_set (i := 5) sc.nd rfl (Or.inl rfl) (pe_bm0 PySem.F.plainAttrs_list PySem.F.slot_list_pop PySem.F.type_list_pop mt_pop (pv 4))) (pss_one (ps_if (pt_val (pe_callB call_isiD (by rfl) T.isinstance (by decide +kernel) (pa_cons (pv 5) (pa_cons (pe_bltn (v := V.ty "tuple") (u := Value.type "tuple") (by rfl) T.tuple_ (by decide +kernel) rfl) pa_nil)))) (pss_cons (ps_if (pt_not (pt_chain op_le op_le (pe_glob (v := V.int 2) (by rfl) hA ⟨_, rfl⟩) (pe_callB call_lenD (by rfl) T.len PySem.boot_len (pa_cons (pv 5) pa_nil)) (pv 1))) (pss_one (ps_raise rfl (takes_of rfl rfl rfl rfl) (L2.pmk_own PySem.F.excBase_ValueError X.x X.g X.k (raises_own X.b X.t) (by rfl)))) pss_nil) (pss_one (ps_expr (pe_bm PySem.F.plainAttrs_list PySem.F.slot_list_extend PySem.F.type_list_extend mt_extT (pv 4) (pa_cons (pv 5) pa_nil))))) (pss_one (ps_if ((pw_or (pt_not (pt_val (pe_c cN hr (by decide) (by rfl) pass0 (pa_cons (pv 5) pa_nil)))) (pw_or (pt_not (pt_chain op_le op_lt pe_int (pv 5) (pe_callB call_lenD (by rfl) T.len PySem.boot_len (pa_cons (pv 0) pa_nil)))) (pw_or1 (pt_cmp (pc_din (le64 hu) (pv 5) (pv 3)))))).pt) (pss_one (ps_raise rfl (takes_of rfl rfl rfl rfl) (L2.pmk_own PySem.F.excBase_ValueError X.x X.g X.k (raises_own X.b X.t) (by rfl)))) (pss_one (ps_dput (le64 hu) (pv 3) (pv 5) pe_bl (by rfl))))))))) (pss_one (ps_if (pt_cmpR op_lt (pe_callB len_dic (by rfl) T.len PySem.boot_len (pa_cons (pv 3) pa_nil)) (pe_callB call_lenD (by rfl) T.len PySem.boot_len (pa_cons (pv 0) pa_nil)) (nomark _)) (pss_one (ps_raise rfl (takes_of rfl rfl rfl rfl) (L2.pmk_own PySem.F.excBase_ValueError X.x X.g X.k (raises_own X.b X.t) (by rfl)))) pss_nil)))), ?_⟩
    intro p hp0
    refine ⟨_, rfl, by show 1 ≤ sizeLine; decide, fun q hq => ⟨_, _, rfl, ?_⟩⟩
    refine ⟨fun m σ H' => ∃ (xs : List V) (ds : List PyData) (js : List Nat) (v5 : Option V), σ = [some vl, some (.int (n : Nat)), some vp, some (.ref p), some (.ref q), v5] ∧ Same H H' ∧
      H' p = some (.dK (keysD js)) ∧ H' q = some (.lst xs) ∧ DpAll K H xs ds ∧ anyPs ds ∧ sizePs ds ≤ 100000 ∧ ¬ (fitPs n ds = true ∧ (js.map (fun j => ((j : Nat) : Int)) ++ leafsI ds).Perm (upto ls.length)) ∧ js.Nodup ∧ (∀ j ∈ js, j < ls.length) ∧ m = sizePs ds, ⟨_, [vp], [d], [], none, rfl, fun b o e => ?_, ?_, upd_same, ?_, ⟨ok, trivial⟩, by simpa [sizePs] using big, ?_, List.nodup_nil, (fun _ h => nomatch h), rfl⟩, ?_⟩
    · rw [upd_ne (ne_of_none e (upd_no hq)), upd_ne (ne_of_none e hp0)]
      exact e
    · rw [upd_ne (fun z => by rw [z, upd_same] at hq; cases hq), upd_same]
      rfl
    · exact .cons hp .nil
    · rintro ⟨z1, z2⟩
      exact bad ⟨by simpa [fitPs] using z1, by simpa [leafsI] using z2⟩
    rintro m σ H' ⟨xs, ds, js, v5, rfl, sm, hP, hQ, hd, okd, szd, nb, nd, sub, em⟩
    have npq : p ≠ q := fun z => by rw [z, upd_same] at hq; cases hq
    refine ⟨_, rfl, !xs.isEmpty, .inl ⟨xs, SqL.of hQ, rfl⟩, ?_⟩
    have ljs : js.length ≤ ls.length := (pigeon _ js nd sub).1
    rcases xs.eq_nil_or_concat with rfl | ⟨xs0, y, rfl⟩
    · cases hd
      refine iteF ?_
      have lj : js.length < ls.length := by
        rcases Nat.lt_or_ge js.length ls.length with h | h
        · exact h
        · refine absurd ⟨rfl, ?_⟩ nb
          rw [leafsI, List.append_nil]
          exact (full_perm nd sub h).map _
      refine ⟨_, rfl, p, _, rfl, hP, _, rfl, _, _, (ls.map fun n => PyData.int (n : Nat)).length, rfl, dp_same sm _ hl, rfl, _, _, rfl, rfl, _, rfl, ?_⟩
      refine iteT' (decide_eq_true ?_) (k _ sm)
      show ((keysD js).length : Int) < ((ls.map fun n => PyData.int (n : Nat)).length : Nat)
      unfold keysD
      rw [List.length_map, List.length_map]
      omega
    · rw [List.concat_eq_append] at hQ hd ⊢
      obtain ⟨ds0, e, rfl, hd0, he⟩ := dpAll_snoc hd
      obtain ⟨okd0, oke⟩ := anyPs_app.mp okd
      have oke : anyP e := oke.1
      rw [sizePs_app] at szd
      refine iteT' (by simp) ⟨_, fun _ _ h => h, ?_⟩
      have hQ1 : upd H' q (.lst xs0) q = some (.lst xs0) := upd_same
      have hP1 : upd H' q (.lst xs0) p = some (.dK (keysD js)) := (upd_ne npq).trans hP
      have sm1 : ∀ u, Same H (upd H' q u) := fun u b o e => by
        rw [upd_ne (ne_of_none e (upd_no hq))]
        exact sm b o e
      have he1 := dp_same (sm1 (.lst xs0)) _ he
      refine ⟨_, rfl, .inl ⟨rfl, _, SqL.of hQ⟩, q, _, y, rfl, rfl, hQ, by simp, ?_⟩
      rw [List.dropLast_concat]
      refine ⟨_, rfl, _, _, _, rfl, by simp, he1, _, rfl, ?_⟩
      rcases anyP_cases oke with ⟨i, rfl⟩ | ⟨es, rfl, oks⟩
      · cases he1
        have hn : isNum (.int i) = true := by simp [isNum, isI, isT, tyN]
        refine iteF ⟨_, rfl, _, _, rfl, .int _, _, rfl, ?_⟩
        rw [hn]
        refine iteF ⟨_, rfl, _, _, rfl, rfl, _, rfl, ?_⟩
        by_cases c0 : 0 ≤ i
        · rw [decide_eq_true c0]
          obtain ⟨i, rfl⟩ : ∃ j : Nat, i = (j : Nat) := ⟨i.toNat, by omega⟩
          refine iteT ⟨_, rfl, _, _, (ls.map fun n => PyData.int (n : Nat)).length, rfl, dp_same (sm1 _) _ hl, rfl, _, _, rfl, rfl, _, rfl, ?_⟩
          rw [List.length_map]
          by_cases c1 : i < ls.length
          · rw [show decide (((i : Nat) : Int) < (ls.length : Nat)) = true from decide_eq_true (by omega)]
            refine iteF ⟨_, rfl, _, rfl, p, _, rfl, DGet.k (k := Sum.inl (i : Int)) hP1, _, rfl, ?_⟩
            by_cases c2 : i ∈ js
            · rw [valV_in c2]
              exact iteT (k _ (sm1 _))
            · rw [valV_js c2]
              refine iteF ⟨_, rfl, _, rfl, p, _, rfl, DPut.k (k := Sum.inl (i : Int)) hP1 ?_, ?_⟩
              · show (keysD js).length < sizeLine
                refine small1000 ?_
                unfold keysD
                rw [List.length_map]
                omega
              · refine ⟨_, ?_, xs0, ds0, js ++ [i], _, rfl, fun b o e => ?_, ?_, (upd_ne (Ne.symm npq)).trans hQ1, hd0, okd0, by omega, ?_, ?_, ?_, rfl⟩
                · rw [em, sizePs_app]
                  show sizePs ds0 < sizePs ds0 + (1 + 0)
                  omega
                · rw [upd_ne (ne_of_none e hp0)]
                  exact sm1 _ _ _ e
                · rw [upd_same, putK_new _ (valV_js c2)]
                  unfold keysD
                  rw [List.map_append]
                  rfl
                · rintro ⟨z1, z2⟩
                  refine nb ⟨by rw [fitPs_app, z1]; rfl, List.Perm.trans ?_ z2⟩
                  rw [leafsI_app, List.map_append, List.append_assoc]
                  show (_ ++ (leafsI ds0 ++ ([(i : Int)] ++ []))).Perm (_ ++ ([(i : Int)] ++ leafsI ds0))
                  rw [List.append_nil]
                  exact List.perm_append_comm.append_left _
                · refine List.nodup_append.mpr ⟨nd, by simp, fun a ha b hb => ?_⟩
                  rw [List.mem_singleton.mp hb]
                  exact fun z => c2 (by rw [← z]; exact ha)
                · intro j hj
                  rcases List.mem_append.mp hj with h | h
                  · exact sub j h
                  · rw [List.mem_singleton.mp h]; exact c1
          · rw [show decide (((i : Nat) : Int) < (ls.length : Nat)) = false from decide_eq_false (by omega)]
            exact iteT (k _ (sm1 _))
        · rw [decide_eq_false c0]
          exact iteF ⟨_, rfl, iteT (k _ (sm1 _))⟩
      · refine iteT ⟨_, rfl, _, _, _, rfl, he1, rfl, _, _, rfl, rfl, _, rfl, ?_⟩
        by_cases c1 : 2 ≤ es.length
        · rw [show decide ((2 : Int) ≤ (es.length : Nat)) = true from decide_eq_true (by omega)]
          refine iteT ⟨_, rfl, _, _, rfl, rfl, _, rfl, ?_⟩
          by_cases c2 : es.length ≤ n
          · rw [show decide (((es.length : Nat) : Int) ≤ (n : Nat)) = true from decide_eq_true (by omega)]
            refine iteF ?_
            cases he with
            | @tup a zs _ hS hI =>
              have lz : zs.length = es.length := dpLen hI
              have lx := dpLen hd0
              have szt : sizeP (.tuple es) = 1 + sizePs es := rfl
              have sz1 : sizePs [PyData.tuple es] = 1 + sizePs es + 0 := rfl
              refine ⟨_, rfl, .inl ⟨rfl, _, SqL.of hQ1⟩, _, rfl, q, a, xs0, zs, rfl, rfl, hQ1, sqT_same (sm1 _) hS, ?_, ?_⟩
              · have l1 := len_sizePs ds0
                have l2 := len_sizePs es
                omega
              · refine ⟨_, ?_, xs0 ++ zs, ds0 ++ es, js, _, rfl, fun b o e => ?_, (upd_ne npq).trans hP1, upd_same, dpApp hd0 hI, anyPs_app.mpr ⟨okd0, oks⟩, by rw [sizePs_app]; omega, ?_, nd, sub, rfl⟩
                · rw [em, sizePs_app, sizePs_app]
                  omega
                · rw [upd_ne (ne_of_none e (upd_no hq))]
                  exact sm1 _ _ _ e
                · rintro ⟨z1, z2⟩
                  rw [fitPs_app, Bool.and_eq_true] at z1
                  refine nb ⟨?_, ?_⟩
                  · rw [fitPs_app, z1.1]
                    show (true && (fitP n (.tuple es) && true)) = true
                    unfold fitP
                    rw [decide_eq_true c1, decide_eq_true c2, z1.2]
                    rfl
                  · rw [leafsI_app]
                    rw [leafsI_app] at z2
                    show (_ ++ (leafsI ds0 ++ (leafsI es ++ []))).Perm _
                    rw [List.append_nil]
                    exact z2
          · rw [show decide (((es.length : Nat) : Int) ≤ (n : Nat)) = false from decide_eq_false (by omega)]
            exact iteT (k _ (sm1 _))
        · rw [show decide ((2 : Int) ≤ (es.length : Nat)) = false from decide_eq_false (by omega)]
          exact iteF ⟨_, rfl, iteT (k _ (sm1 _))⟩
end
end RS
set_option Elab.async false
set_option maxRecDepth 100000
set_option maxHeartbeats 4000000
set_option pp.maxSteps 400
namespace RS
open PySem PySem.Spec PyProof.Rows L2 GX
/-! ### words put together, level by level; the innermost level first -/
abbrev Lvs := List (List PyData)
def mayF : Lvs → Str → Bool
  | [], _ => false
  | f :: r, x => mayB r.isEmpty f.isEmpty x
def popF : Lvs → Lvs
  | f :: g :: r => (g ++ [.tuple f]) :: r
  | r => r
def numF (n : Nat) : Lvs → Lvs
  | f :: r => (f ++ [.int (n : Nat)]) :: r
  | [] => []
def stepF (fs : Lvs) (x : Str) : Lvs := if x = opS then [] :: fs else if x = clS then popF fs else numF ((numO x).getD 0) fs
def runF : List Str → Nat → Lvs → Sum Nat Lvs
  | [], _, fs => .inr fs
  | x :: ws, i, fs => if mayF fs x = true then runF ws (i + 1) (stepF fs x) else .inl i
def endF (n : Nat) : Lvs → Sum Nat PyData
  | [d :: _] => .inr d
  | _ => .inl n
/-- what words tell: the first that can't stand there (or how many there are), or a plan -/
def readW (ws : List Str) : Sum Nat PyData := match runF ws 0 [[]] with
  | .inl i => .inl i
  | .inr fs => endF ws.length fs
/-! ### what comes of it -/
mutual
def plD : PyData → Prop
  | .int i => ∃ n : Nat, n < 100 ∧ i = (n : Int)
  | .tuple ds => ds ≠ [] ∧ plDs ds
  | _ => False
def plDs : List PyData → Prop
  | [] => True
  | d :: ds => plD d ∧ plDs ds
end
mutual
def wl : PyData → Nat
  | .tuple ds => 2 + wls ds
  | _ => 1
def wls : List PyData → Nat
  | [] => 0
  | d :: ds => wl d + wls ds
end
theorem plDs_app : ∀ {a b : List PyData}, plDs (a ++ b) ↔ plDs a ∧ plDs b
  | [], b => by simp [plDs]
  | d :: a, b => by
    show plD d ∧ plDs (a ++ b) ↔ (plD d ∧ plDs a) ∧ plDs b
    rw [plDs_app, and_assoc]
theorem wls_app : ∀ {a b : List PyData}, wls (a ++ b) = wls a + wls b
  | [], b => by simp [wls]
  | d :: a, b => by
    show wl d + wls (a ++ b) = wl d + wls a + wls b
    rw [wls_app]; omega
theorem wl_pos : ∀ d : PyData, 1 ≤ wl d
  | .tuple ds => by simp only [wl]; omega
  | .none => Nat.le_refl _
  | .bool _ => Nat.le_refl _
  | .int _ => Nat.le_refl _
  | .str _ => Nat.le_refl _
  | .list _ => Nat.le_refl _
  | .dict _ => Nat.le_refl _
theorem wls_len : ∀ ds : List PyData, ds.length ≤ wls ds
  | [] => Nat.le_refl _
  | d :: ds => by
    have := wls_len ds
    have := wl_pos d
    show ds.length + 1 ≤ wl d + wls ds
    omega
mutual
theorem pl_any : ∀ {d : PyData}, plD d → anyP d ∧ noL d = true
  | .int _, _ => ⟨trivial, rfl⟩
  | .tuple ds, h => by
    obtain ⟨h1, h2⟩ := pls_any h.2
    exact ⟨h1, by simp [noL, h2]⟩
theorem pls_any : ∀ {ds : List PyData}, plDs ds → anyPs ds ∧ noLs ds = true
  | [], _ => ⟨trivial, rfl⟩
  | d :: ds, h => by
    obtain ⟨h1, h2⟩ := pl_any h.1
    obtain ⟨k1, k2⟩ := pls_any h.2
    exact ⟨⟨h1, k1⟩, by simp [noLs, h2, k2]⟩
end
mutual
theorem pl_size : ∀ {d : PyData}, plD d → sizeP d ≤ wl d ∧ 2 * d.depth + 1 ≤ wl d
  | .int _, _ => ⟨by simp [sizeP, wl], by simp [PyData.depth, wl]⟩
  | .tuple ds, h => by
    obtain ⟨h1, h2⟩ := pls_size h.2
    have h3 : 1 ≤ wls ds := by
      have := wls_len ds
      have := List.length_pos_iff.mpr h.1
      omega
    refine ⟨?_, ?_⟩
    · simp only [sizeP, wl]; omega
    · simp only [PyData.depth, wl]; omega
theorem pls_size : ∀ {ds : List PyData}, plDs ds → sizePs ds ≤ wls ds ∧ 2 * PyData.depthAll ds ≤ wls ds - 1
  | [], _ => ⟨by simp [sizePs, wls], by simp [PyData.depthAll, wls]⟩
  | d :: ds, h => by
    obtain ⟨h1, h2⟩ := pl_size h.1
    obtain ⟨k1, k2⟩ := pls_size h.2
    refine ⟨?_, ?_⟩
    · simp only [sizePs, wls]; omega
    · simp only [PyData.depthAll, wls]; omega
end
def bE : Lvs → Prop
  | [] => False
  | [f] => f = []
  | _ :: r => bE r
def wlF : Lvs → Nat
  | [] => 0
  | f :: r => wls f + 1 + wlF r
/-- what holds of the levels behind i words -/
structure OkF (i : Nat) (fs : Lvs) : Prop where
  ok : ∀ f ∈ fs, plDs f
  n : wlF fs = i + 1
  bo : (∃ f, fs = [f] ∧ f.length ≤ 1) ∨ ∃ f g r, fs = f :: g :: r ∧ bE (g :: r)
theorem OkF.start : OkF 0 [[]] := ⟨fun f h => by rw [List.mem_singleton.mp h]; exact trivial, rfl, .inl ⟨[], rfl, by decide⟩⟩
theorem wlF_len : ∀ fs : Lvs, fs.length ≤ wlF fs
  | [] => Nat.le_refl _
  | f :: r => by
    have := wlF_len r
    show r.length + 1 ≤ wls f + 1 + wlF r
    omega
theorem bE_cons {f g : List PyData} {r : Lvs} : bE (f :: g :: r) ↔ bE (g :: r) := Iff.rfl
theorem OkF.step {i : Nat} {fs : Lvs} {x : Str} (o : OkF i fs) (m : mayF fs x = true) : OkF (i + 1) (stepF fs x) := by
  obtain ⟨ok, n, bo⟩ := o
  by_cases c1 : x = opS
  · have e : stepF fs x = [] :: fs := if_pos c1
    rw [e]
    refine ⟨fun f h => ?_, by show 0 + 1 + wlF fs = _; omega, .inr ?_⟩
    · rcases List.mem_cons.mp h with h | h
      · rw [h]; exact trivial
      · exact ok f h
    · rcases bo with ⟨f, rfl, hf⟩ | ⟨f, g, r, rfl, hb⟩
      · refine ⟨[], f, [], rfl, ?_⟩
        show f = []
        cases f with
        | nil => rfl
        | cons d f =>
          have m : mayB true false x = true := m
          unfold mayB at m
          simp at m
      · exact ⟨[], f, g :: r, rfl, hb⟩
  by_cases c2 : x = clS
  · have e : stepF fs x = popF fs := by
      unfold stepF
      rw [if_neg c1, if_pos c2]
    rw [e]
    have mb : ∀ b0 f0, mayB b0 f0 x = true → b0 = false ∧ f0 = false := fun b0 f0 h => by
      unfold mayB at h
      rw [if_pos c2] at h
      cases b0 <;> cases f0 <;> simp_all
    rcases bo with ⟨f, rfl, hf⟩ | ⟨f, g, r, rfl, hb⟩
    · have := mb _ _ m
      cases this.1
    · have hm := mb _ _ m
      have nf : f ≠ [] := fun z => by rw [z] at hm; cases hm.2
      have pf := ok f (by simp)
      have pg := ok g (by simp)
      refine ⟨fun h hh => ?_, ?_, ?_⟩
      · rcases List.mem_cons.mp hh with hh | hh
        · rw [hh]; exact plDs_app.mpr ⟨pg, ⟨nf, pf⟩, trivial⟩
        · exact ok h (by simp [hh])
      · have n : wls f + 1 + (wls g + 1 + wlF r) = i + 1 := n
        show wls (g ++ [.tuple f]) + 1 + wlF r = i + 1 + 1
        rw [wls_app]
        simp only [wls, wl]
        omega
      · cases r with
        | nil =>
          have hb : g = [] := hb
          exact .inl ⟨_, rfl, by rw [hb]; exact Nat.le_refl _⟩
        | cons g2 r => exact .inr ⟨_, g2, r, rfl, hb⟩
  · have e : stepF fs x = numF ((numO x).getD 0) fs := by
      unfold stepF
      rw [if_neg c1, if_neg c2]
    rw [e]
    have n100 : (numO x).getD 0 < 100 := by
      cases h : numO x with
      | none => decide
      | some k => exact (numO_some h).1
    have add : ∀ f r, fs = f :: r → (∀ h ∈ (f ++ [.int ((numO x).getD 0 : Nat)]) :: r, plDs h) ∧ wlF ((f ++ [.int ((numO x).getD 0 : Nat)]) :: r) = i + 1 + 1 := fun f r e => by
      subst e
      refine ⟨fun h hh => ?_, ?_⟩
      · rcases List.mem_cons.mp hh with hh | hh
        · rw [hh]; exact plDs_app.mpr ⟨ok f (by simp), ⟨_, n100, rfl⟩, trivial⟩
        · exact ok h (by simp [hh])
      · have n : wls f + 1 + wlF r = i + 1 := n
        show wls (f ++ [_]) + 1 + wlF r = i + 1 + 1
        rw [wls_app]
        simp only [wls, wl]
        omega
    rcases bo with ⟨f, rfl, hf⟩ | ⟨f, g, r, rfl, hb⟩
    · obtain ⟨a1, a2⟩ := add f [] rfl
      refine ⟨a1, a2, .inl ⟨_, rfl, ?_⟩⟩
      cases f with
      | nil => exact Nat.le_refl _
      | cons d f =>
        have m : mayB true false x = true := m
        unfold mayB at m
        simp at m
    · obtain ⟨a1, a2⟩ := add f (g :: r) rfl
      exact ⟨a1, a2, .inr ⟨_, g, r, rfl, hb⟩⟩
theorem OkF.end_ {i n : Nat} {fs : Lvs} (o : OkF i fs) (hi : 1 ≤ i) : (∃ d, fs = [[d]] ∧ plD d ∧ wl d = i ∧ endF n fs = .inr d) ∨ (2 ≤ fs.length ∧ endF n fs = .inl n) := by
  obtain ⟨ok, e, bo⟩ := o
  rcases bo with ⟨f, rfl, hf⟩ | ⟨f, g, r, rfl, hb⟩
  · have e : wls f + 1 + 0 = i + 1 := e
    match f, hf, e, ok with
    | [], _, e, _ =>
      simp only [wls] at e
      omega
    | [d], _, e, ok =>
      have e : wl d + 0 + 1 + 0 = i + 1 := e
      exact .inl ⟨d, rfl, (ok [d] (by simp)).1, by omega, rfl⟩
  · exact .inr ⟨by simp, by cases f <;> rfl⟩
/-- the run as far as word i -/
theorem runF_step {ws : List Str} {n i : Nat} {fs : Lvs} {x : Str} (hx : ws[i]? = some x) : runF (ws.drop i) n fs = if mayF fs x = true then runF (ws.drop (i + 1)) (n + 1) (stepF fs x) else .inl n := by
  obtain ⟨h, e⟩ := List.getElem?_eq_some_iff.mp hx
  rw [List.drop_eq_getElem_cons h, e]
  rfl
theorem readW_end {ws : List Str} {d : PyData} (hne : ws ≠ []) (h : readW ws = .inr d) : plD d ∧ wl d = ws.length := by
  have gen : ∀ (vs : List Str) (i : Nat) (fs fs' : Lvs), OkF i fs → runF vs i fs = .inr fs' → OkF (i + vs.length) fs' := by
    intro vs
    induction vs with
    | nil =>
      intro i fs fs' o e
      cases e
      exact o
    | cons x vs ih =>
      intro i fs fs' o e
      unfold runF at e
      by_cases m : mayF fs x = true
      · rw [if_pos m] at e
        have := ih (i + 1) _ fs' (o.step m) e
        rw [List.length_cons]
        rwa [show i + (vs.length + 1) = i + 1 + vs.length by omega]
      · rw [if_neg m] at e
        cases e
  unfold readW at h
  cases hr : runF ws 0 [[]] with
  | inl i => rw [hr] at h; cases h
  | inr fs =>
    rw [hr] at h
    have o := gen ws 0 _ _ .start hr
    rw [Nat.zero_add] at o
    rcases o.end_ (n := ws.length) (List.length_pos_iff.mpr hne) with ⟨d', _, h1, h2, h3⟩ | ⟨_, h3⟩
    · have h : endF ws.length fs = .inr d := h
      rw [h3] at h
      cases h
      exact ⟨h1, h2⟩
    · have h : endF ws.length fs = .inr d := h
      rw [h3] at h
      cases h
end RS
set_option Elab.async false
set_option maxRecDepth 100000
set_option maxHeartbeats 4000000
namespace LM
open PySem PySem.Spec PyProof.Rows L2
/-! ### defs that are called within an except suite, and raise nothing -/
/-- the handled exception, its class, its dict -/
abbrev SpW := Addr → Value → Option Addr → Sp
structure FnW (P : Program) (w : World) (K : PySem.W.Frag) (mg : Str → Option Value) (base : Heap) (k : Nat) (f : Addr) (fd : FuncData) (ps : List Str) (sp : SpW) : Prop where
  len : ∀ a cls d vs H Q E, sp a cls d vs H Q E → vs.length = ps.length
  run : ∀ (A : Around) (outer : List Env) (s : Shared) (H : Hp) (args : Args) (us : List Value) (vs : List V) (Q : VK) (E : XK) (p : Addr × Obj) (cls : Value) (d : Option Addr), L2H.RoomH k A → L2H.PinOk outer H s p → Zc cls d p.2 → (∃ us, p.2.data = .fields us) → Env0 P w K mg base A outer s H → BindsTo s fd args (ps.zip us) → Vals vs us → sp p.1 cls d vs H Q E →
    codeAny (model P w) A (.call (.ref f) args) (CR C8.CX0 outer P w H s Q E) s
structure CalW (P : Program) (w : World) (K : PySem.W.Frag) (mg : Str → Option Value) (base : Heap) (k : Nat) (x : Str) (ps : List Str) (sp : SpW) : Prop where
  ex : ∃ (f : Addr) (fd : FuncData), FnW P w K mg base k f fd ps sp ∧ mg x = some (.ref f) ∧ PySem.W.keepIn K (.ref f) = true ∧ Binds K fd ps []
section
variable {P : Program} {w : World} {K : PySem.W.Frag} {mg : Str → Option Value} {base : Heap}
theorem def_okW {x : Str} {st : Stmt} {c : Addr} {N ps : List Str} {k : Nat} {sp : SpW} (D : RS.DefAt K mg x st c) (S : FnScope N ps (defScope st)) (len : ∀ a cls d vs H Q E, sp a cls d vs H Q E → vs.length = ps.length)
    (hb : ∀ (kV doc pm : Value) (an : Option Addr) (cdv ct : Value) (us : List Value), us.length = ps.length → bindArgs (PySem.W.fnOf x x (defArgs st) (defBody st) (defScope st) .none kV doc pm an cdv ct) ⟨us, []⟩ = pure (ps.zip us))
    (hbody : ∀ (f : Addr) (A : Around) (outer : List Env) (s : Shared) (H : Hp) (vs : List V) (Q : VK) (E : XK) (p : Addr × Obj) (cls : Value) (d : Option Addr), L2H.RoomH k (A.deeper (envOfC x (defScope st) s.heap.objs.size f (.ref c))) → Zc cls d p.2 → (∃ us, p.2.data = .fields us) → sp p.1 cls d vs H Q E →
      ∃ t, PSs (L2H.cxH C8.CX0 P w K mg base N x (defScope st) f (.ref c) A outer s H E p) (defBody st) t ∧ t { nx := fun _ H' => Q .non H', rt := Q } (L2.start N vs) H) :
    CalW P w K mg base (k + 1) x ps sp := by
  obtain ⟨f, oc, od, kV, doc, pm, an, ct, osl, hm, lk, hcd, kp⟩ := D.ex
  refine ⟨f, _, ⟨len, fun A outer s H args us vs Q E p cls d hr hpin hz hf e0 bd r hsp => ?_⟩, hm, kp, .all (hb kV doc pm an (.ref c) ct)⟩
  have hl := len _ _ _ _ _ _ _ hsp
  have KX : K.In s.heap := e0.mod.kin.keeps fun b o e => (e0.bs b o e).1
  have lim : s.heap.NoLimit := e0.mod.nolimit.keeps fun b o e => (e0.bs b o e).1
  have kd : ∀ y ∈ ps.zip us, (defScope st).names.lookup y.1 = some .local ∨ ((defScope st).names.lookup y.1 = some .cell ∧ ((cellsFrom (s.heap.objs.size + 1) (defScope st).names []).lookup y.1).isSome = true) := fun ⟨n, v⟩ hy => by
    rcases S.par n (List.of_mem_zip hy).1 with q | q
    · exact .inl q
    · exact .inr ⟨q, PySem.W.cellsFrom_some _ _ _ (.inl q)⟩
  refine codeAny_call_function hr.depth (KX _ _ lk) rfl S.co S.gen rfl (PySem.W.codeRec_of KX hcd) (bd _ _ _ _ ?_)
  refine wpAny_newFunctionEnv_cells S.kind kd fun env he s1 ic => ?_
  subst he
  refine ⟨lim.keeps ic.toInCall.keep, codeAny_func ?_⟩
  obtain ⟨t, ht, hq⟩ := hbody f A outer s H vs Q E p cls d (hr.deeper _) hz hf hsp
  refine wpAny_mono (ht.run [] s1 (L2.start N vs) H _ (L2H.inv_startH S hpin e0 hl r ic) hq) (fun fl s' hs => ?_) fun e s' hs => hs
  cases fl with
  | ret u =>
    obtain ⟨v, σ', H', J, rv, q⟩ := hs
    exact ⟨v, H', J.os, J.bare, J.base, J.hok, rv, q⟩
  | next =>
    obtain ⟨σ', H', J, q⟩ := hs
    exact ⟨.non, H', J.os, J.bare, J.base, J.hok, rfl, q⟩
  | brk =>
    obtain ⟨_, _, _, q⟩ := hs
    exact False.elim q
  | cont =>
    obtain ⟨_, _, _, q⟩ := hs
    exact False.elim q
end
section
variable {X : Cx} {k j : Nat} {ps : List Str} {sp : SpW} {x : Str} {q pos : Pos} {e : Expr} {es : List Expr} {t : TA}
/-- such a def is called in the suite that handles p -/
def tCallW (sp : SpW) (a : Addr) (cls : Value) (d : Option Addr) (t : TA) : TE := fun σ H Q => t σ H fun vs H1 => sp a cls d vs H1 Q C8.E0
theorem pe_cW {a : Addr} {oe : Obj} {cls : Value} {d : Option Addr} (c : CalW X.prog X.w X.K X.mg X.base k x ps sp) (hr : L2H.RoomH j X.A) (hk : k ≤ j) (hp : (a, oe) ∈ X.pn) (hz : Zc cls d oe) (hf : ∃ us, oe.data = .fields us) (hg : Gl X x) (ha : PA X (e :: es) t) (hdb : (x == ("__debug__" : Str)) = false := by decide)
    (he : starEach (e :: es) X.env = (false, eval e X.env) :: starEach es X.env := by rfl) (hpl : (backTo pos (starEach es X.env)).any (·.1) = false := by rfl) :
    PE X (.Call (.Name x q) (e :: es) [] pos) (tCallW sp a cls d t) := by
  obtain ⟨f, fd, F, hm, kp, hb⟩ := c.ex
  refine ⟨fun pins s σ H Q I h => ?_⟩
  refine wpAny_Call_Name_kw (ld_glob I hg hm ?_ hdb)
  refine PySem.W.callWith_K (h₀ := X.base) I.ok.mod.kin kp (thn (ha.run pos pins s σ H _ I h) fun us s1 ⟨vs, H1, I1, r, q⟩ => ⟨I1.kIn, ?_⟩) he hpl
  have hl : us.length = ps.length := by rw [← r.length]; exact F.len _ _ _ _ _ _ _ q
  have b := hb s1 us I1.kIn (by rw [List.append_nil]; exact hl)
  rw [List.append_nil] at b
  obtain ⟨h1, h2, h3, h4, h5⟩ := I1.pin (a, oe) (List.mem_append_left _ hp)
  have hpin : L2H.PinOk X.stack H1 s1 (a, oe) := ⟨h1, h2, fun hm => (List.mem_cons.mp (I1.stkSub a hm)).elim h3 h4, h5⟩
  refine wpAny_call (codeAny_mono (F.run X.A X.stack s1 H1 ⟨us, []⟩ us vs Q _ (a, oe) cls d (hr.mono hk) hpin hz hf I1.env0 b r q) fun r s' hq => ?_)
  cases r with
  | error e => exact False.elim hq
  | ok fl =>
    cases fl with
    | ret u => exact I1.after hq
    | next => exact False.elim hq
    | brk => exact False.elim hq
    | cont => exact False.elim hq
/-! ### isinstance of the handled exception, with or without a dict -/
def DictAt (d : Option Addr) (H : Hp) : Prop := ∀ dd, d = some dd → ∃ fs, H dd = some (.xd fs)
def rIsW (K : PySem.W.Frag) (D a : Addr) (d : Option Addr) : List V → Hp → VK → Prop := fun xs H Q => ∃ (c : V) (cv : Value) (b : Bool), xs = [.ref a, c] ∧ (∀ u, RelV c u → u = cv) ∧ DictAt d H ∧ PySem.W.kitOne K (.ref D) cv = some b ∧ Q (.bl b) H
theorem call_isW {p : Addr × Obj} {D : Addr} {d : Option Addr} (C : ExcC X.K D) (hp : p ∈ X.pn) (hz : Zc (.ref D) d p.2) (hf : ∃ vs, p.2.data = .fields vs) : CallR X (.builtin "isinstance") (rIsW X.K D p.1 d) := by
  intro pins s σ H xs us Q I r h
  obtain ⟨c, cv, b, rfl, hcv, hd, e, q⟩ := h
  obtain ⟨a, oe⟩ := p
  cases r with
  | cons rx rr =>
    cases rr with
    | cons rt rr =>
      cases rr
      cases rx
      have ec := hcv _ rt
      subst ec
      obtain ⟨hget, _⟩ := I.pin (a, oe) (List.mem_append_left _ hp)
      obtain ⟨vs, hv⟩ := hf
      obtain ⟨cd, hcd, _⟩ := PySem.W.any_some C.hd
      have J : ∃ od : Option Obj, PySem.W.InstAt s.heap a oe D od := by
        obtain ⟨oc, ody, oda, osl⟩ := oe
        obtain ⟨h1, h2⟩ := hz
        dsimp only at h1 h2 hv
        subst h1 h2 hv
        cases ody with
        | none => exact ⟨none, hget, rfl, rfl, trivial⟩
        | some dd =>
          obtain ⟨fs, hfs⟩ := hd dd rfl
          obtain ⟨mA, ⟨o, es, ep, ho, _⟩, _⟩ := (show ObjOk X.prog X.w H s.heap dd (.xd fs) from I.hok dd _ hfs)
          exact ⟨some o, hget, rfl, rfl, ho⟩
      obtain ⟨od, J⟩ := J
      exact PySem.W.kia_one (PySem.W.kitx_exc (od := od) (ox := oe) (by rw [hcd]; rfl) C.hg C.hk C.hs C.ha C.hn C.ht C.hm) I.kIn J e (fun z => nomatch z) fun tk => ⟨.bl b, H, I.kept (t' := tk) fun _ _ z => z, rfl, q⟩
/-- err.f, the class known by the reading -/
def tXfA (K : PySem.W.Frag) (a : Addr) (cls : Value) (d : Option Addr) (f : Str) (te : TE) : TE := fun σ H Q => ∃ C : Addr, XfC K C ∧ PySem.W.findIn K (.ref C) f = some none ∧ tXf a cls d C f te σ H Q
theorem pe_xfA {a : Addr} {oe : Obj} {cls : Value} {d : Option Addr} {pn : List (Addr × Obj)} {e : Expr} {te : TE} {pos : Pos} {n : Str} (hz : Zc cls d oe) (hf : ∃ vs, oe.data = .fields vs) (he : PE (X.suite a ((a, oe) :: pn)) e te) (hb : attributeBase e n X.env (eval e X.env) = eval e X.env := by rfl) :
    PE (X.suite a ((a, oe) :: pn)) (.Attribute e n pos) (tXfA X.K a cls d n te) :=
  ⟨fun pins s σ H Q I ⟨_, T, hno, h⟩ => (pe_xf T hno hz hf he hb).run pins s σ H Q I h⟩
/-! ### list.count, flat items -/
def rCountF (K : PySem.W.Frag) : V → List V → Hp → VK → Prop := fun x xs H Q => ∃ (a : Addr) (ys : List V) (y : V), x = V.ref a ∧ xs = [y] ∧ SqL K H a ys ∧ flatV y = true ∧ ys.all flatV = true ∧ Q (.int ((ys.countP fun z => eqV z y : Nat) : Int)) H
theorem count_flat {y : V} : ∀ {ys : List V} {us : List Value}, Vals ys us → ys.all flatV = true → us.countP (eqU y) = ys.countP fun z => eqV z y
  | _, _, .nil, _ => rfl
  | z :: ys, u :: us, .cons r t, f => by
    rw [List.all_cons, Bool.and_eq_true] at f
    rw [List.countP_cons, List.countP_cons, eqU_of r f.1, count_flat t f.2]
theorem mt_countF : MtR X "list.count" (rCountF X.K) := by
  intro pins s σ H x xs v us Q I rx rxs h
  obtain ⟨a, ys, y, rfl, rfl, hs, fy, fys, q⟩ := h
  cases rx
  cases rxs with
  | cons ry rt =>
    rename_i uy ut
    cases rt
    obtain ⟨its, rv, ⟨⟨cls, dd, data, sl⟩, n, ho, hc, hdn, hd⟩, hlen⟩ := I.list hs
    simp only at hc hd
    subst hc hd
    refine call_meets PySem.F.slot_list_count ⟨_, ho, rfl⟩ PySem.F.entry_list_count (PySem.F.args_list_count_2 _ _) (SeqAt.list_countAt a its.toArray n dd sl uy (eqU y)) ⟨ho, fun u' hu' => mem_eqAt ry fy rv fys u' (by simpa using hu'), ?_⟩
    have ec : its.toArray.toList.countP (eqU y) = ys.countP fun z => eqV z y := count_flat rv fys
    refine ⟨.int ((ys.countP fun z => eqV z y : Nat) : Int), H, I.tok _, ⟨s.toks, ?_⟩, q⟩
    show Value.int ((its.toArray.toList.countP (eqU y) : Nat) : Int) s.toks = _
    rw [ec]
end
end LM
set_option Elab.async false
set_option maxRecDepth 100000
set_option maxHeartbeats 4000000
set_option pp.maxSteps 400
namespace RS
open PySem PySem.Spec PyProof.Rows L2 GX LM
/-! ### the law's reading of errors -/
def nm15 : List Str := ["BadKinds", "BadOrder", "BadRows", "BadRuns", "BadRoom", "BadLengths", "BadPlan", "BadPaper", "BadCount", "BadBlock", "Stopped", "Shut", "NotYet", "Empty", "BadText"]
def ysJ (j : Nat) : List V := (List.range 15).map fun i => V.bl (decide (i = j))
theorem ysJ_ok : ∀ j < 15, (ysJ j).all flatV = true ∧ ((ysJ j).countP fun z => eqV z (.bl true)) = 1 ∧ (ysJ j)[j]? = some (.bl true) ∧ ∀ m < j, (ysJ j)[m]? = some (.bl false) := by decide +kernel
theorem nm15_ok : ∀ j < 15, (nm15.map V.str)[j]? = some (.str (nm15.getD j "")) := by decide +kernel
/-- the classes of the errors -/
structure Cls15 (mg : Str → Option Value) (C : Nat → Addr) : Prop where
  g0 : mg "BadKinds" = some (.ref (C 0))
  g1 : mg "BadOrder" = some (.ref (C 1))
  g2 : mg "BadRows" = some (.ref (C 2))
  g3 : mg "BadRuns" = some (.ref (C 3))
  g4 : mg "BadRoom" = some (.ref (C 4))
  g5 : mg "BadLengths" = some (.ref (C 5))
  g6 : mg "BadPlan" = some (.ref (C 6))
  g7 : mg "BadPaper" = some (.ref (C 7))
  g8 : mg "BadCount" = some (.ref (C 8))
  g9 : mg "BadBlock" = some (.ref (C 9))
  g10 : mg "Stopped" = some (.ref (C 10))
  g11 : mg "Shut" = some (.ref (C 11))
  g12 : mg "NotYet" = some (.ref (C 12))
  g13 : mg "Empty" = some (.ref (C 13))
  g14 : mg "BadText" = some (.ref (C 14))
/-- D is the class j, and none of the others -/
structure Own15 (K : PySem.W.Frag) (C : Nat → Addr) (D : Addr) (j : Nat) : Prop where
  lt : j < 15
  exc : ExcC K D
  one : ∀ i, i < 15 → PySem.W.kitOne K (.ref D) (.ref (C i)) = some (decide (i = j))
  ve : PySem.W.kitOne K (.ref D) (.type "ValueError") = some true
theorem dictAt_same {d : Option Addr} {H H' : Hp} (h : DictAt d H) (s : Same H H') : DictAt d H' := fun dd e => by
  obtain ⟨fs, z⟩ := h dd e
  exact ⟨fs, s _ _ z⟩
section
variable {P : Program} {w : World} {K : PySem.W.Frag} {mg : Str → Option Value} {base : Heap}
theorem scClass : FnScope ["_law_e", nKinds, "_law_words"] ["_law_e"] (defScope sClass) := ⟨rfl, rfl, rfl, by decide +kernel, rfl, by decide +kernel, by decide +kernel⟩
def spClass (K : PySem.W.Frag) (C : Nat → Addr) : SpW := fun a cls d vs H Q _ => ∃ (D : Addr) (j : Nat), vs = [.ref a] ∧ cls = .ref D ∧ Own15 K C D j ∧ DictAt d H ∧ ∀ H', Same H H' → Q (.str (nm15.getD j "")) H'
theorem class_ok {c : Addr} {C : Nat → Addr} (DD : DefAt K mg "_law_class" sClass c) (T : Txt K mg) (G : Cls15 mg C) (hve : mg "ValueError" = none) : CalW P w K mg base 1 "_law_class" ["_law_e"] (spClass K C) := by
  have sc := scClass
  refine def_okW DD sc (fun a cls d vs H Q E h => ?_) (fun _ _ _ _ _ _ us hl => match us, hl with | [_], _ => rfl) (fun f A outer s H vs Q E p cls d hr hz hf h => ?_)
  · obtain ⟨D, j, rfl, _⟩ := h
    rfl
  · obtain ⟨D, j, rfl, rfl, O, hd, k⟩ := h
    refine ⟨_, (pss_cons (ps_set (i := 1) sc.nd rfl (Or.inl rfl) (pe_lst (pa_cons (pe_callB (call_isW O.exc List.mem_cons_self hz hf) (by rfl) T.isinstance (by decide +kernel) (pa_cons (pv 0) (pa_cons (pe_glob (v := V.ref (C 0)) (by rfl) G.g0 rfl) pa_nil))) (pa_cons (pe_callB (call_isW O.exc List.mem_cons_self hz hf) (by rfl) T.isinstance (by decide +kernel) (pa_cons (pv 0) (pa_cons (pe_glob (v := V.ref (C 1)) (by rfl) G.g1 rfl) pa_nil))) (pa_cons (pe_callB (call_isW O.exc List.mem_cons_self hz hf) (by rfl) T.isinstance (by decide +kernel) (pa_cons (pv 0) (pa_cons (pe_glob (v := V.ref (C 2)) (by rfl) G.g2 rfl) pa_nil))) (pa_cons (pe_callB (call_isW O.exc List.mem_cons_self hz hf) (by rfl) T.isinstance (by decide +kernel) (pa_cons (pv 0) (pa_cons (pe_glob (v := V.ref (C 3)) (by rfl) G.g3 rfl) pa_nil))) pa_nil)))))) (pss_cons (ps_set (i := 1) sc.nd rfl (Or.inl rfl) (pe_op op_cat (pv 1) (pe_lst (pa_cons (pe_callB (call_isW O.exc List.mem_cons_self hz hf) (by rfl) T.isinstance (by decide +kernel) (pa_cons (pv 0) (pa_cons (pe_glob (v := V.ref (C 4)) (by rfl) G.g4 rfl) pa_nil))) (pa_cons (pe_callB (call_isW O.exc List.mem_cons_self hz hf) (by rfl) T.isinstance (by decide +kernel) (pa_cons (pv 0) (pa_cons (pe_glob (v := V.ref (C 5)) (by rfl) G.g5 rfl) pa_nil))) (pa_cons (pe_callB (call_isW O.exc List.mem_cons_self hz hf) (by rfl) T.isinstance (by decide +kernel) (pa_cons (pv 0) (pa_cons (pe_glob (v := V.ref (C 6)) (by rfl) G.g6 rfl) pa_nil))) (pa_cons (pe_callB (call_isW O.exc List.mem_cons_self hz hf) (by rfl) T.isinstance (by decide +kernel) (pa_cons (pv 0) (pa_cons (pe_glob (v := V.ref (C 7)) (by rfl) G.g7 rfl) pa_nil))) pa_nil))))))) (pss_cons (ps_set (i := 1) sc.nd rfl (Or.inl rfl) (pe_op op_cat (pv 1) (pe_lst (pa_cons (pe_callB (call_isW O.exc List.mem_cons_self hz hf) (by rfl) T.isinstance (by decide +kernel) (pa_cons (pv 0) (pa_cons (pe_glob (v := V.ref (C 8)) (by rfl) G.g8 rfl) pa_nil))) (pa_cons (pe_callB (call_isW O.exc List.mem_cons_self hz hf) (by rfl) T.isinstance (by decide +kernel) (pa_cons (pv 0) (pa_cons (pe_glob (v := V.ref (C 9)) (by rfl) G.g9 rfl) pa_nil))) (pa_cons (pe_callB (call_isW O.exc List.mem_cons_self hz hf) (by rfl) T.isinstance (by decide +kernel) (pa_cons (pv 0) (pa_cons (pe_glob (v := V.ref (C 10)) (by rfl) G.g10 rfl) pa_nil))) (pa_cons (pe_callB (call_isW O.exc List.mem_cons_self hz hf) (by rfl) T.isinstance (by decide +kernel) (pa_cons (pv 0) (pa_cons (pe_glob (v := V.ref (C 11)) (by rfl) G.g11 rfl) pa_nil))) pa_nil))))))) (pss_cons (ps_set (i := 1) sc.nd rfl (Or.inl rfl) (pe_op op_cat (pv 1) (pe_lst (pa_cons (pe_callB (call_isW O.exc List.mem_cons_self hz hf) (by rfl) T.isinstance (by decide +kernel) (pa_cons (pv 0) (pa_cons (pe_glob (v := V.ref (C 12)) (by rfl) G.g12 rfl) pa_nil))) (pa_cons (pe_callB (call_isW O.exc List.mem_cons_self hz hf) (by rfl) T.isinstance (by decide +kernel) (pa_cons (pv 0) (pa_cons (pe_glob (v := V.ref (C 13)) (by rfl) G.g13 rfl) pa_nil))) (pa_cons (pe_callB (call_isW O.exc List.mem_cons_self hz hf) (by rfl) T.isinstance (by decide +kernel) (pa_cons (pv 0) (pa_cons (pe_glob (v := V.ref (C 14)) (by rfl) G.g14 rfl) pa_nil))) pa_nil)))))) (pss_cons (ps_set (i := 2) sc.nd rfl (Or.inl rfl) (pe_lst (pa_cons pe_str (pa_cons pe_str (pa_cons pe_str (pa_cons pe_str (pa_cons pe_str (pa_cons pe_str (pa_cons pe_str (pa_cons pe_str (pa_cons pe_str pa_nil))))))))))) (pss_cons (ps_set (i := 2) sc.nd rfl (Or.inl rfl) (pe_op op_cat (pv 2) (pe_lst (pa_cons pe_str (pa_cons pe_str (pa_cons pe_str (pa_cons pe_str (pa_cons pe_str (pa_cons pe_str pa_nil))))))))) (pss_one (ps_ret (pe_ifExp (pw_and (pt_cmpR op_eq (pe_bm PySem.F.plainAttrs_list PySem.F.slot_list_count PySem.F.type_list_count mt_countF (pv 1) (pa_cons pe_bl pa_nil)) pe_int (nomark _)) (pw_and1 (pt_val (pe_callB (call_isW O.exc List.mem_cons_self hz hf) (by rfl) T.isinstance (by decide +kernel) (pa_cons (pv 0) (pa_cons (pe_bltn (v := V.ty "ValueError") (u := Value.type "ValueError") (by rfl) hve (by decide +kernel) rfl) pa_nil)))))).pt (pe_ix ix_list (pv 2) (pe_bm PySem.F.plainAttrs_list PySem.F.slot_list_index PySem.F.type_list_index mt_index (pv 1) (pa_cons pe_bl pa_nil)) (fun _ _ => rfl)) pe_str))))))))), ?_⟩
    refine ⟨_, rfl, _, _, _, rfl, (fun _ r => r), hd, O.one 0 (by decide), _, rfl, _, _, _, rfl, (fun _ r => r), hd, O.one 1 (by decide), _, rfl, _, _, _, rfl, (fun _ r => r), hd, O.one 2 (by decide), _, rfl, _, _, _, rfl, (fun _ r => r), hd, O.one 3 (by decide), by show 4 ≤ sizeLine; decide, fun k1 h1 => ?_⟩
    have s1 := sameNew (o := .lst [.bl (decide (0 = j)), .bl (decide (1 = j)), .bl (decide (2 = j)), .bl (decide (3 = j))]) (Same.refl H) h1
    have e1 : upd H k1 (.lst [.bl (decide (0 = j)), .bl (decide (1 = j)), .bl (decide (2 = j)), .bl (decide (3 = j))]) k1 = some (.lst [.bl (decide (0 = j)), .bl (decide (1 = j)), .bl (decide (2 = j)), .bl (decide (3 = j))]) := upd_same
    have hd1 := dictAt_same hd s1
    generalize upd H k1 (.lst [.bl (decide (0 = j)), .bl (decide (1 = j)), .bl (decide (2 = j)), .bl (decide (3 = j))]) = H1 at s1 e1 hd1 ⊢
    refine ⟨_, rfl, _, rfl, _, _, _, rfl, (fun _ r => r), hd1, O.one 4 (by decide), _, rfl, _, _, _, rfl, (fun _ r => r), hd1, O.one 5 (by decide), _, rfl, _, _, _, rfl, (fun _ r => r), hd1, O.one 6 (by decide), _, rfl, _, _, _, rfl, (fun _ r => r), hd1, O.one 7 (by decide), by show 4 ≤ sizeLine; decide, fun m2 hm2 => ?_⟩
    have t2 := sameNew (o := .lst [.bl (decide (4 = j)), .bl (decide (5 = j)), .bl (decide (6 = j)), .bl (decide (7 = j))]) (Same.refl H1) hm2
    have f2 : upd H1 m2 (.lst [.bl (decide (4 = j)), .bl (decide (5 = j)), .bl (decide (6 = j)), .bl (decide (7 = j))]) m2 = some (.lst [.bl (decide (4 = j)), .bl (decide (5 = j)), .bl (decide (6 = j)), .bl (decide (7 = j))]) := upd_same
    have e2' := t2 _ _ e1
    generalize upd H1 m2 (.lst [.bl (decide (4 = j)), .bl (decide (5 = j)), .bl (decide (6 = j)), .bl (decide (7 = j))]) = G2 at t2 f2 e2' ⊢
    refine ⟨k1, m2, _, _, rfl, rfl, e2', f2, by show 8 ≤ sizeLine; decide, fun k2 h2 => ?_⟩
    have s2 := sameNew (o := .lst ([.bl (decide (0 = j)), .bl (decide (1 = j)), .bl (decide (2 = j)), .bl (decide (3 = j))] ++ [.bl (decide (4 = j)), .bl (decide (5 = j)), .bl (decide (6 = j)), .bl (decide (7 = j))])) (s1.trans t2) h2
    have e2 : upd G2 k2 (.lst ([.bl (decide (0 = j)), .bl (decide (1 = j)), .bl (decide (2 = j)), .bl (decide (3 = j))] ++ [.bl (decide (4 = j)), .bl (decide (5 = j)), .bl (decide (6 = j)), .bl (decide (7 = j))])) k2 = some (.lst ([.bl (decide (0 = j)), .bl (decide (1 = j)), .bl (decide (2 = j)), .bl (decide (3 = j))] ++ [.bl (decide (4 = j)), .bl (decide (5 = j)), .bl (decide (6 = j)), .bl (decide (7 = j))])) := upd_same
    have hd2 := dictAt_same hd s2
    generalize upd G2 k2 (.lst ([.bl (decide (0 = j)), .bl (decide (1 = j)), .bl (decide (2 = j)), .bl (decide (3 = j))] ++ [.bl (decide (4 = j)), .bl (decide (5 = j)), .bl (decide (6 = j)), .bl (decide (7 = j))])) = H2 at s2 e2 hd2 ⊢
    refine ⟨_, rfl, _, rfl, _, _, _, rfl, (fun _ r => r), hd2, O.one 8 (by decide), _, rfl, _, _, _, rfl, (fun _ r => r), hd2, O.one 9 (by decide), _, rfl, _, _, _, rfl, (fun _ r => r), hd2, O.one 10 (by decide), _, rfl, _, _, _, rfl, (fun _ r => r), hd2, O.one 11 (by decide), by show 4 ≤ sizeLine; decide, fun m3 hm3 => ?_⟩
    have t3 := sameNew (o := .lst [.bl (decide (8 = j)), .bl (decide (9 = j)), .bl (decide (10 = j)), .bl (decide (11 = j))]) (Same.refl H2) hm3
    have f3 : upd H2 m3 (.lst [.bl (decide (8 = j)), .bl (decide (9 = j)), .bl (decide (10 = j)), .bl (decide (11 = j))]) m3 = some (.lst [.bl (decide (8 = j)), .bl (decide (9 = j)), .bl (decide (10 = j)), .bl (decide (11 = j))]) := upd_same
    have e3' := t3 _ _ e2
    generalize upd H2 m3 (.lst [.bl (decide (8 = j)), .bl (decide (9 = j)), .bl (decide (10 = j)), .bl (decide (11 = j))]) = G3 at t3 f3 e3' ⊢
    refine ⟨k2, m3, _, _, rfl, rfl, e3', f3, by show 12 ≤ sizeLine; decide, fun k3 h3 => ?_⟩
    have s3 := sameNew (o := .lst (([.bl (decide (0 = j)), .bl (decide (1 = j)), .bl (decide (2 = j)), .bl (decide (3 = j))] ++ [.bl (decide (4 = j)), .bl (decide (5 = j)), .bl (decide (6 = j)), .bl (decide (7 = j))]) ++ [.bl (decide (8 = j)), .bl (decide (9 = j)), .bl (decide (10 = j)), .bl (decide (11 = j))])) (s2.trans t3) h3
    have e3 : upd G3 k3 (.lst ([.bl (decide (0 = j)), .bl (decide (1 = j)), .bl (decide (2 = j)), .bl (decide (3 = j))] ++ [.bl (decide (4 = j)), .bl (decide (5 = j)), .bl (decide (6 = j)), .bl (decide (7 = j))] ++ [.bl (decide (8 = j)), .bl (decide (9 = j)), .bl (decide (10 = j)), .bl (decide (11 = j))])) k3 = some (.lst ([.bl (decide (0 = j)), .bl (decide (1 = j)), .bl (decide (2 = j)), .bl (decide (3 = j))] ++ [.bl (decide (4 = j)), .bl (decide (5 = j)), .bl (decide (6 = j)), .bl (decide (7 = j))] ++ [.bl (decide (8 = j)), .bl (decide (9 = j)), .bl (decide (10 = j)), .bl (decide (11 = j))])) := upd_same
    have hd3 := dictAt_same hd s3
    generalize upd G3 k3 (.lst ([.bl (decide (0 = j)), .bl (decide (1 = j)), .bl (decide (2 = j)), .bl (decide (3 = j))] ++ [.bl (decide (4 = j)), .bl (decide (5 = j)), .bl (decide (6 = j)), .bl (decide (7 = j))] ++ [.bl (decide (8 = j)), .bl (decide (9 = j)), .bl (decide (10 = j)), .bl (decide (11 = j))])) = H3 at s3 e3 hd3 ⊢
    refine ⟨_, rfl, _, rfl, _, _, _, rfl, (fun _ r => r), hd3, O.one 12 (by decide), _, rfl, _, _, _, rfl, (fun _ r => r), hd3, O.one 13 (by decide), _, rfl, _, _, _, rfl, (fun _ r => r), hd3, O.one 14 (by decide), by show 3 ≤ sizeLine; decide, fun m4 hm4 => ?_⟩
    have t4 := sameNew (o := .lst [.bl (decide (12 = j)), .bl (decide (13 = j)), .bl (decide (14 = j))]) (Same.refl H3) hm4
    have f4 : upd H3 m4 (.lst [.bl (decide (12 = j)), .bl (decide (13 = j)), .bl (decide (14 = j))]) m4 = some (.lst [.bl (decide (12 = j)), .bl (decide (13 = j)), .bl (decide (14 = j))]) := upd_same
    have e4' := t4 _ _ e3
    generalize upd H3 m4 (.lst [.bl (decide (12 = j)), .bl (decide (13 = j)), .bl (decide (14 = j))]) = G4 at t4 f4 e4' ⊢
    refine ⟨k3, m4, _, _, rfl, rfl, e4', f4, by show 15 ≤ sizeLine; decide, fun k4 h4 => ?_⟩
    have s4 := sameNew (o := .lst (([.bl (decide (0 = j)), .bl (decide (1 = j)), .bl (decide (2 = j)), .bl (decide (3 = j))] ++ [.bl (decide (4 = j)), .bl (decide (5 = j)), .bl (decide (6 = j)), .bl (decide (7 = j))] ++ [.bl (decide (8 = j)), .bl (decide (9 = j)), .bl (decide (10 = j)), .bl (decide (11 = j))]) ++ [.bl (decide (12 = j)), .bl (decide (13 = j)), .bl (decide (14 = j))])) (s3.trans t4) h4
    have e4 : upd G4 k4 (.lst ([.bl (decide (0 = j)), .bl (decide (1 = j)), .bl (decide (2 = j)), .bl (decide (3 = j))] ++ [.bl (decide (4 = j)), .bl (decide (5 = j)), .bl (decide (6 = j)), .bl (decide (7 = j))] ++ [.bl (decide (8 = j)), .bl (decide (9 = j)), .bl (decide (10 = j)), .bl (decide (11 = j))] ++ [.bl (decide (12 = j)), .bl (decide (13 = j)), .bl (decide (14 = j))])) k4 = some (.lst ([.bl (decide (0 = j)), .bl (decide (1 = j)), .bl (decide (2 = j)), .bl (decide (3 = j))] ++ [.bl (decide (4 = j)), .bl (decide (5 = j)), .bl (decide (6 = j)), .bl (decide (7 = j))] ++ [.bl (decide (8 = j)), .bl (decide (9 = j)), .bl (decide (10 = j)), .bl (decide (11 = j))] ++ [.bl (decide (12 = j)), .bl (decide (13 = j)), .bl (decide (14 = j))])) := upd_same
    have hd4 := dictAt_same hd s4
    generalize upd G4 k4 (.lst ([.bl (decide (0 = j)), .bl (decide (1 = j)), .bl (decide (2 = j)), .bl (decide (3 = j))] ++ [.bl (decide (4 = j)), .bl (decide (5 = j)), .bl (decide (6 = j)), .bl (decide (7 = j))] ++ [.bl (decide (8 = j)), .bl (decide (9 = j)), .bl (decide (10 = j)), .bl (decide (11 = j))] ++ [.bl (decide (12 = j)), .bl (decide (13 = j)), .bl (decide (14 = j))])) = H4 at s4 e4 hd4 ⊢
    have e4 : H4 k4 = some (.lst (ysJ j)) := e4
    refine ⟨by show 9 ≤ sizeLine; decide, fun a1 ha1 => ?_⟩
    have u1 := sameNew (o := .lst ((nm15.take 9).map V.str)) (Same.refl H4) ha1
    have g1 : upd H4 a1 (.lst ((nm15.take 9).map V.str)) a1 = some (.lst ((nm15.take 9).map V.str)) := upd_same
    refine ⟨_, rfl, by show 6 ≤ sizeLine; decide, fun a2 ha2 => ?_⟩
    have u2 := sameNew (o := .lst ((nm15.drop 9).map V.str)) (Same.refl (upd H4 a1 (.lst ((nm15.take 9).map V.str)))) ha2
    have g2 : upd (upd H4 a1 (.lst ((nm15.take 9).map V.str))) a2 (.lst ((nm15.drop 9).map V.str)) a2 = some (.lst ((nm15.drop 9).map V.str)) := upd_same
    refine ⟨a1, a2, (nm15.take 9).map V.str, (nm15.drop 9).map V.str, rfl, rfl, u2 _ _ g1, g2, by show 15 ≤ sizeLine; decide, fun a3 ha3 => ?_⟩
    have u3 := sameNew (o := .lst ((nm15.take 9).map V.str ++ (nm15.drop 9).map V.str)) ((s4.trans u1).trans u2) ha3
    have u43 := sameNew (o := .lst ((nm15.take 9).map V.str ++ (nm15.drop 9).map V.str)) (u1.trans u2) ha3
    have g3 : upd (upd (upd H4 a1 (.lst ((nm15.take 9).map V.str))) a2 (.lst ((nm15.drop 9).map V.str))) a3 (.lst ((nm15.take 9).map V.str ++ (nm15.drop 9).map V.str)) a3 = some (.lst (nm15.map V.str)) := upd_same
    have e5 := u43 _ _ e4
    have hd5 := dictAt_same hd u3
    have k5 := k _ u3
    obtain ⟨y1, y2, y3, y4⟩ := ysJ_ok j O.lt
    refine ⟨_, rfl, .inl ⟨rfl, _, SqL.of e5⟩, k4, ysJ j, .bl true, rfl, rfl, SqL.of e5, rfl, y1, ?_⟩
    rw [y2]
    refine ⟨rfl, _, rfl, iteT' rfl ?_⟩
    refine ⟨_, rfl, _, _, _, rfl, (fun _ r => r), hd5, O.ve, _, rfl, iteT ?_⟩
    refine ⟨_, rfl, _, rfl, .inl ⟨rfl, _, SqL.of e5⟩, k4, ysJ j, .bl true, j, .bl true, rfl, rfl, SqL.of e5, rfl, y1, y3, rfl, fun m z hm hz => ?_, ?_⟩
    · rw [y4 m hm] at hz
      cases hz
      rfl
    · exact ⟨a3, _, _, _, rfl, rfl, SqL.of g3, atI_nat (nm15_ok j O.lt), k5⟩
end
end RS
set_option Elab.async false
set_option maxRecDepth 100000
set_option maxHeartbeats 8000000
namespace RS
open PySem PySem.Spec PyProof.Rows L2 GX
section
variable {P : Program} {w : World} {K : PySem.W.Frag} {mg : Str → Option Value} {base : Heap}
theorem scAlike : FnScope ["_law_found", "_law_due", "_law_k"] ["_law_found", "_law_due"] (defScope sAlike) := ⟨rfl, rfl, rfl, by decide +kernel, rfl, by decide +kernel, by decide +kernel⟩
def spAlike (K : PySem.W.Frag) (n : Nat) : Sp := fun vs H Q _ => ∃ (v1 v2 : V) (d : PyData), vs = [v1, v2] ∧ Dp K H v1 d ∧ Dp K H v2 d ∧ few d ∧ d.depth ≤ n ∧ Q (.bl true) H
set_option linter.unusedVariables false in
theorem alike_none {c : Addr} (D : DefAt K mg "_law_alike" sAlike c) : Cal P w K mg base CX0 1 "_law_alike" ["_law_found", "_law_due"] (fun _ _ _ _ => False) :=
  def_ok0 D scAlike (fun vs H Q E h => h.elim) (fun _ _ _ _ _ _ us hl => match us, hl with | [_, _], _ => rfl) (fun f A outer s H vs Q E hr h => h.elim)
theorem alike_step {c : Addr} (D : DefAt K mg "_law_alike" sAlike c) (T : Txt K mg) {j : Nat} (n : Nat) {sp : Sp} (hj : 1 ≤ j) (cR : Cal P w K mg base CX0 j "_law_alike" ["_law_found", "_law_due"] sp)
    (hsp : ∀ (v1 v2 : V) (d : PyData) (H : Hp) (Q : VK) (E : XK), Dp K H v1 d → Dp K H v2 d → few d → d.depth + 1 ≤ n → Q (.bl true) H → sp [v1, v2] H Q E) : Cal P w K mg base CX0 (j + 1) "_law_alike" ["_law_found", "_law_due"] (spAlike K n) := by
  have sc := scAlike
  refine def_ok0 D sc (fun vs H Q E h => ?_) (fun _ _ _ _ _ _ us hl => match us, hl with | [_, _], _ => rfl) (fun f A outer s H vs Q E hr h => ?_)
  · obtain ⟨v1, v2, d, rfl, _⟩ := h
    rfl
  · obtain ⟨v1, v2, d, rfl, h1, h2, hf, hn, k⟩ := h
    refine ⟨_, (pss_cons (ps_if (pt_cmpR op_isN (pv 1) pe_non (nomark _)) (pss_one (ps_ret (pe_cmpR op_isN (pv 0) pe_non (nomark _)))) pss_nil) (pss_cons (ps_if (pt_val (pe_callB call_isiD (by rfl) T.isinstance (by decide +kernel) (pa_cons (pv 1) (pa_cons (pe_bltn (v := V.ty "bool") (u := Value.type "bool") (by rfl) T.bool_ (by decide +kernel) rfl) pa_nil)))) (pss_one (ps_ret (pe_and (pe_callB call_isiD (by rfl) T.isinstance (by decide +kernel) (pa_cons (pv 0) (pa_cons (pe_bltn (v := V.ty "bool") (u := Value.type "bool") (by rfl) T.bool_ (by decide +kernel) rfl) pa_nil))) (pe_one (pe_cmpR op_eq (pv 0) (pv 1) (nomark _)))))) pss_nil) (pss_cons (ps_if (pt_val (pe_callB call_isiD (by rfl) T.isinstance (by decide +kernel) (pa_cons (pv 1) (pa_cons (pe_bltn (v := V.ty "int") (u := Value.type "int") (by rfl) T.int_ (by decide +kernel) rfl) pa_nil)))) (pss_one (ps_ret (pe_and (pe_callB call_isiD (by rfl) T.isinstance (by decide +kernel) (pa_cons (pv 0) (pa_cons (pe_bltn (v := V.ty "int") (u := Value.type "int") (by rfl) T.int_ (by decide +kernel) rfl) pa_nil))) (pe_and (pe_not (pe_callB call_isiD (by rfl) T.isinstance (by decide +kernel) (pa_cons (pv 0) (pa_cons (pe_bltn (v := V.ty "bool") (u := Value.type "bool") (by rfl) T.bool_ (by decide +kernel) rfl) pa_nil)))) (pe_one (pe_cmpR op_eq (pv 0) (pv 1) (nomark _))))))) pss_nil) (pss_cons (ps_if (pt_val (pe_callB call_isiD (by rfl) T.isinstance (by decide +kernel) (pa_cons (pv 1) (pa_cons (pe_bltn (v := V.ty "str") (u := Value.type "str") (by rfl) T.str_ (by decide +kernel) rfl) pa_nil)))) (pss_one (ps_ret (pe_and (pe_callB call_isiD (by rfl) T.isinstance (by decide +kernel) (pa_cons (pv 0) (pa_cons (pe_bltn (v := V.ty "str") (u := Value.type "str") (by rfl) T.str_ (by decide +kernel) rfl) pa_nil))) (pe_one (pe_cmpR op_eq (pv 0) (pv 1) (nomark _)))))) pss_nil) (pss_cons (ps_if ((pw_or (pt_cmpR op_ne (pe_callB call_isiD (by rfl) T.isinstance (by decide +kernel) (pa_cons (pv 1) (pa_cons (pe_bltn (v := V.ty "tuple") (u := Value.type "tuple") (by rfl) T.tuple_ (by decide +kernel) rfl) pa_nil))) (pe_callB call_isiD (by rfl) T.isinstance (by decide +kernel) (pa_cons (pv 0) (pa_cons (pe_bltn (v := V.ty "tuple") (u := Value.type "tuple") (by rfl) T.tuple_ (by decide +kernel) rfl) pa_nil))) (nomark _)) (pw_or1 (pt_cmpR op_ne (pe_callB call_isiD (by rfl) T.isinstance (by decide +kernel) (pa_cons (pv 1) (pa_cons (pe_bltn (v := V.ty "list") (u := Value.type "list") (by rfl) T.list_ (by decide +kernel) rfl) pa_nil))) (pe_callB call_isiD (by rfl) T.isinstance (by decide +kernel) (pa_cons (pv 0) (pa_cons (pe_bltn (v := V.ty "list") (u := Value.type "list") (by rfl) T.list_ (by decide +kernel) rfl) pa_nil))) (nomark _)))).pt) (pss_one (ps_ret pe_bl)) pss_nil) (pss_cons (ps_if (pt_cmpR op_ne (pe_callB call_lenD (by rfl) T.len PySem.boot_len (pa_cons (pv 0) pa_nil)) (pe_callB call_lenD (by rfl) T.len PySem.boot_len (pa_cons (pv 1) pa_nil)) (nomark _)) (pss_one (ps_ret pe_bl)) pss_nil) (pss_cons (ps_for PassesOwn.never rfl (pi_range1 (by rfl) T.range (pa_cons (pe_callB call_lenD (by rfl) T.len PySem.boot_len (pa_cons (pv 1) pa_nil)) pa_nil)) (pg_name (i := 2) sc.nd rfl (Or.inl rfl)) (pss_one (ps_if (pt_not (pt_val (pe_c cR hr (by omega) (by rfl) pass0 (pa_cons (pe_ix ixD (pv 0) (pv 2) (fun _ _ => rfl)) (pa_cons (pe_ix ixD (pv 1) (pv 2) (fun _ _ => rfl)) pa_nil))))) (pss_one (ps_ret pe_bl)) pss_nil))) (pss_one (ps_ret pe_bl))))))))), ?_⟩
    refine ⟨_, rfl, rfl, _, rfl, ?_⟩
    cases h2 with
    | non =>
      cases h1
      exact iteT ⟨_, rfl, rfl, k⟩
    | bl b =>
      cases h1
      refine iteF ⟨_, rfl, _, _, _, rfl, by simp, .bl b, _, rfl, ?_⟩
      refine iteT ⟨_, rfl, _, _, _, rfl, by simp, .bl b, _, rfl, ?_⟩
      refine iteT ⟨_, rfl, _, rfl, rfl, ?_⟩
      have e : decide (V.bl b = V.bl b) = true := decide_eq_true rfl
      rw [e]
      exact k
    | int i =>
      cases h1
      refine iteF ⟨_, rfl, _, _, _, rfl, by simp, .int i, _, rfl, ?_⟩
      refine iteF ⟨_, rfl, _, _, _, rfl, by simp, .int i, _, rfl, ?_⟩
      refine iteT ⟨_, rfl, _, _, _, rfl, by simp, .int i, _, rfl, ?_⟩
      refine iteT ⟨_, rfl, _, _, _, rfl, by simp, .int i, _, rfl, _, rfl, ?_⟩
      refine iteT ⟨_, rfl, _, rfl, rfl, ?_⟩
      have e : decide (V.int i = V.int i) = true := decide_eq_true rfl
      rw [e]
      exact k
    | str x =>
      cases h1
      refine iteF ⟨_, rfl, _, _, _, rfl, by simp, .str x, _, rfl, ?_⟩
      refine iteF ⟨_, rfl, _, _, _, rfl, by simp, .str x, _, rfl, ?_⟩
      refine iteF ⟨_, rfl, _, _, _, rfl, by simp, .str x, _, rfl, ?_⟩
      refine iteT ⟨_, rfl, _, _, _, rfl, by simp, .str x, _, rfl, ?_⟩
      refine iteT ⟨_, rfl, _, rfl, rfl, ?_⟩
      have e : decide (V.str x = V.str x) = true := decide_eq_true rfl
      rw [e]
      exact k
    | @lst a2 x2 ds q2 i2 =>
      have h2 : Dp K H (.ref a2) (.list ds) := .lst q2 i2
      have hds : ds.length ≤ 1000000 ∧ ∀ d ∈ ds, few d := by
        have : ds.length ≤ 1000000 ∧ fews ds := by simpa only [few] using hf
        exact ⟨this.1, fews_iff.mp this.2⟩
      have hdep : ∀ d ∈ ds, d.depth + 1 ≤ n := fun d hd => by
        have a : PyData.depthAll ds + 1 ≤ n := by simpa only [PyData.depth] using hn
        have := depth_mem hd
        omega
      obtain ⟨a1, rfl⟩ : ∃ a1, v1 = .ref a1 := by cases h1; exact ⟨_, rfl⟩
      refine iteF ⟨_, rfl, _, _, _, rfl, by simp, h2, _, rfl, ?_⟩
      refine iteF ⟨_, rfl, _, _, _, rfl, by simp, h2, _, rfl, ?_⟩
      refine iteF ⟨_, rfl, _, _, _, rfl, by simp, h2, _, rfl, ?_⟩
      refine iteF ⟨_, rfl, _, _, _, rfl, by simp, h2, _, rfl, _, _, _, rfl, by simp, h1, rfl, _, rfl, ?_⟩
      refine iteF' (by simp) ⟨_, rfl, _, _, _, rfl, by simp, h2, _, rfl, _, _, _, rfl, by simp, h1, rfl, _, rfl, ?_⟩
      refine iteF' (by simp) ⟨_, rfl, _, _, _, rfl, h1, rfl, _, rfl, _, _, _, rfl, h2, rfl, rfl, _, rfl, ?_⟩
      refine iteF' (by simp) ⟨_, rfl, _, _, _, rfl, h2, rfl, _, rfl, by omega, by omega, ?_⟩
      rw [Int.toNat_natCast]
      refine for_range (fun i σ H' => ∃ v3 : Option V, σ = [some (.ref a1), some (.ref a2), v3] ∧ H' = H) ⟨none, rfl, rfl⟩ ?_ ?_
      · rintro i σ H' hi ⟨v3, rfl, rfl⟩
        simp only [Int.zero_add]
        refine ⟨_, rfl, _, rfl, .list ds, ds, (i : Nat), ds[i], h1, rfl, rfl, atI_nat (List.getElem?_eq_getElem hi), fun w1 hw1 => ?_⟩
        refine ⟨_, rfl, _, rfl, .list ds, ds, (i : Nat), ds[i], h2, rfl, rfl, atI_nat (List.getElem?_eq_getElem hi), fun w2 hw2 => ?_⟩
        refine hsp w1 w2 ds[i] H' _ _ hw1 hw2 (hds.2 _ (List.getElem_mem hi)) (hdep _ (List.getElem_mem hi)) ⟨_, rfl, ?_⟩
        exact iteF ⟨_, rfl, rfl⟩
      · rintro σ H' ⟨v3, rfl, rfl⟩
        exact k
    | @tup a2 x2 ds q2 i2 =>
      have h2 : Dp K H (.ref a2) (.tuple ds) := .tup q2 i2
      have hds : ds.length ≤ 1000000 ∧ ∀ d ∈ ds, few d := by
        have : ds.length ≤ 1000000 ∧ fews ds := by simpa only [few] using hf
        exact ⟨this.1, fews_iff.mp this.2⟩
      have hdep : ∀ d ∈ ds, d.depth + 1 ≤ n := fun d hd => by
        have a : PyData.depthAll ds + 1 ≤ n := by simpa only [PyData.depth] using hn
        have := depth_mem hd
        omega
      obtain ⟨a1, rfl⟩ : ∃ a1, v1 = .ref a1 := by cases h1; exact ⟨_, rfl⟩
      refine iteF ⟨_, rfl, _, _, _, rfl, by simp, h2, _, rfl, ?_⟩
      refine iteF ⟨_, rfl, _, _, _, rfl, by simp, h2, _, rfl, ?_⟩
      refine iteF ⟨_, rfl, _, _, _, rfl, by simp, h2, _, rfl, ?_⟩
      refine iteF ⟨_, rfl, _, _, _, rfl, by simp, h2, _, rfl, _, _, _, rfl, by simp, h1, rfl, _, rfl, ?_⟩
      refine iteF' (by simp) ⟨_, rfl, _, _, _, rfl, by simp, h2, _, rfl, _, _, _, rfl, by simp, h1, rfl, _, rfl, ?_⟩
      refine iteF' (by simp) ⟨_, rfl, _, _, _, rfl, h1, rfl, _, rfl, _, _, _, rfl, h2, rfl, rfl, _, rfl, ?_⟩
      refine iteF' (by simp) ⟨_, rfl, _, _, _, rfl, h2, rfl, _, rfl, by omega, by omega, ?_⟩
      rw [Int.toNat_natCast]
      refine for_range (fun i σ H' => ∃ v3 : Option V, σ = [some (.ref a1), some (.ref a2), v3] ∧ H' = H) ⟨none, rfl, rfl⟩ ?_ ?_
      · rintro i σ H' hi ⟨v3, rfl, rfl⟩
        simp only [Int.zero_add]
        refine ⟨_, rfl, _, rfl, .tuple ds, ds, (i : Nat), ds[i], h1, rfl, rfl, atI_nat (List.getElem?_eq_getElem hi), fun w1 hw1 => ?_⟩
        refine ⟨_, rfl, _, rfl, .tuple ds, ds, (i : Nat), ds[i], h2, rfl, rfl, atI_nat (List.getElem?_eq_getElem hi), fun w2 hw2 => ?_⟩
        refine hsp w1 w2 ds[i] H' _ _ hw1 hw2 (hds.2 _ (List.getElem_mem hi)) (hdep _ (List.getElem_mem hi)) ⟨_, rfl, ?_⟩
        exact iteF ⟨_, rfl, rfl⟩
      · rintro σ H' ⟨v3, rfl, rfl⟩
        exact k
theorem alike_ok {c : Addr} (D : DefAt K mg "_law_alike" sAlike c) (T : Txt K mg) : ∀ n : Nat, Cal P w K mg base CX0 (n + 2) "_law_alike" ["_law_found", "_law_due"] (spAlike K n)
  | 0 => alike_step D T 0 (Nat.le_refl _) (alike_none D) (fun _ _ _ _ _ _ _ _ _ h _ => by omega)
  | n + 1 => alike_step D T (n + 1) (by omega) (alike_ok D T n) (fun v1 v2 d H Q E h1 h2 h3 h4 q => ⟨v1, v2, d, rfl, h1, h2, h3, by omega, q⟩)
end
end RS
set_option Elab.async false
set_option maxRecDepth 100000
set_option maxHeartbeats 4000000
set_option pp.maxSteps 400
namespace RS
open PySem PySem.Spec PyProof.Rows L2 GX LM
theorem in_seqC {X : Cx} {K : PySem.W.Frag} (e : X.K = K) : OpR X (compareOp .In) (rIn K false) := by
  subst e
  exact op_in_seq
/-- what the law tells of an error beside its name -/
def ErrV (K : PySem.W.Frag) (D : Addr) (j : Nat) (d : Option Addr) (H : Hp) (v : Int) : Prop :=
  if j = 3 ∨ j = 2 ∨ j = 14 then XfC K D ∧ PySem.W.findIn K (.ref D) (if j = 3 then ("number" : Str) else "place") = some none ∧ ∃ (dd : Addr) (fs : List (Str × V)), d = some dd ∧ H dd = some (.xd fs) ∧ fs.lookup (if j = 3 then ("number" : Str) else "place") = some (.int v) else v = 0
section
variable {P : Program} {w : World} {K : PySem.W.Frag} {mg : Str → Option Value} {base : Heap}
theorem word_runs : ∀ j < 15, decide (V.str (nm15.getD j "") = V.str "BadRuns") = decide (j = 3) := by decide +kernel
theorem word_place : ∀ j < 15, inV (.str (nm15.getD j "")) [.str "BadRows", .str "BadText"] = decide (j = 2 ∨ j = 14) := by decide +kernel
theorem scTold : FnScope ["_law_work", "_law_e", "_law_word"] ["_law_work"] (defScope sTold) := ⟨rfl, rfl, rfl, by decide +kernel, rfl, by decide +kernel, by decide +kernel⟩
/-- an error of the class j leaves, with the number v -/
def ErrOk (K : PySem.W.Frag) (SE : Addr) (C : Nat → Addr) (Q : V → Hp → Prop) : XK := fun cls d H' => ∃ (D : Addr) (j : Nat) (v : Int), cls = .ref D ∧ Own15 K C D j ∧ PySem.W.exmOne K (.ref D) (.ref SE) = some true ∧ DictAt d H' ∧ ErrV K D j d H' v ∧
  ∀ (H'' : Hp) (t : Addr), Same H' H'' → H'' t = some (.tup [.str (nm15.getD j ""), .int v]) → Q (.ref t) H''
def spTold (P : Program) (w : World) (K : PySem.W.Frag) (mg : Str → Option Value) (base : Heap) (SE : Addr) (C : Nat → Addr) (n : Nat) : Sp := fun vs H Q _ => ∃ (f : Addr) (R : Hp → Prop) (tl : Hp → VK → XK → Prop), vs = [.ref f] ∧ Act P w K mg base n f R tl ∧ R H ∧ ∀ E : XK, (∀ cls d H', ErrOk K SE C Q cls d H' → E cls d H') → tl H Q E
theorem told_ok {c SE : Addr} {C : Nat → Addr} (DD : DefAt K mg "_law_told" sTold c) (n : Nat) (hn : 1 ≤ n) (gS : mg "SortError" = some (.ref SE)) (cC : CalW P w K mg base 1 "_law_class" ["_law_e"] (spClass K C)) : Cal P w K mg base CX0 (n + 1) "_law_told" ["_law_work"] (spTold P w K mg base SE C n) := by
  have sc := scTold
  refine def_ok0 DD sc (fun vs H Q E h => ?_) (fun _ _ _ _ _ _ us hl => match us, hl with | [_], _ => rfl) (fun f A outer s H vs Q E hr h => ?_)
  · obtain ⟨f, R, tl, rfl, _⟩ := h
    rfl
  · obtain ⟨g, R, tl, rfl, act, hR, ht⟩ := h
    refine ⟨_, pss_one (ps_try_as (X := (cxOf CX0 P w K mg base ["_law_work", "_law_e", "_law_word"] "_law_told" (defScope sTold) f (.ref c) A outer s H E).nox) (i := 1) (c := .ref SE) rfl rfl sc.nd rfl rfl ⟨rfl, by decide, .inl gS⟩ LamX.takes0 (fun W pn xe tk _ => pss_one (ps_ret (pe_act (P := P) (w := w) (K := K) (mg := mg) (base := base) rfl rfl rfl rfl rfl (fun σ => passAt tk σ) hr (Nat.le_refl _) (pv 0))))
      (fun a oe cls d pn hz hf => (pss_cons (ps_set (i := 2) sc.nd rfl (Or.inl rfl) (pe_cW (X := Cx.suite (cxOf CX0 P w K mg base ["_law_work", "_law_e", "_law_word"] "_law_told" (defScope sTold) f (.ref c) A outer s H E).nox a ((a, oe) :: pn)) (k := 1) (j := n) cC ⟨hr.dp, hr.un⟩ hn List.mem_cons_self hz hf (by rfl) (pa_cons (pv 1) pa_nil))) (pss_cons (ps_if (pt_cmpR op_eq (pv 2) pe_str (nomark _)) (pss_one (ps_ret (pe_tup (pa_cons (pv 2) (pa_cons (pe_xfA hz hf (pv 1)) pa_nil))))) pss_nil) (pss_one (ps_ret (pe_tup (pa_cons (pv 2) (pa_cons (pe_ifExp (pt_cmpR (in_seqC (K := K) rfl) (pv 2) (pe_tup (pa_cons pe_str (pa_cons pe_str pa_nil))) (by rfl)) (pe_xfA hz hf (pv 1)) pe_int) pa_nil))))))))), ?_⟩
    refine ⟨_, rfl, g, R, tl, rfl, act, hR, ht _ fun cls d H' ⟨D, j, v, ec, O, hm, hd, ev, q⟩ => ?_⟩
    subst ec
    refine ⟨true, hm, fun _ a ha => ?_, fun z => nomatch z⟩
    refine ⟨_, rfl, D, j, rfl, rfl, O, hd, fun H2 s2 => ?_⟩
    refine ⟨_, rfl, rfl, _, rfl, ?_⟩
    rw [word_runs j O.lt]
    unfold ErrV at ev
    by_cases h3 : j = 3
    · subst h3
      rw [if_pos (.inl rfl), if_pos rfl] at ev
      obtain ⟨x1, x2, dd, fs, e1, e2, e3⟩ := ev
      refine iteT' rfl ?_
      exact ⟨_, rfl, D, x1, x2, _, rfl, rfl, rfl, dd, fs, _, e1, s2 _ _ e2, e3, by show 2 ≤ sizeLine; decide, fun t ht => q _ t (sameNew s2 ht) upd_same⟩
    · refine iteF' (decide_eq_false h3) ?_
      refine ⟨_, rfl, _, rfl, by show 2 ≤ sizeLine; decide, fun tt htt => ?_⟩
      have s3 := sameNew (o := .tup [.str "BadRows", .str "BadText"]) s2 htt
      refine ⟨tt, _, rfl, .inr (SqT.of upd_same), rfl, rfl, _, rfl, ?_⟩
      rw [if_neg Bool.false_ne_true, word_place j O.lt]
      by_cases h2 : j = 2 ∨ j = 14
      · rw [if_pos (.inr h2), if_neg h3] at ev
        obtain ⟨x1, x2, dd, fs, e1, e2, e3⟩ := ev
        refine iteT' (decide_eq_true h2) ?_
        exact ⟨D, x1, x2, _, rfl, rfl, rfl, dd, fs, _, e1, s3 _ _ e2, e3, by show 2 ≤ sizeLine; decide, fun t ht => q _ t (sameNew s3 ht) upd_same⟩
      · rw [if_neg fun z => z.elim h3 h2] at ev
        subst ev
        refine iteF' (decide_eq_false h2) ?_
        exact ⟨by show 2 ≤ sizeLine; decide, fun t ht => q _ t (sameNew s3 ht) upd_same⟩
theorem scAll : FnScope ["_law_works", "_law_due", "_law_work"] ["_law_works", "_law_due"] (defScope sAll) := ⟨rfl, rfl, rfl, by decide +kernel, rfl, by decide +kernel, by decide +kernel⟩
/-- f, called now or behind more, tells dd -/
def Works (P : Program) (w : World) (K : PySem.W.Frag) (mg : Str → Option Value) (base : Heap) (SE : Addr) (C : Nat → Addr) (n : Nat) (f : Addr) (H : Hp) (dd : PyData) : Prop :=
  ∀ (H1 : Hp) (Q1 : VK), Same H H1 → (∀ x H2, Same H1 H2 → Dp K H2 x dd → Q1 x H2) → spTold P w K mg base SE C n [.ref f] H1 Q1 E0
def spAll (P : Program) (w : World) (K : PySem.W.Frag) (mg : Str → Option Value) (base : Heap) (SE : Addr) (C : Nat → Addr) (n : Nat) : Sp := fun vs H Q _ => ∃ (L : Addr) (fs : List Addr) (v : V) (dd : PyData), vs = [.ref L, v] ∧ H L = some (.lst (fs.map V.ref)) ∧ fs.length ≤ 20 ∧ Dp K H v dd ∧ few dd ∧ dd.depth ≤ 40 ∧
  (∀ f ∈ fs, Works P w K mg base SE C n f H dd) ∧ ∀ H', Same H H' → Q (.bl true) H'
theorem all_ok {c SE : Addr} {C : Nat → Addr} (DD : DefAt K mg "_law_all" sAll c) (n m : Nat) (h1 : n + 1 ≤ m) (h2 : 42 ≤ m) (cT : Cal P w K mg base CX0 (n + 1) "_law_told" ["_law_work"] (spTold P w K mg base SE C n)) (cA : Cal P w K mg base CX0 42 "_law_alike" ["_law_found", "_law_due"] (spAlike K 40)) :
    Cal P w K mg base CX0 (m + 1) "_law_all" ["_law_works", "_law_due"] (spAll P w K mg base SE C n) := by
  have sc := scAll
  refine def_ok0 DD sc (fun vs H Q E h => ?_) (fun _ _ _ _ _ _ us hl => match us, hl with | [_, _], _ => rfl) (fun f A outer s H vs Q E hr h => ?_)
  · obtain ⟨L, fs, v, dd, rfl, _⟩ := h
    rfl
  · obtain ⟨L, fs, v, dd, rfl, hL, l20, hv, hf, hdp, hw, k⟩ := h
    have hu := hr.units
    refine ⟨_, (pss_one (ps_ret (pe_cmpR (op_eqD hu) (pe_lc (own := [("_law_work", 2)]) (tt := _) rfl sc.nd (pi_list (pv 0)) (blkOk_by (N := ["_law_works", "_law_due", "_law_work"]) (sc := defScope sAll) (own := [("_law_work", 2)]) (by decide +kernel)) (fun _ _ _ _ _ => (pg_name (i := 2) sc.nd rfl (Or.inl rfl))) (fun _ _ _ _ _ => pts_one (pt_not (pt_val (pe_c cA hr h2 (by rfl) pass0 (pa_cons (pe_c cT hr h1 (by rfl) pass0 (pa_cons (pv 2) pa_nil)) (pa_cons (pv 1) pa_nil)))))) (fun _ _ _ _ _ => pv 2)) (pe_lst pa_nil) (nomark _)))), ?_⟩
    refine ⟨_, rfl, L, rfl, ⟨_, SqL.of hL⟩, fun DD hD => ?_⟩
    refine lc_list (K := K) (a := L) (xs := fs.map V.ref) (fun j H' => Same H H' ∧ H' DD = some (.lst [])) ⟨fun b o e => by rw [upd_ne (ne_of_none e hD)]; exact e, upd_same⟩ (fun j H4 _ h => h.1.seq (SqL.of hL)) ?_ ?_
    · rintro j x H4 hx ⟨sm, hl4⟩
      obtain ⟨g, eg, rfl⟩ : ∃ g, fs[j]? = some g ∧ x = V.ref g := by
        rw [List.getElem?_map] at hx
        cases z : fs[j]? with
        | none => rw [z] at hx; cases hx
        | some b => rw [z] at hx; exact ⟨b, rfl, (Option.some.inj hx).symm⟩
      refine ⟨rfl, _, rfl, hw g (List.mem_of_getElem? eg) H4 _ sm fun x H5 s5 hx5 => ?_⟩
      refine ⟨_, rfl, x, v, dd, rfl, hx5, dp_same s5 _ (dp_same sm _ hv), hf, hdp, _, rfl, ?_⟩
      exact iteF ⟨sm.trans s5, s5 _ _ hl4⟩
    · rintro H4 ⟨sm, hl4⟩
      refine ⟨Nat.zero_le _, fun E2 hE2 => ?_⟩
      have s6 := sameNew (o := .lst []) (Same.refl H4) hE2
      refine ⟨.list [], .list [], .lst (s6.seq (SqL.of hl4)) .nil, .lst (SqL.of upd_same) .nil, by decide +kernel, ?_⟩
      refine ⟨by decide +kernel, ?_⟩
      have e : PyData.eqv (.list []) (.list []) = true := by simp [PyData.eqv, PyData.eqvAll]
      rw [e]
      exact k _ (sm.trans s6)
end
end RS
set_option Elab.async false
set_option maxRecDepth 100000
set_option maxHeartbeats 4000000
set_option pp.maxSteps 400
namespace RS
open PySem PySem.Spec PyProof.Rows L2 GX LM
section
variable {X : Cx} {e : Expr} {es : List Expr} {ta : TA} {p1 p2 pos : Pos}
/-- C.__init__(self, ..), C an own class that has ValueError's -/
theorem pe_veinitC {pl : Sem Bool} {x : Str} {SE : Addr} {mc : Value} (hg : Gl X x) (hm : X.mg x = some (.ref SE)) (cr : ClX.CRead X.K SE mc) (cv : PySem.W.findCls X.K (.ref SE) mc "__init__" = some (.val (.builtin "ValueError.__init__"))) (ha : PA X (e :: es) ta) (hdb : (x == ("__debug__" : Str)) = false := by decide)
    (hc : eval (.Call (.Attribute (.Name x p1) "__init__" p2) (e :: es) [] pos) X.env = (do
      let ov ← eval (.Name x p1) X.env
      standAt p2.atName
      let (f, first) ← holding [ov] (getMethod ov "__init__" pl)
      callWith pos f first (backTo pos (starEach (e :: es) X.env)) (backToKw pos (keywordEach [] X.env))) := by rfl)
    (he : starEach (e :: es) X.env = (false, eval e X.env) :: starEach es X.env := by rfl) (hpl : (backTo pos (starEach es X.env)).any (·.1) = false := by rfl) :
    PE X (.Call (.Attribute (.Name x p1) "__init__" p2) (e :: es) [] pos) (tVeI X.K ta) := by
  refine ⟨fun pins s σ H Q I h => ?_⟩
  refine PySem.W.methodCall_KW (ld_glob I hg hm ?_ hdb) hc
  refine PySem.W.method_cls I.kIn cr.ga (PySem.W.cls_value I.kIn cr.rd cv (by decide +kernel) ?_)
  show wpAny _ _ (callWith pos (Value.builtin "ValueError.__init__") [] (backTo pos (starEach (e :: es) X.env)) []) _ _ _
  refine PyProof.Rows.callWith_method1 (thn (ha.run pos pins _ σ H _ (I.tok _) h) fun us s1 ⟨vs, H1, I1, r1, a, C, ws, ev, hl, T, ea, q⟩ => ?_) he hpl
  subst ev
  cases r1 with
  | @cons _ u0 _ ur ra rw' =>
    obtain rfl : u0 = Value.ref a := ra
    have z : ur.length ≤ sizeLine := by
      rw [← Paired.length rw', sizeLine_eq]
      omega
    exact oinit_ok T I1 ea z fun s' J => ⟨.non, H1, J, rfl, q⟩
end
theorem len_app7 (x y : Str) : (x ++ y).length = x.length + y.length := by
  have e : ∀ z : Str, z.length = (TL.tl z).length := fun z => by simp [TL.tl, Str.length]
  rw [e, e x, e y, TL.tl_append, List.length_append]
/-! ### an error with a number -/
def spNumI (K : PySem.W.Frag) (C : Addr) (f : Str) : Sp := fun vs H Q _ => ∃ (a : Addr) (v : Nat), vs = [.ref a, .int (v : Nat)] ∧ v < 1000 ∧ H a = some (exo a C none) ∧
  ∀ dx, H dx = none → dx ≠ a → Q .non (upd (upd H dx (exd dx [(f, .int (v : Nat))])) a (exo a C (some dx)))
theorem txt_small : ∀ n < 1000, (toString ((n : Nat) : Int) : Str).length ≤ 20 ∧ ((n : Nat) : Int).natAbs.log2 < 1920 := by decide +kernel
/-- the text's class C: its __init__ tells a text, then keeps the number as f -/
structure NumE (P : Program) (w : World) (K : PySem.W.Frag) (mg : Str → Option Value) (base : Heap) (x f : Str) (C : Addr) : Prop where
  ex : ∃ (fI : Addr) (fd : FuncData), OexC K C ∧ PySem.W.findIn K (.ref C) "__init__" = some (some (.ref fI)) ∧ PySem.W.typeIn K (.ref fI) = some (.type "function") ∧ FnOk P w K mg base CX0 1 fI fd ["self", f] (spNumI K C f) ∧ Binds K fd ["self", f] [] ∧ mg x = some (.ref C)
section
variable {X : Cx} {e : Expr} {te : TE} {p pos : Pos} {x f : Str} {C : Addr}
theorem del_end {H1 : Hp} {a dx : Addr} {o u v y : HO} (hn : H1 a = none) (ne : dx ≠ a) : upd (L2.del (upd (upd (upd H1 a o) dx u) a v) a) dx y = upd H1 dx y := by
  funext b
  by_cases hb : b = dx
  · rw [hb, upd_same, upd_same]
  · rw [upd_ne hb, upd_ne hb]
    by_cases ha : b = a
    · rw [ha, L2.del_same, hn]
    · rw [L2.del_ne ha, upd_ne ha, upd_ne hb, upd_ne ha]
/-- C(e), to be raised -/
theorem pmk_num (N : NumE X.prog X.w X.K X.mg X.base x f C) (hr : Room 2 X.A) (hg : Gl X x) (he : PE X e te) (hs : starEach [e] X.env = (false, eval e X.env) :: starEach [] X.env := by rfl) (hdb : (x == ("__debug__" : Str)) = false := by decide) :
    L2.PMk X (.Call (.Name x p) [e] [] pos) (tMkO C (spNumI X.K C f) [] (tCons te tNil)) := by
  obtain ⟨fI, fd, T, iC, tI, F, hb, hm⟩ := N.ex
  exact pmk_oex T iC tI F hr hb .nil pass0 hg hm (pa_cons he pa_nil hs) hdb hs (by rfl)
/-- its reading, the number known -/
theorem num_end {K : PySem.W.Frag} {n : Nat} {H1 : Hp} {Q : XK} (hn : n < 1000) (q : ∀ d, H1 d = none → Q (.ref C) (some d) (upd H1 d (.xd [(f, .int (n : Nat))]))) : [V.int (n : Nat)].length ≤ 1000 ∧ ∀ a, H1 a = none → spNumI K C f (.ref a :: ([V.int (n : Nat)] ++ [])) (upd H1 a (exo a C none))
    (fun v H2 => v = .non ∧ ∃ (d : Addr) (fs : List (Str × V)), H2 a = some (exo a C (some d)) ∧ H2 d = some (exd d fs) ∧ H1 d = none ∧ Q (.ref C) (some d) (upd (L2.del H2 a) d (.xd fs))) (fun _ _ _ => False) := by
  refine ⟨by show 1 ≤ 1000; decide, fun a ha => ⟨a, n, rfl, hn, upd_same, fun dx hd ne => ⟨rfl, dx, [(f, .int (n : Nat))], upd_same, (upd_ne ne).trans upd_same, (upd_ne ne).symm.trans hd, ?_⟩⟩⟩
  rw [del_end ha ne]
  exact q dx ((upd_ne ne).symm.trans hd)
end
section
variable {P : Program} {w : World} {K : PySem.W.Frag} {mg : Str → Option Value} {base : Heap}
theorem scPlaceI : FnScope ["self", "place"] ["self", "place"] (defScope s_BadRows_init) := ⟨rfl, rfl, rfl, by decide +kernel, rfl, by decide +kernel, by decide +kernel⟩
theorem init_place {fI C SE : Addr} {fd : FuncData} {mc : Value} (F : L2.Fun K "__init__" "BadRows.__init__" s_BadRows_init fI fd) (T : OexC K C) (iC : PySem.W.findIn K (.ref C) "__init__" = some (some (.ref fI))) (tI : PySem.W.typeIn K (.ref fI) = some (.type "function")) (hm : mg "BadRows" = some (.ref C)) (nf : PySem.W.findIn K (.ref C) "place" = some none)
    (gS : mg "SortError" = some (.ref SE)) (cr : ClX.CRead K SE mc) (cv : PySem.W.findCls K (.ref SE) mc "__init__" = some (.val (.builtin "ValueError.__init__"))) : NumE P w K mg base "BadRows" "place" C := by
  have sc := scPlaceI
  refine ⟨fI, fd, T, iC, tI, ?_, F.binds (fun _ _ _ _ _ _ us hl => match us, hl with | [_, _], _ => rfl), hm⟩
  refine F.ok sc (fun vs H Q E h => ?_) (fun cdv A outer s H vs Q E hr h => ?_)
  · obtain ⟨a, v, rfl, _⟩ := h
    rfl
  · obtain ⟨a, v, rfl, hv, ha, k⟩ := h
    refine ⟨_, (pss_cons (ps_expr (pe_veinitC (by rfl) gS cr cv (pa_cons (pv 0) (pa_cons (pe_joined (.cons pe_str (.cons (pe_fmt (pv 1)) .nil))) pa_nil)))) (pss_one (ps_ost (pv 0) (pv 1)))), ?_⟩
    obtain ⟨z1, z2⟩ := txt_small v hv
    have big : (1000 : Nat) ≤ sizeLine := by decide
    have e0 : (Str.empty ++ Str.ofString "no row that may stand at place ").length ≤ 100 := by decide +kernel
    refine ⟨_, rfl, _, rfl, by omega, _, rfl, .inr ⟨_, rfl, z2, _, rfl, ?_, a, C, _, rfl, by show 1 ≤ 1000; decide, T, ha, ?_⟩⟩
    · rw [len_app7]
      omega
    · exact ⟨_, rfl, _, rfl, a, C, rfl, T, nf, .inl ⟨ha, fun dx hd ne => k dx hd ne⟩⟩
end
end RS
set_option Elab.async false
set_option maxRecDepth 100000
set_option maxHeartbeats 4000000
namespace RS
open PySem PySem.Spec PyProof.Rows L2 GX
theorem num_log (n : Nat) (h : n < 40) : (n : Int).natAbs.log2 < 1920 := by
  rw [Int.natAbs_natCast]
  have := Nat.log2_le_self n
  omega
theorem len_app (x y : Str) : (x ++ y).length = x.length + y.length := by
  have e : ∀ z : Str, z.length = (TL.tl z).length := fun z => by simp [TL.tl, Str.length]
  rw [e, e x, e y, TL.tl_append, List.length_append]
theorem leaf_mem : ∀ {ds : List PyData} {d : PyData}, d ∈ ds → (leaf d).length ≤ (leafs ds).length
  | e :: ds, d, h => by
    show _ ≤ (leaf e ++ leafs ds).length
    rw [List.length_append]
    rcases List.mem_cons.mp h with q | q
    · rw [q]
      omega
    · have := leaf_mem q
      omega
section
variable {P : Program} {w : World} {K : PySem.W.Frag} {mg : Str → Option Value} {base : Heap}
theorem scPT : FnScope ["plan", "parts", "part"] ["plan"] (defScope s_plan_text) := ⟨rfl, rfl, rfl, by decide +kernel, rfl, by decide +kernel, by decide +kernel⟩
def spPT (K : PySem.W.Frag) (n : Nat) : Sp := fun vs H Q _ => ∃ (v : V) (d : PyData) (m : Nat), vs = [v] ∧ Dp K H v d ∧ okP m d ∧ m ≤ 6 ∧ (leaf d).length ≤ 40 ∧ d.depth ≤ n ∧ ∀ H', Same H H' → Q (.str (textP d)) H'
theorem pt_none {c : Addr} (D : DefAt K mg "plan_text" s_plan_text c) : Cal P w K mg base CX0 1 "plan_text" ["plan"] (fun _ _ _ _ => False) :=
  def_ok0 D scPT (fun vs H Q E h => h.elim) (fun _ _ _ _ _ _ us hl => match us, hl with | [_], _ => rfl) (fun f A outer s H vs Q E hr h => h.elim)
theorem pt_step {c : Addr} (D : DefAt K mg "plan_text" s_plan_text c) (T : Txt K mg) {j : Nat} (n : Nat) {sp : Sp} (hj : 1 ≤ j) (cR : Cal P w K mg base CX0 j "plan_text" ["plan"] sp)
    (hsp : ∀ (v : V) (d : PyData) (m : Nat) (H : Hp) (Q : VK) (E : XK), Dp K H v d → okP m d → m ≤ 6 → (leaf d).length ≤ 40 → d.depth + 1 ≤ n → (∀ H', Same H H' → Q (.str (textP d)) H') → sp [v] H Q E) : Cal P w K mg base CX0 (j + 1) "plan_text" ["plan"] (spPT K n) := by
  have sc := scPT
  refine def_ok0 D sc (fun vs H Q E h => ?_) (fun _ _ _ _ _ _ us hl => match us, hl with | [_], _ => rfl) (fun f A outer s H vs Q E hr h => ?_)
  · obtain ⟨v, d, m, rfl, _⟩ := h
    rfl
  · obtain ⟨v, d, m, rfl, hd, ok, m6, l40, hn, k⟩ := h
    refine ⟨_, (pss_cons (ps_if (pt_val (pe_callB call_isiD (by rfl) T.isinstance (by decide +kernel) (pa_cons (pv 0) (pa_cons (pe_bltn (v := V.ty "tuple") (u := Value.type "tuple") (by rfl) T.tuple_ (by decide +kernel) rfl) pa_nil)))) (pss_cons (ps_set (i := 1) sc.nd rfl (Or.inl rfl) (pe_bm PySem.F.plainAttrs_str PySem.F.slot_str_join PySem.F.type_str_join mt_join pe_str (pa_cons (pe_lc (own := [("part", 2)]) (tt := tYes)  rfl sc.nd (pi_tup (pv 0)) (blkOk_by (N := ["plan", "parts", "part"]) (sc := defScope s_plan_text) (own := [("part", 2)]) (by decide +kernel)) (fun _ _ _ _ _ => (pg_name (i := 2) sc.nd rfl (Or.inl rfl))) (fun _ _ _ _ _ => pts_nil) (fun _ _ _ _ _ => (pe_c cR hr (by omega) (by rfl) pass0 (pa_cons (pv 2) pa_nil)))) pa_nil))) (pss_one (ps_ret (pe_joined (.cons pe_str (.cons (pe_fmt (pv 1)) (.cons pe_str .nil))))))) pss_nil) (pss_one (ps_ret (pe_callTy call_str_int (by rfl) T.str_ (by decide +kernel) (pa_cons (pv 0) pa_nil))))), ?_⟩
    refine ⟨_, rfl, _, _, _, rfl, by simp, hd, _, rfl, ?_⟩
    rcases okP_cases ok with ⟨i, rfl, hi⟩ | ⟨ds, rfl, e1, e2, oks⟩
    · cases hd
      exact iteF ⟨_, rfl, _, rfl, num_log i hi, k H (Same.refl H)⟩
    · refine iteT ?_
      cases hd with
      | @tup a xs _ hS hI =>
        have lx : xs.length = ds.length := dpLen hI
        have l40' : (leafs ds).length ≤ 40 := l40
        have each : ∀ d ∈ ds, okP m d ∧ (leaf d).length ≤ 40 := fun d hd => ⟨okPs_iff.mp oks d hd, Nat.le_trans (leaf_mem hd) l40'⟩
        have hdep : ∀ d ∈ ds, d.depth + 1 ≤ n := fun d hd => by
          have a : PyData.depthAll ds + 1 ≤ n := by simpa only [PyData.depth] using hn
          have := depth_mem hd
          omega
        refine ⟨rfl, _, rfl, a, rfl, ⟨_, hS⟩, fun DD hD => ?_⟩
        refine lc_tup (K := K) (a := a) (xs := xs) (fun j H' => Same H H' ∧ H' DD = some (.lst ((ds.take j).map fun d => V.str (textP d)))) ⟨fun b o e => by rw [upd_ne (ne_of_none e hD)]; exact e, upd_same⟩ (fun j H4 _ h => sqT_same h.1 hS) ?_ ?_
        · rintro j x H4 hx ⟨sm, hl⟩
          obtain ⟨e, ee, he⟩ := dpGet hI hx
          have em := List.mem_of_getElem? ee
          refine ⟨rfl, _, rfl, hsp x e m H4 _ _ (dp_same sm _ he) (each e em).1 m6 (each e em).2 (hdep e em) fun H5 s5 => ?_⟩
          refine ⟨_, s5 _ _ hl, small1000 (by rw [List.length_map, List.length_take]; omega), fun b o q => ?_, ?_⟩
          · rw [upd_ne (ne_of_none q hD)]
            exact s5 _ _ (sm _ _ q)
          · rw [upd_same, List.take_add_one, ee, List.map_append]
            rfl
        · rintro H4 ⟨sm, hl⟩
          rw [lx, List.take_length] at hl
          have tl := text_len ok
          have e0 : textP (.tuple ds) = Str.empty ++ (Str.ofString "( ") ++ Txt.join sp1 (ds.map textP) ++ (Str.ofString " )") := by
            rw [← textPs_map]
            rfl
          have big : (1000 : Nat) ≤ sizeLine := by decide
          rw [e0] at k tl
          refine ⟨_, DD, ds.map textP, rfl, rfl, .inl (SqL.of (by rw [List.map_map]; exact hl)), ?_, ?_⟩
          · have := sum_le Str.length 360 (ds.map textP) fun y hy => by
              obtain ⟨d, hd, rfl⟩ := List.mem_map.mp hy
              have := text_len (each d hd).1
              have := (each d hd).2
              omega
            have e1 : (Str.ofString " ").length = 1 := by decide +kernel
            show ((ds.map textP).map Str.length).sum + (ds.map textP).length * (Str.ofString " ").length ≤ 16777216
            rw [e1]
            rw [List.length_map] at this ⊢
            omega
          · rw [len_app, len_app] at tl
            have l40'' : (leaf (.tuple ds)).length ≤ 40 := l40
            refine ⟨_, rfl, ?_, _, rfl, .inl ⟨_, rfl, ?_, _, rfl, ?_, _, rfl, ?_, k H4 sm⟩⟩
            · decide +kernel
            · show (Txt.join sp1 (ds.map textP)).length ≤ sizeLine
              omega
            · show (Str.empty ++ (Str.ofString "( ") ++ Txt.join sp1 (ds.map textP)).length ≤ sizeLine
              rw [len_app]
              omega
            · show (Str.empty ++ (Str.ofString "( ") ++ Txt.join sp1 (ds.map textP) ++ (Str.ofString " )")).length ≤ sizeLine
              rw [len_app, len_app]
              omega
theorem pt_ok {c : Addr} (D : DefAt K mg "plan_text" s_plan_text c) (T : Txt K mg) : ∀ n : Nat, Cal P w K mg base CX0 (n + 2) "plan_text" ["plan"] (spPT K n)
  | 0 => pt_step D T 0 (Nat.le_refl _) (pt_none D) (fun _ _ _ _ _ _ _ _ _ _ h _ => by omega)
  | n + 1 => pt_step D T (n + 1) (by omega) (pt_ok D T n) (fun v d m H Q E h1 h2 h3 h4 h5 q => ⟨v, d, m, rfl, h1, h2, h3, h4, by omega, q⟩)

theorem scWP : FnScope ["lengths", "ways", "plan"] ["lengths", "ways", "plan"] (defScope s_written_plan) := ⟨rfl, rfl, rfl, by decide +kernel, rfl, by decide +kernel, by decide +kernel⟩
def spWP (K : PySem.W.Frag) (p : Addr) : Sp := fun vs H Q _ => ∃ (vl vp : V) (ls : List Nat) (n : Nat) (d : PyData), vs = [vl, .int (n : Nat), vp] ∧ Dp K H vl (lensD ls) ∧ OkLens ls ∧ 2 ≤ n ∧ n ≤ 6 ∧ Dp K H vp d ∧ OkPlan ls.length n d ∧ Tab H p ∧ ∀ H', Same H H' → Q (.str (textP d)) H'
theorem written_plan_ok {c p : Addr} (D : DefAt K mg "written_plan" s_written_plan c) (cM : Cal P w K mg base CX0 4 "check_merging" ["lengths", "ways"] (spCheckMerging K p)) (cP : Cal P w K mg base CX0 2 "check_plan" ["lengths", "ways", "plan"] (spCheckPlan K))
    (cT : Cal P w K mg base CX0 42 "plan_text" ["plan"] (spPT K 40)) : Cal P w K mg base CX0 43 "written_plan" ["lengths", "ways", "plan"] (spWP K p) := by
  have sc := scWP
  refine def_ok0 D sc (fun vs H Q E h => ?_) (fun _ _ _ _ _ _ us hl => match us, hl with | [_, _, _], _ => rfl) (fun f A outer s H vs Q E hr h => ?_)
  · obtain ⟨vl, vp, ls, n, d, rfl, _⟩ := h
    rfl
  · obtain ⟨vl, vp, ls, n, d, rfl, hl, okl, n2, n6, hp, ok, ht, k⟩ := h
    refine ⟨_, (pss_cons (ps_expr (pe_c cM hr (by decide) (by rfl) pass0 (pa_cons (pv 0) (pa_cons (pv 1) pa_nil)))) (pss_cons (ps_expr (pe_c cP hr (by decide) (by rfl) pass0 (pa_cons (pv 0) (pa_cons (pv 1) (pa_cons (pv 2) pa_nil))))) (pss_one (ps_ret (pe_c cT hr (by decide) (by rfl) pass0 (pa_cons (pv 2) pa_nil)))))), ?_⟩
    have l40 := okl.most
    have dd := ok.depth
    have ll : (leaf d).length ≤ 40 := by rw [ok.all.length_eq, List.length_range]; exact l40
    refine ⟨_, rfl, _, rfl, vl, ls, _, rfl, hl, okl, by omega, by omega, ht, fun H1 s1 => ?_⟩
    refine ⟨_, rfl, _, rfl, _, rfl, vl, vp, ls, n, d, rfl, dp_same s1 _ hl, dp_same s1 _ hp, ok, l40, n6, fun H2 s2 => ?_⟩
    exact ⟨_, rfl, vp, d, n, rfl, dp_same s2 _ (dp_same s1 _ hp), ok.ok, n6, ll, by omega, fun H3 s3 => k H3 ((s1.trans s2).trans s3)⟩

theorem scRP : FnScope ["lengths", "ways", "text", "plan"] ["lengths", "ways", "text"] (defScope s_read_plan) := ⟨rfl, rfl, rfl, by decide +kernel, rfl, by decide +kernel, by decide +kernel⟩
def spRP (K : PySem.W.Frag) (p pF : Addr) : Sp := fun vs H Q _ => ∃ (vl : V) (ls : List Nat) (n : Nat) (d : PyData), vs = [vl, .int (n : Nat), .str (textP d)] ∧ Dp K H vl (lensD ls) ∧ OkLens ls ∧ 2 ≤ n ∧ n ≤ 6 ∧ OkPlan ls.length n d ∧ Tab H p ∧ Tab H pF ∧ ∀ H' v, Same H H' → Dp K H' v d → Q v H'
theorem read_plan_ok {c p pF : Addr} (D : DefAt K mg "read_plan" s_read_plan c) (cM : Cal P w K mg base CX0 4 "check_merging" ["lengths", "ways"] (spCheckMerging K p)) (cP : Cal P w K mg base CX0 2 "check_plan" ["lengths", "ways", "plan"] (spCheckPlan K))
    (cT : Cal P w K mg base CX0 4 "put_together" ["words"] (spPut K pF)) : Cal P w K mg base CX0 5 "read_plan" ["lengths", "ways", "text"] (spRP K p pF) := by
  have sc := scRP
  refine def_ok0 D sc (fun vs H Q E h => ?_) (fun _ _ _ _ _ _ us hl => match us, hl with | [_, _, _], _ => rfl) (fun f A outer s H vs Q E hr h => ?_)
  · obtain ⟨vl, ls, n, d, rfl, _⟩ := h
    rfl
  · obtain ⟨vl, ls, n, d, rfl, hl, okl, n2, n6, ok, ht, htF, k⟩ := h
    refine ⟨_, (pss_cons (ps_expr (pe_c cM hr (by decide) (by rfl) pass0 (pa_cons (pv 0) (pa_cons (pv 1) pa_nil)))) (pss_cons (ps_set (i := 3) sc.nd rfl (Or.inl rfl) (pe_c cT hr (by decide) (by rfl) pass0 (pa_cons (pe_bm PySem.F.plainAttrs_str PySem.F.slot_str_split PySem.F.type_str_split mt_split (pv 2) (pa_cons pe_str pa_nil)) pa_nil))) (pss_cons (ps_expr (pe_c cP hr (by decide) (by rfl) pass0 (pa_cons (pv 0) (pa_cons (pv 1) (pa_cons (pv 3) pa_nil))))) (pss_one (ps_ret (pv 3)))))), ?_⟩
    have l40 := okl.most
    have ll : (leaf d).length ≤ 40 := by rw [ok.all.length_eq, List.length_range]; exact l40
    have tl := text_len ok.ok
    have big : (1000 : Nat) ≤ sizeLine := by decide
    refine ⟨_, rfl, _, rfl, vl, ls, _, rfl, hl, okl, by omega, by omega, ht, fun H1 s1 => ?_⟩
    refine ⟨_, rfl, rfl, _, _, rfl, rfl, by decide +kernel, by omega, fun W hW => ?_⟩
    have s2 : Same H1 (upd H1 W (.lst ((Txt.split (textP d) sp1).map V.str))) := fun b o e => by
      rw [upd_ne (ne_of_none e hW)]
      exact e
    have s12 := s1.trans s2
    refine ⟨W, d, n, rfl, ?_, ok.ok, n6, ll, s12 _ _ htF, fun H3 v s3 hv => ?_⟩
    · have e : (upd H1 W (.lst ((Txt.split (textP d) sp1).map V.str))) W = some (.lst ((wds d).map V.str)) := by rw [upd_same, split_text ok.ok]
      exact e
    · have s13 := s12.trans s3
      refine ⟨_, rfl, _, rfl, _, rfl, vl, v, ls, n, d, rfl, dp_same s13 _ hl, hv, ok, l40, n6, fun H4 s4 => ?_⟩
      exact ⟨_, rfl, k H4 v (s13.trans s4) (dp_same s4 _ hv)⟩
end
end RS
set_option Elab.async false
set_option maxRecDepth 100000
set_option maxHeartbeats 8000000
set_option pp.maxSteps 400
namespace RS
open PySem PySem.Spec PyProof.Rows L2 GX LM
section
variable {P : Program} {w : World} {K : PySem.W.Frag} {mg : Str → Option Value} {base : Heap}
theorem scTextI : FnScope ["self", "place"] ["self", "place"] (defScope s_BadText_init) := ⟨rfl, rfl, rfl, by decide +kernel, rfl, by decide +kernel, by decide +kernel⟩
theorem init_text {fI C SE : Addr} {fd : FuncData} {mc : Value} (F : L2.Fun K "__init__" "BadText.__init__" s_BadText_init fI fd) (T : OexC K C) (iC : PySem.W.findIn K (.ref C) "__init__" = some (some (.ref fI))) (tI : PySem.W.typeIn K (.ref fI) = some (.type "function")) (hm : mg "BadText" = some (.ref C)) (nf : PySem.W.findIn K (.ref C) "place" = some none)
    (gS : mg "SortError" = some (.ref SE)) (cr : ClX.CRead K SE mc) (cv : PySem.W.findCls K (.ref SE) mc "__init__" = some (.val (.builtin "ValueError.__init__"))) : NumE P w K mg base "BadText" "place" C := by
  have sc := scTextI
  refine ⟨fI, fd, T, iC, tI, ?_, F.binds (fun _ _ _ _ _ _ us hl => match us, hl with | [_, _], _ => rfl), hm⟩
  refine F.ok sc (fun vs H Q E h => ?_) (fun cdv A outer s H vs Q E hr h => ?_)
  · obtain ⟨a, v, rfl, _⟩ := h
    rfl
  · obtain ⟨a, v, rfl, hv, ha, k⟩ := h
    refine ⟨_, (pss_cons (ps_expr (pe_veinitC (by rfl) gS cr cv (pa_cons (pv 0) (pa_cons (pe_joined (.cons pe_str (.cons (pe_fmt (pv 1)) .nil))) pa_nil)))) (pss_one (ps_ost (pv 0) (pv 1)))), ?_⟩
    obtain ⟨z1, z2⟩ := txt_small v hv
    have big : (1000 : Nat) ≤ sizeLine := by decide
    have e0 : (Str.empty ++ Str.ofString "nothing that may stand at place ").length ≤ 100 := by decide +kernel
    refine ⟨_, rfl, _, rfl, by omega, _, rfl, .inr ⟨_, rfl, z2, _, rfl, ?_, a, C, _, rfl, by show 1 ≤ 1000; decide, T, ha, ?_⟩⟩
    · rw [len_app7]
      omega
    · exact ⟨_, rfl, _, rfl, a, C, rfl, T, nf, .inl ⟨ha, fun dx hd ne => k dx hd ne⟩⟩
def zipN (fs : Lvs) : List Fr := fs.map fun f => (f, [])
def spPutA (K : PySem.W.Frag) (p CT : Addr) : Sp := fun vs H Q E => ∃ (W : Addr) (ws : List Str), vs = [.ref W] ∧ H W = some (.lst (ws.map V.str)) ∧ ws ≠ [] ∧ ws.length ≤ 800 ∧ (∀ x ∈ ws, x.length ≤ 1000) ∧ Tab H p ∧
  (∀ i, readW ws = .inl i → ∀ (H' : Hp) (dd : Addr), Same H H' → H' dd = some (.xd [("place", .int (i : Nat))]) → E (.ref CT) (some dd) H') ∧ (∀ d, readW ws = .inr d → ∀ H' v, Same H H' → Dp K H' v d → Q v H')
theorem put_A_ok {c p CT : Addr} (D : DefAt K mg "put_together" s_put_together c) (T : Txt K mg) (NE : NumE P w K mg base "BadText" "place" CT) (cM : Cal P w K mg base CX0 3 "may_stand" ["levels", "word"] (spMayA p)) : Cal P w K mg base (L2.CX P w) 4 "put_together" ["words"] (spPutA K p CT) := by
  have sc := scPut
  refine def_ok D sc (fun vs H Q E h => ?_) (fun _ _ _ _ _ _ us hl => match us, hl with | [_], _ => rfl) (fun f A outer s H vs Q E hr h => ?_)
  · obtain ⟨W, ws, rfl, _⟩ := h
    rfl
  · obtain ⟨W, ws, rfl, hW, hne, l8, lw, ht, kE, kQ⟩ := h
    refine ⟨_, (pss_cons (ps_set (i := 1) sc.nd rfl (Or.inl rfl) (pe_lst (pa_cons (pe_lst pa_nil) pa_nil))) (pss_cons (ps_for (passes_of rfl) rfl (pi_enum (by rfl) T.enumerate (pa_cons (pv 0) pa_nil)) (pg_tup (by rfl) (pgs_cons (pg_name (i := 2) sc.nd rfl (Or.inl rfl)) (pgs_cons (pg_name (i := 3) sc.nd rfl (Or.inl rfl)) pgs_nil))) (pss_cons (ps_if (pt_not (pt_val (pe_c cM hr (by decide) (by rfl) pass0 (pa_cons (pv 1) (pa_cons (pv 3) pa_nil))))) (pss_one (ps_raise rfl (takes_of rfl rfl rfl rfl) (pmk_num NE (hr.mono (by decide)) (by rfl) (pv 2)))) pss_nil) (pss_one (ps_if (pt_cmpR op_eq (pv 3) pe_str (nomark _)) (pss_one (ps_expr (pe_bm PySem.F.plainAttrs_list PySem.F.slot_list_append PySem.F.type_list_append mt_append (pv 1) (pa_cons (pe_lst pa_nil) pa_nil)))) (pss_one (ps_if (pt_cmpR op_eq (pv 3) pe_str (nomark _)) (pss_cons (ps_set (i := 4) sc.nd rfl (Or.inl rfl) (pe_bm0 PySem.F.plainAttrs_list PySem.F.slot_list_pop PySem.F.type_list_pop mt_pop (pv 1))) (pss_one (ps_expr (pe_bm PySem.F.plainAttrs_list PySem.F.slot_list_append PySem.F.type_list_append mt_append (pe_ix ix_list (pv 1) (pe_un un_neg pe_int) (fun _ _ => rfl)) (pa_cons (pe_callTy call_tuple_of (by rfl) T.tuple_ (by decide +kernel) (pa_cons (pv 4) pa_nil)) pa_nil))))) (pss_one (ps_expr (pe_bm PySem.F.plainAttrs_list PySem.F.slot_list_append PySem.F.type_list_append mt_append (pe_ix ix_list (pv 1) (pe_un un_neg pe_int) (fun _ _ => rfl)) (pa_cons (pe_callTy call_int_str (by rfl) T.int_ (by decide +kernel) (pa_cons (pv 3) pa_nil)) pa_nil)))))))))) (pss_cons (ps_if (pt_cmpR op_gt (pe_callB call_len_seq (by rfl) T.len PySem.boot_len (pa_cons (pv 1) pa_nil)) pe_int (nomark _)) (pss_one (ps_raise rfl (takes_of rfl rfl rfl rfl) (pmk_num NE (hr.mono (by decide)) (by rfl) (pe_callB call_len_seq (by rfl) T.len PySem.boot_len (pa_cons (pv 0) pa_nil))))) pss_nil) (pss_one (ps_ret (pe_ix ix_list (pe_ix ix_list (pv 1) pe_int (fun _ _ => rfl)) pe_int (fun _ _ => rfl))))))), ?_⟩
    refine ⟨Nat.zero_le _, fun e0 he0 => ⟨by show 1 ≤ sizeLine; decide, fun Lv hLv => ?_⟩⟩
    have hLv0 := upd_no hLv
    have nLe : Lv ≠ e0 := fun z => by rw [z, upd_same] at hLv; cases hLv
    have s0 : Same H (upd (upd H e0 (.lst [])) Lv (.lst [.ref e0])) := fun b o e => by
      rw [upd_ne (ne_of_none e hLv0), upd_ne (ne_of_none e he0)]
      exact e
    refine ⟨_, rfl, W, _, rfl, SqL.of (s0 _ _ hW), for_by (ws.map V.str).length (fun i σ H' => ∃ (as : List Addr) (fs : Lvs) (v2 v3 v4 : Option V), σ = [some (.ref W), some (.ref Lv), v2, v3, v4] ∧ Same H H' ∧ H' Lv = some (.lst ((as.map V.ref).reverse)) ∧
      Lv ∉ as ∧ as.Nodup ∧ (∀ a ∈ as, H a = none) ∧ LevAt K H' as (zipN fs) ∧ OkF i fs ∧ runF ws 0 [[]] = runF (ws.drop i) i fs)
      ⟨[e0], [[]], none, none, none, rfl, s0, upd_same, by simpa using nLe, by simp, by simpa using he0, ⟨⟨[], (upd_ne (Ne.symm nLe)).trans upd_same, .nil, rfl⟩, trivial⟩, .start, by rw [List.drop_zero]⟩ ?_ ?_⟩
    · rintro i σ H' hi ⟨as, fs, v2, v3, v4, rfl, sm, hL, nL, nd, fz, lv, okf, run⟩
      have hi' : i < ws.length := by simpa using hi
      have hWt := sm _ _ hW
      refine ⟨⟨_, V.str ws[i], SqL.of hWt, by rw [List.getElem?_map, List.getElem?_eq_getElem hi']; rfl⟩, fun y H2 ⟨TT, x, ey, hT, eH, hx⟩ => ?_⟩
      subst ey eH
      have ex := hx _ (SqL.of hWt)
      rw [List.getElem?_map, List.getElem?_eq_getElem hi'] at ex
      cases ex
      have gi : ws[i]? = some ws[i] := List.getElem?_eq_getElem hi'
      have lx1 := lw _ (List.mem_of_getElem? gi)
      rw [runF_step gi] at run
      have sT : Same H' (upd H' TT (.tup [.int (i : Nat), .str ws[i]])) := sameNew (Same.refl H') hT
      have sm2 := sm.trans sT
      have hL2 := sT _ _ hL
      have lv2 := lv.same sT
      generalize ws[i] = x at gi lx1 run sT sm2 hL2 lv2 ⊢
      refine ⟨TT, _, rfl, SqT.of upd_same, rfl, _, _, rfl, _, _, rfl, rfl, ?_⟩
      generalize upd H' TT (.tup [.int (i : Nat), .str x]) = H2 at sm2 hL2 lv2 ⊢
      have la := lv2.len
      have lf : (zipN fs).length = fs.length := List.length_map _
      have wle := wlF_len fs
      have wn := okf.n
      cases as with
      | nil =>
        cases fs with
        | nil => exact absurd okf.n (by show ¬ 0 = i + 1; omega)
        | cons _ _ => exact lv2.elim
      | cons a as =>
        cases fs with
        | nil => exact lv2.elim
        | cons f fs =>
          obtain ⟨⟨xs, hA, hxs, nl⟩, lvs⟩ := lv2
          rw [List.map_cons, List.reverse_cons] at hL2
          have naL : a ≠ Lv := fun z => nL (by rw [z]; exact List.mem_cons_self)
          have nas : a ∉ as := (List.nodup_cons.mp nd).1
          have nda : as.Nodup := (List.nodup_cons.mp nd).2
          have nLs : Lv ∉ as := fun z => nL (List.mem_cons_of_mem _ z)
          have lxs : xs.length = f.length := dpLen hxs
          have fa : H a = none := fz a List.mem_cons_self
          have fzs : ∀ b ∈ as, H b = none := fun b hb => fz b (List.mem_cons_of_mem _ hb)
          have wfl := wls_len f
          have wn2 : wls f + 1 + wlF fs = i + 1 := wn
          have las : as.length = fs.length := by
            have := lvs.len
            rw [show (List.map (fun f => (f, ([] : List PyData))) fs).length = fs.length from List.length_map _] at this
            exact this
          have wls' := wlF_len fs
          have sas : (as.map V.ref).reverse.length ≤ 900 := by
            rw [List.length_reverse, List.length_map]
            omega
          have hT2 : Tab H2 p := sm2 _ _ ht
          have ey : (as.map V.ref).reverse.isEmpty = fs.isEmpty := by
            cases as with
            | nil => cases fs with
              | nil => rfl
              | cons _ _ => cases las
            | cons b as => cases fs with
              | nil => cases las
              | cons _ _ => simp
          have exs : xs.isEmpty = f.isEmpty := by
            cases xs with
            | nil => cases f with
              | nil => rfl
              | cons _ _ => cases lxs
            | cons b as => cases f with
              | nil => cases lxs
              | cons _ _ => rfl
          refine ⟨_, rfl, _, rfl, Lv, a, x, _, xs, rfl, hL2, hA, lx1, hT2, _, rfl, ?_⟩
          rw [ey, exs]
          by_cases hm : mayF (f :: fs) x = true
          · have hm' : mayB fs.isEmpty f.isEmpty x = true := hm
            rw [if_pos hm] at run
            have okn := okf.step hm
            rw [hm']
            refine iteF ⟨_, rfl, rfl, _, rfl, ?_⟩
            have hnx : ∀ y : Str, x ≠ y → decide (V.str x = V.str y) = false := fun y h => decide_eq_false fun z => h (V.str.inj z)
            have nlf : noLs f = true := nl
            by_cases co : x = opS
            · have es : stepF (f :: fs) x = [] :: f :: fs := if_pos co
              rw [es] at okn run
              refine iteT' (decide_eq_true (by rw [co]; rfl)) ⟨_, rfl, .inl ⟨rfl, _, SqL.of hL2⟩, Nat.zero_le _, fun e he => ?_⟩
              have sE : Same H2 (upd H2 e (.lst [])) := sameNew (Same.refl H2) he
              have hLE := sE _ _ hL2
              have neL : Lv ≠ e := fun z => by rw [← z, hL2] at he; cases he
              have lv3 : LevAt K H2 (a :: as) (zipN (f :: fs)) := ⟨⟨xs, hA, hxs, nl⟩, lvs⟩
              have lvE := LevAt.same sE lv3
              have ne : e ∉ a :: as := fun z => by
                obtain ⟨_, q⟩ := LevAt.mem lv3 z
                rw [he] at q
                cases q
              refine ⟨Lv, _, _, rfl, rfl, hLE, small1000 ?_, ?_⟩
              · rw [List.length_append, List.length_singleton]
                omega
              refine ⟨e :: a :: as, [] :: f :: fs, _, _, _, rfl, fun c o q => ?_, ?_, ?_, List.nodup_cons.mpr ⟨ne, nd⟩, ?_, ⟨⟨[], (upd_ne (Ne.symm neL)).trans upd_same, .nil, rfl⟩, lvE.other hLE nL⟩, okn, run⟩
              · rw [upd_ne (ne_of_none q (upd_no hLv))]
                exact sE _ _ (sm2 _ _ q)
              · rw [upd_same, List.map_cons, List.reverse_cons, List.map_cons, List.reverse_cons]
              · intro z
                rcases List.mem_cons.mp z with z | z
                · exact neL z
                · exact nL z
              · intro c hc
                rcases List.mem_cons.mp hc with z | z
                · rw [z]
                  exact sm2.free he
                · exact fz c z
            refine iteF' (hnx _ co) ⟨_, rfl, rfl, _, rfl, ?_⟩
            by_cases cc : x = clS
            · have es : stepF (f :: fs) x = popF (f :: fs) := by
                unfold stepF
                rw [if_neg co, if_pos cc]
              rw [es] at okn run
              have mb : fs.isEmpty = false ∧ f.isEmpty = false := by
                have h := hm'
                unfold mayB at h
                rw [if_pos cc] at h
                revert h
                cases fs.isEmpty <;> cases f.isEmpty <;> simp
              cases fs with
              | nil => cases mb.1
              | cons g fs =>
                cases as with
                | nil => exact lvs.elim
                | cons a2 as =>
                  obtain ⟨⟨xs2, hA2, hxs2, nl2⟩, lvs2⟩ := lvs
                  have okn : OkF (i + 1) ((g ++ [.tuple f]) :: fs) := okn
                  have run : runF ws 0 [[]] = runF (ws.drop (i + 1)) (i + 1) ((g ++ [.tuple f]) :: fs) := run
                  have na2 : a2 ∉ as := (List.nodup_cons.mp nda).1
                  have na2L : a2 ≠ Lv := fun z => nLs (by rw [z]; exact List.mem_cons_self)
                  have naa2 : a ≠ a2 := fun z => nas (by rw [z]; exact List.mem_cons_self)
                  have fa2 : H a2 = none := fzs a2 List.mem_cons_self
                  refine iteT' (decide_eq_true (by rw [cc]; rfl)) ⟨_, rfl, .inl ⟨rfl, _, SqL.of hL2⟩, Lv, _, .ref a, rfl, rfl, hL2, by simp, ?_⟩
                  rw [List.dropLast_concat, List.map_cons, List.reverse_cons]
                  have hL3 : upd H2 Lv (.lst ((as.map V.ref).reverse ++ [.ref a2])) Lv = some (.lst ((as.map V.ref).reverse ++ [.ref a2])) := upd_same
                  have hA3 : upd H2 Lv (.lst ((as.map V.ref).reverse ++ [.ref a2])) a = some (.lst xs) := (upd_ne naL).trans hA
                  have hA23 : upd H2 Lv (.lst ((as.map V.ref).reverse ++ [.ref a2])) a2 = some (.lst xs2) := (upd_ne na2L).trans hA2
                  have hxs3 := dpAll_upd (u := (as.map V.ref).reverse ++ [.ref a2]) hL2 _ nl hxs
                  have hxs23 := dpAll_upd (u := (as.map V.ref).reverse ++ [.ref a2]) hL2 _ nl2 hxs2
                  have lvs3 := lvs2.other (u := (as.map V.ref).reverse ++ [.ref a2]) hL2 fun z => nLs (List.mem_cons_of_mem _ z)
                  have sm3 : Same H (upd H2 Lv (.lst ((as.map V.ref).reverse ++ [.ref a2]))) := fun b o e => by
                    rw [upd_ne (ne_of_none e (upd_no hLv))]
                    exact sm2 b o e
                  generalize upd H2 Lv (.lst ((as.map V.ref).reverse ++ [.ref a2])) = H3 at hL3 hA3 hA23 hxs3 hxs23 lvs3 sm3 ⊢
                  refine ⟨_, rfl, _, rfl, Lv, _, _, _, rfl, rfl, SqL.of hL3, atI_last _ _, .inl ⟨rfl, _, SqL.of hA23⟩, _, rfl, a, xs, rfl, .inl ⟨SqL.of hA3, fun tp htp => ?_⟩⟩
                  have s4 : Same H3 (upd H3 tp (.tup xs)) := sameNew (Same.refl H3) htp
                  have hA24 := s4 _ _ hA23
                  have lx2 : xs2.length = g.length := dpLen hxs2
                  have wg := wls_len g
                  have wn3 : wls f + 1 + (wls g + 1 + wlF fs) = i + 1 := wn
                  refine ⟨a2, xs2, _, rfl, rfl, hA24, small1000 (by omega), ?_⟩
                  have nlb : noLs [PyData.tuple f] = true := by
                    simp [noLs, noL, nlf]
                  have nlg : noLs (g ++ [PyData.tuple f]) = true := noLs_app nl2 nlb
                  refine ⟨a2 :: as, (g ++ [.tuple f]) :: fs, _, _, _, rfl, fun c o e => ?_, ?_, nLs, nda, fzs, ⟨⟨_, upd_same, dpAll_upd hA24 _ nlg (dpApp (dpAll_same s4 _ hxs23) (.cons (.tup (SqT.of upd_same) (dpAll_same s4 _ hxs3)) .nil)), nlg⟩, (lvs3.same s4).other hA24 na2⟩, okn, run⟩
                  · rw [upd_ne (ne_of_none e fa2)]
                    exact s4 _ _ (sm3 _ _ e)
                  · rw [upd_ne (Ne.symm na2L), List.map_cons, List.reverse_cons]
                    exact s4 _ _ hL3
            · have es : stepF (f :: fs) x = (f ++ [.int ((numO x).getD 0 : Nat)]) :: fs := by
                unfold stepF
                rw [if_neg co, if_neg cc]
                rfl
              rw [es] at okn run
              obtain ⟨m, em⟩ : ∃ m, numO x = some m := by
                have h := hm'
                unfold mayB at h
                rw [if_neg cc, decide_eq_false co, Bool.false_or] at h
                split at h
                · cases h
                · exact Option.isSome_iff_exists.mp h
              obtain ⟨hm1, rfl⟩ := numO_some em
              rw [em] at okn run
              have okn : OkF (i + 1) ((f ++ [.int (m : Nat)]) :: fs) := okn
              obtain ⟨_, h8, _, _, h5⟩ := fig_num m hm1
              refine iteF' (hnx _ cc) ⟨_, rfl, _, rfl, Lv, _, _, _, rfl, rfl, SqL.of hL2, atI_last _ _, .inl ⟨rfl, _, SqL.of hA⟩, _, rfl, numS m, _, rfl, h8, by omega, ?_⟩
              have nl' : noLs (f ++ [PyData.int (m : Nat)]) = true := noLs_app nl rfl
              refine ⟨a, xs, _, rfl, rfl, hA, small1000 (by omega), ?_⟩
              refine ⟨a :: as, (f ++ [PyData.int (m : Nat)]) :: fs, _, _, _, rfl, fun c o e => ?_, ?_, nL, nd, fz, ⟨⟨_, upd_same, dpAll_upd hA _ nl' (dpApp hxs (.cons (.int _) .nil)), nl'⟩, lvs.other hA nas⟩, okn, run⟩
              · rw [upd_ne (ne_of_none e fa)]
                exact sm2 _ _ e
              · rw [upd_ne (Ne.symm naL), List.map_cons, List.reverse_cons]
                exact hL2
          · rw [if_neg hm] at run
            have hm' : mayB fs.isEmpty f.isEmpty x = false := by
              have : ¬ mayB fs.isEmpty f.isEmpty x = true := hm
              simpa using this
            rw [hm']
            refine iteT ⟨_, rfl, num_end (n := i) (by omega) fun dd hd => kE i ?_ _ dd (sameNew sm2 hd) upd_same⟩
            unfold readW
            rw [run]
    · rintro σ H' ⟨as, fs, v2, v3, v4, rfl, sm, hL, nL, nd, fz, lv, okf, run⟩
      refine ⟨⟨_, SqL.of (sm _ _ hW), Nat.le_refl _⟩, ?_⟩
      rw [List.length_map] at okf run
      rw [List.drop_length] at run
      have run : runF ws 0 [[]] = .inr fs := run
      have la := lv.len
      rw [show (zipN fs).length = fs.length from List.length_map _] at la
      have hlen : ((as.map V.ref).reverse).length = fs.length := by rw [List.length_reverse, List.length_map, la]
      refine ⟨_, rfl, Lv, _, rfl, .inl (SqL.of hL), _, _, rfl, rfl, _, rfl, ?_⟩
      rw [hlen]
      rcases okf.end_ (n := ws.length) (List.length_pos_iff.mpr hne) with ⟨d, rfl, pd, wd, he⟩ | ⟨h2, he⟩
      · refine iteF' (decide_eq_false (by show ¬ ((1 : Nat) : Int) > 1; omega)) ?_
        match as, lv with
        | [a], ⟨⟨xs, hA, hxs, nl⟩, _⟩ =>
          cases hxs with
          | @cons v _ _ _ hv hn =>
            cases hn
            refine ⟨_, rfl, Lv, _, 0, .ref a, rfl, rfl, SqL.of hL, rfl, a, _, 0, v, rfl, rfl, SqL.of hA, rfl, ?_⟩
            refine kQ d ?_ _ v sm hv
            unfold readW
            rw [run]
            exact he
      · refine iteT' (decide_eq_true (by omega)) ?_
        refine ⟨_, rfl, W, _, rfl, .inl (SqL.of (sm _ _ hW)), ?_⟩
        rw [List.length_map]
        refine num_end (n := ws.length) (by omega) fun dd hd => kE ws.length ?_ _ dd (sameNew sm hd) upd_same
        unfold readW
        rw [run]
        exact he
end
end RS
set_option Elab.async false
set_option maxRecDepth 100000
set_option maxHeartbeats 4000000
namespace RS
open PySem PySem.Spec PyProof.Rows L2 GX

/-! ### kinds, values, rows -/
/-- the name of a kind: true a word's, false a number's -/
def kindS (b : Bool) : Str := if b then "word" else "number"
def kindsD (ks : List Bool) : PyData := .tuple (ks.map fun b => .str (kindS b))
theorem kindS_word (b : Bool) : decide (V.str (kindS b) = V.str "word") = b := by
  cases b
  · decide +kernel
  · decide +kernel
theorem isNum_int {K : PySem.W.Frag} {H : Hp} {v : V} {d : PyData} (h : Dp K H v d) (e : isNum d = true) : ∃ n, d = .int n ∧ v = .int n := by
  cases h <;> first | exact ⟨_, rfl, rfl⟩ | (simp [isNum, isI, isT, tyN] at e)

end RS
set_option Elab.async false
set_option maxRecDepth 100000
set_option maxHeartbeats 4000000
namespace RS
open PySem PySem.Spec PyProof.Rows L2 GX

/-! ### orders -/
def wayS (b : Bool) : Str := if b then "down" else "up"
def partD (p : Nat × Bool) : PyData := .tuple [.int p.1, .str (wayS p.2)]
def orderD (os : List (Nat × Bool)) : PyData := .list (os.map partD)
structure OkOrder (n : Nat) (os : List (Nat × Bool)) : Prop where
  some_ : os ≠ []
  col : ∀ p ∈ os, p.1 < n
  nd : (os.map (·.1)).Nodup
def rowsD (rs : List (List PyData)) : PyData := .list (rs.map .tuple)

theorem inV_kind (b : Bool) : inV (.str (kindS b)) [.str "number", .str "word"] = true := by
  cases b
  · decide +kernel
  · decide +kernel
theorem inV_way (b : Bool) : inV (.str (wayS b)) [.str "up", .str "down"] = true := by
  cases b
  · decide +kernel
  · decide +kernel

theorem nodup_nat {l : List Nat} (h : l.Nodup) {i j c : Nat} (a : l[i]? = some c) (b : l[j]? = some c) : i = j := by
  obtain ⟨h1, e1⟩ := List.getElem?_eq_some_iff.mp a
  obtain ⟨h2, e2⟩ := List.getElem?_eq_some_iff.mp b
  exact (List.getElem_inj h).mp (e1.trans e2.symm)
section
variable {P : Program} {w : World} {K : PySem.W.Frag} {mg : Str → Option Value} {base : Heap}
theorem scIsPart : FnScope ["kinds", "part", "column", "way"] ["kinds", "part"] (defScope sIsPart) := ⟨rfl, rfl, rfl, by decide +kernel, rfl, by decide +kernel, by decide +kernel⟩
def spPart (K : PySem.W.Frag) : Sp := fun vs H Q _ => ∃ (vk vp : V) (ks : List Bool) (p : Nat × Bool), vs = [vk, vp] ∧ Dp K H vk (kindsD ks) ∧ Dp K H vp (partD p) ∧ p.1 < ks.length ∧ Q (.bl true) H
theorem is_part_ok {c : Addr} (D : DefAt K mg "is_part" sIsPart c) (T : Txt K mg) (cN : Cal P w K mg base CX0 1 "is_number" ["value"] (spNum K)) : Cal P w K mg base CX0 2 "is_part" ["kinds", "part"] (spPart K) := by
  have sc := scIsPart
  obtain ⟨aW, hW, hWS⟩ := T.ways
  refine def_ok0 D sc (fun vs H Q E h => ?_) (fun _ _ _ _ _ _ us hl => match us, hl with | [_, _], _ => rfl) (fun f A outer s H vs Q E hr h => ?_)
  · obtain ⟨vk, vp, ks, p, rfl, _⟩ := h
    rfl
  · obtain ⟨vk, vp, ks, ⟨c, b⟩, rfl, hk, hp, hc, k⟩ := h
    refine ⟨_, (pss_cons (ps_if ((pw_or (pt_not (pt_val (pe_callB call_isiD (by rfl) T.isinstance (by decide +kernel) (pa_cons (pv 1) (pa_cons (pe_bltn (v := V.ty "tuple") (u := Value.type "tuple") (by rfl) T.tuple_ (by decide +kernel) rfl) pa_nil))))) (pw_or1 (pt_cmpR op_ne (pe_callB call_lenD (by rfl) T.len PySem.boot_len (pa_cons (pv 1) pa_nil)) pe_int (nomark _)))).pt) (pss_one (ps_ret pe_bl)) pss_nil) (pss_cons (ps_asg (pv 1) (pg_tup (by rfl) (pgs_cons (pg_name (i := 2) sc.nd rfl (Or.inl rfl)) (pgs_cons (pg_name (i := 3) sc.nd rfl (Or.inl rfl)) pgs_nil)))) (pss_one (ps_ret (pe_and (pe_c cN hr (by decide) (by rfl) pass0 (pa_cons (pv 2) pa_nil)) (pe_and (pe_chain op_le op_lt pe_int (pv 2) (pe_callB call_lenD (by rfl) T.len PySem.boot_len (pa_cons (pv 0) pa_nil))) (pe_one (pe_cmpR op_in_seq (pv 3) (pe_glob (v := V.ref aW) (by rfl) hW rfl) (by rfl))))))))), ?_⟩
    refine ⟨_, rfl, _, _, _, rfl, by simp, hp, _, rfl, ?_⟩
    refine iteF ⟨_, rfl, _, _, 2, rfl, hp, rfl, rfl, _, rfl, ?_⟩
    refine iteF ⟨_, rfl, ?_⟩
    cases hp with
    | @tup a xs _ hS hI =>
      cases hI with
      | cons h1 hI =>
        cases hI with
        | cons h2 hI =>
          cases hI
          cases h1
          cases h2
          refine ⟨a, _, rfl, hS, rfl, _, _, rfl, _, _, rfl, rfl, ?_⟩
          refine ⟨_, rfl, _, _, rfl, .int (c : Int), _, rfl, ?_⟩
          have hn : isNum (.int (c : Int)) = true := by simp [isNum, isI, isT, tyN]
          rw [hn]
          refine iteT ?_
          refine ⟨_, rfl, _, _, rfl, rfl, _, rfl, ?_⟩
          have h0 : decide ((0 : Int) ≤ (c : Int)) = true := decide_eq_true (Int.natCast_nonneg c)
          rw [h0]
          refine iteT ⟨_, rfl, _, _, (ks.map fun b => PyData.str (kindS b)).length, rfl, hk, rfl, _, _, rfl, rfl, _, rfl, ?_⟩
          have h3 : decide ((c : Int) < ((ks.map fun b => PyData.str (kindS b)).length : Nat)) = true := decide_eq_true (by
            rw [List.length_map]
            exact Int.ofNat_lt.mpr hc)
          rw [h3]
          refine iteT ⟨_, rfl, aW, _, rfl, .inr (hWS _), rfl, rfl, ?_⟩
          show Q (.bl (if false then _ else inV (.str (wayS b)) [.str "up", .str "down"])) H
          rw [inV_way]
          exact k

theorem scCheckKinds : FnScope ["kinds", "kind"] ["kinds"] (defScope sCheckKinds) := ⟨rfl, rfl, rfl, by decide +kernel, rfl, by decide +kernel, by decide +kernel⟩
def spCheckKinds (K : PySem.W.Frag) (p : Addr) : Sp := fun vs H Q _ => ∃ (vk : V) (ks : List Bool), vs = [vk] ∧ Dp K H vk (kindsD ks) ∧ 1 ≤ ks.length ∧ ks.length ≤ 4 ∧ Tab H p ∧ Q .non H
theorem check_kinds_ok {c p : Addr} (D : DefAt K mg "check_kinds" sCheckKinds c) (T : Txt K mg) (TB : GxR.TabB base mg c p) : Cal P w K mg base CX0 2 "check_kinds" ["kinds"] (spCheckKinds K p) := by
  have sc := scCheckKinds
  obtain ⟨aK, hK, hKS⟩ := T.kinds
  obtain ⟨tCol, hC⟩ := T.columns
  refine def_ok0 D sc (fun vs H Q E h => ?_) (fun _ _ _ _ _ _ us hl => match us, hl with | [_], _ => rfl) (fun f A outer s H vs Q E hr h => ?_)
  · obtain ⟨vk, ks, rfl, _⟩ := h
    rfl
  · obtain ⟨vk, ks, rfl, hk, h1, h4, ht, k⟩ := h
    refine ⟨_, (pss_cons (ps_if ((pw_or (pt_not (pt_val (pe_callB call_isiD (by rfl) T.isinstance (by decide +kernel) (pa_cons (pv 0) (pa_cons (pe_bltn (v := V.ty "tuple") (u := Value.type "tuple") (by rfl) T.tuple_ (by decide +kernel) rfl) pa_nil))))) (pw_or1 (pt_not (pt_chain op_le op_le pe_int (pe_callB call_lenD (by rfl) T.len PySem.boot_len (pa_cons (pv 0) pa_nil)) (pe_glob (v := V.int 4) (by rfl) hC ⟨_, rfl⟩))))).pt) pss_never pss_nil) (pss_one (ps_if (pt_not (pt_val (pe_all (own := [("kind", 1)]) (te := tOp (rIn K false) (tVar 1) (tC (.ref aK))) hr rfl T.all TB rfl rfl sc.nd (blkOk_by (N := ["kinds", "kind"]) (sc := defScope sCheckKinds) (own := [("kind", 1)]) (by decide +kernel)) (by decide +kernel) rfl rfl (pi_tup (pv 0)) (fun _ _ _ _ _ _ _ => (pg_name (i := 1) sc.nd rfl (Or.inl rfl))) (fun _ _ _ _ _ _ _ hr => pe_cmpR op_in_seq (pv 1) (pe_glob (v := V.ref aK) (by rfl) hK rfl) (by rfl))))) pss_never pss_nil))), ?_⟩
    refine ⟨_, rfl, _, _, _, rfl, by simp, hk, _, rfl, ?_⟩
    refine iteF ⟨_, rfl, _, _, (ks.map fun b => PyData.str (kindS b)).length, rfl, hk, rfl, _, _, rfl, rfl, _, rfl, ?_⟩
    rw [List.length_map]
    have e1 : decide ((1 : Int) ≤ (ks.length : Nat)) = true := decide_eq_true (by omega)
    have e2 : decide (((ks.length : Nat) : Int) ≤ 4) = true := decide_eq_true (by omega)
    rw [e1]
    refine iteT ⟨_, _, rfl, rfl, _, rfl, ?_⟩
    rw [e2]
    refine iteF ?_
    cases hk with
    | @tup a xs _ hS hI =>
      refine ⟨_, rfl, a, rfl, ⟨xs, hS⟩, ht, ?_⟩
      have lx : xs.length = ks.length := by rw [dpLen hI, List.length_map]
      refine all_by xs.length (fun i H' => H' = H) rfl (fun i H' hi e => ?_) (fun H' e => ?_)
      · subst e
        refine ⟨⟨xs, xs[i], hS, List.getElem?_eq_getElem hi⟩, fun y H2 ⟨e, hy⟩ => ?_⟩
        subst e
        have ey := hy xs hS
        obtain ⟨d, ed, hd⟩ := dpGet hI ey
        obtain ⟨b, rfl⟩ : ∃ b, d = PyData.str (kindS b) := by
          rw [List.getElem?_map] at ed
          cases q : ks[i]? with
          | none => rw [q] at ed; cases ed
          | some b => rw [q] at ed; exact ⟨b, (Option.some.inj ed).symm⟩
        cases hd
        refine ⟨rfl, _, rfl, aK, _, rfl, .inr (hKS _), rfl, rfl, ?_⟩
        refine ⟨true, ?_, fun _ => .mk hi rfl, fun z => nomatch z⟩
        show V.bl (if false then _ else inV (.str (kindS b)) [.str "number", .str "word"]) = _
        rw [inV_kind]
        rfl
      · subst e
        exact ⟨⟨xs, hS, Nat.le_refl _⟩, _, rfl, iteF k⟩

theorem scCheckOrder : FnScope ["kinds", "order", "columns", "part"] ["kinds", "order"] (defScope sCheckOrder) := ⟨rfl, rfl, rfl, by decide +kernel, rfl, by decide +kernel, by decide +kernel⟩
def spCheckOrder (K : PySem.W.Frag) : Sp := fun vs H Q _ => ∃ (vk vo : V) (ks : List Bool) (os : List (Nat × Bool)), vs = [vk, vo] ∧ Dp K H vk (kindsD ks) ∧ Dp K H vo (orderD os) ∧ OkOrder ks.length os ∧ os.length ≤ 1000 ∧ ∀ H', Same H H' → Q .non H'
theorem check_order_ok {c : Addr} (D : DefAt K mg "check_order" sCheckOrder c) (T : Txt K mg) (cP : Cal P w K mg base CX0 2 "is_part" ["kinds", "part"] (spPart K)) : Cal P w K mg base CX0 3 "check_order" ["kinds", "order"] (spCheckOrder K) := by
  have sc := scCheckOrder
  refine def_ok0 D sc (fun vs H Q E h => ?_) (fun _ _ _ _ _ _ us hl => match us, hl with | [_, _], _ => rfl) (fun f A outer s H vs Q E hr h => ?_)
  · obtain ⟨vk, vo, ks, os, rfl, _⟩ := h
    rfl
  · obtain ⟨vk, vo, ks, os, rfl, hk, ho, hok, hz, k⟩ := h
    refine ⟨_, (pss_cons (ps_if ((pw_or (pt_not (pt_val (pe_callB call_isiD (by rfl) T.isinstance (by decide +kernel) (pa_cons (pv 1) (pa_cons (pe_bltn (v := V.ty "list") (u := Value.type "list") (by rfl) T.list_ (by decide +kernel) rfl) pa_nil))))) (pw_or1 (pt_not (pt_truth (pv 1) (by intro _; rfl))))).pt) pss_never pss_nil) (pss_cons (ps_set (i := 2) sc.nd rfl (Or.inl rfl) (pe_lst pa_nil)) (pss_one (ps_for PassesOwn.never rfl (pi_list (pv 1)) (pg_name (i := 3) sc.nd rfl (Or.inl rfl)) (pss_cons (ps_if ((pw_or (pt_not (pt_val (pe_c cP hr (by decide) (by rfl) pass0 (pa_cons (pv 0) (pa_cons (pv 3) pa_nil))))) (pw_or1 (pt_cmpR op_in_seq (pe_ix ixD (pv 3) pe_int (fun _ _ => rfl)) (pv 2) (by rfl)))).pt) pss_never pss_nil) (pss_one (ps_expr (pe_bm PySem.F.plainAttrs_list PySem.F.slot_list_append PySem.F.type_list_append mt_append (pv 2) (pa_cons (pe_ix ixD (pv 3) pe_int (fun _ _ => rfl)) pa_nil))))))))), ?_⟩
    refine ⟨_, rfl, _, _, _, rfl, by simp, ho, _, rfl, ?_⟩
    cases ho with
    | @lst a xs _ hS hI =>
      have lx : xs.length = os.length := by rw [dpLen hI, List.length_map]
      have ne : xs.isEmpty = false := by
        cases xs with
        | nil =>
          have : os.length = 0 := by rw [← lx]; rfl
          exact absurd (List.eq_nil_of_length_eq_zero this) hok.some_
        | cons _ _ => rfl
      refine iteF ⟨_, rfl, !xs.isEmpty, .inl ⟨xs, hS, rfl⟩, ?_⟩
      rw [ne]
      refine iteF ⟨Nat.zero_le _, fun p hp => ?_⟩
      have s0 : Same H (upd H p (.lst [])) := fun b o e => by rw [upd_ne (ne_of_none e hp)]; exact e
      refine ⟨_, rfl, a, rfl, ⟨_, s0.seq hS⟩, for_list (K := K) (a := a) (xs := xs) (fun i σ H' => ∃ v3 : Option V, σ = [some vk, some (.ref a), some (.ref p), v3] ∧ Same H H' ∧ H' p = some (.lst ((os.take i).map fun q => V.int q.1)))
        ⟨none, rfl, s0, upd_same⟩ (fun i σ H' _ ⟨_, _, sm, _⟩ => sm.seq hS) ?_ ?_⟩
      · rintro i y σ H' hi ⟨v3, rfl, sm, hL⟩
        obtain ⟨d, ed, hd⟩ := dpGet hI hi
        obtain ⟨⟨c, b⟩, eq, rfl⟩ : ∃ q, os[i]? = some q ∧ d = partD q := by
          rw [List.getElem?_map] at ed
          cases q : os[i]? with
          | none => rw [q] at ed; cases ed
          | some b => rw [q] at ed; exact ⟨b, rfl, (Option.some.inj ed).symm⟩
        have hm := List.mem_of_getElem? eq
        have hd' := dp_same sm _ hd
        have hi' : i < os.length := (List.getElem?_eq_some_iff.mp eq).1
        refine ⟨_, rfl, _, rfl, vk, y, ks, (c, b), rfl, dp_same sm _ hk, hd', hok.col _ hm, _, rfl, ?_⟩
        refine iteF ⟨_, rfl, _, _, 0, .int c, hd', rfl, rfl, rfl, fun v hv => ?_⟩
        cases hv
        have notin : inV (.int c) ((os.take i).map fun q => V.int q.1) = false := by
          rw [Bool.eq_false_iff]
          intro z
          unfold inV at z
          obtain ⟨u, hu, he⟩ := List.any_eq_true.mp z
          obtain ⟨q, hq, rfl⟩ := List.mem_map.mp hu
          obtain ⟨j, hj⟩ := List.getElem?_of_mem hq
          rw [List.getElem?_take] at hj
          split at hj
          · rename_i hji
            have e1 : q.1 = c := by
              simp [eqV] at he
              omega
            have h1 : (os.map (·.1))[j]? = some c := by rw [List.getElem?_map, hj, ← e1]; rfl
            have h2 : (os.map (·.1))[i]? = some c := by rw [List.getElem?_map, eq]; rfl
            have := nodup_nat hok.nd h1 h2
            omega
          · cases hj
        refine ⟨_, rfl, p, _, rfl, .inl (SqL.of hL), rfl, ?_, ?_⟩
        · rw [List.all_eq_true]
          intro z hz
          obtain ⟨q, _, rfl⟩ := List.mem_map.mp hz
          rfl
        show ∃ k, V.bl (if false then _ else inV (.int c) ((os.take i).map fun q => V.int q.1)) = V.bl k ∧ _
        rw [notin]
        refine ⟨false, rfl, iteF ?_⟩
        refine ⟨_, rfl, .inl ⟨rfl, _, SqL.of hL⟩, _, rfl, _, _, 0, .int c, hd', rfl, rfl, rfl, fun v hv => ?_⟩
        cases hv
        refine ⟨p, _, _, rfl, rfl, hL, small1000 (by rw [List.length_map, List.length_take]; omega), ?_⟩
        refine ⟨_, rfl, fun b' o e => ?_, ?_⟩
        · rw [upd_ne (fun z => by subst z; rw [hp] at e; cases e)]
          exact sm b' o e
        · rw [upd_same, List.take_add_one, eq, List.map_append]
          rfl
      · rintro σ H' ⟨v3, rfl, sm, hL⟩
        exact k _ sm
end
end RS
set_option Elab.async false
set_option maxRecDepth 100000
set_option maxHeartbeats 4000000
namespace RS
open PySem PySem.Spec PyProof.Rows L2 GX
/-! ### orders as texts -/
def cm1 : Str := ", "
def partS (p : Nat × Bool) : Str := numS p.1 ++ " " ++ wayS p.2
def textO (os : List (Nat × Bool)) : Str := Txt.join cm1 (os.map partS)
theorem empty_app (x : Str) : Str.empty ++ x = x := TL.ext_tl (by rw [TL.tl_append]; rfl)
theorem part_all : ∀ c < 4, ∀ b : Bool, (44 : Nat) ∉ TL.tl (partS (c, b)) ∧ (partS (c, b)).length ≤ 8 ∧ (numS c).length ≤ 8 ∧ (wayS b).length ≤ 8 ∧ (numS c ++ " ").length ≤ 8 ∧ (32 : Nat) ∉ TL.tl (numS c) ∧ (32 : Nat) ∉ TL.tl (wayS b) ∧ TL.tl (partS (c, b)) = TL.joinL [32] [TL.tl (numS c), TL.tl (wayS b)] := by
  decide +kernel
theorem part_split {p : Nat × Bool} (h : p.1 < 4) : Txt.split (partS p) sp1 = [numS p.1, wayS p.2] := by
  obtain ⟨c, b⟩ := p
  obtain ⟨_, _, _, _, _, h1, h2, h3⟩ := part_all c h b
  have e : partS (c, b) = Txt.join sp1 [numS c, wayS b] := by
    refine TL.ext_tl ?_
    rw [h3, TL.join_eq, TL.tl_join, tl_sp]
    rfl
  rw [e]
  refine TL.split_join tl_sp (by decide +kernel) (by simp) fun p hp => ?_
  rcases List.mem_cons.mp hp with e | hp
  · rw [e]; exact h1
  · rw [List.mem_singleton.mp hp]; exact h2
theorem order_split {os : List (Nat × Bool)} (ne : os ≠ []) (h : ∀ p ∈ os, p.1 < 4) : Txt.split (textO os) cm1 = os.map partS := by
  refine TL.split_join (s := 44) (S := [32]) (by decide +kernel) (by decide +kernel) (by simpa using ne) fun p hp => ?_
  obtain ⟨q, hq, rfl⟩ := List.mem_map.mp hp
  exact (part_all q.1 (h q hq) q.2).1
theorem order_len {os : List (Nat × Bool)} (l4 : os.length ≤ 4) (h : ∀ p ∈ os, p.1 < 4) : ((os.map partS).map Str.length).sum ≤ 32 ∧ (textO os).length ≤ 40 := by
  have h1 := sum_le Str.length 8 (os.map partS) fun x hx => by
    obtain ⟨q, hq, rfl⟩ := List.mem_map.mp hx
    exact (part_all q.1 (h q hq) q.2).2.1
  rw [List.length_map] at h1
  refine ⟨by omega, ?_⟩
  have e : (textO os).length = (TL.tl (textO os)).length := by simp [TL.tl, Str.length]
  have e2 : TL.tl (textO os) = TL.joinL (TL.tl cm1) ((os.map partS).map TL.tl) := by
    unfold textO
    rw [TL.join_eq, TL.tl_join]
  have h2 := joinL_len (TL.tl cm1) ((os.map partS).map TL.tl)
  have e3 : ((os.map partS).map TL.tl).map List.length = (os.map partS).map Str.length := by
    rw [List.map_map]
    exact List.map_congr_left fun x _ => by simp [TL.tl, Str.length]
  have e4 : (TL.tl cm1).length = 2 := by decide +kernel
  rw [e3, e4] at h2
  rw [e, e2]
  simp only [List.length_map] at h2
  omega
section
variable {P : Program} {w : World} {K : PySem.W.Frag} {mg : Str → Option Value} {base : Heap}
theorem scWO : FnScope ["kinds", "order", "column", "way"] ["kinds", "order"] (defScope s_written_order) := ⟨rfl, rfl, rfl, by decide +kernel, rfl, by decide +kernel, by decide +kernel⟩
def spWO (K : PySem.W.Frag) (p : Addr) : Sp := fun vs H Q _ => ∃ (vk vo : V) (ks : List Bool) (os : List (Nat × Bool)), vs = [vk, vo] ∧ Dp K H vk (kindsD ks) ∧ 1 ≤ ks.length ∧ ks.length ≤ 4 ∧ Dp K H vo (orderD os) ∧ OkOrder ks.length os ∧ os.length ≤ 4 ∧ Tab H p ∧ ∀ H', Same H H' → Q (.str (textO os)) H'
theorem written_order_ok {c p : Addr} (D : DefAt K mg "written_order" s_written_order c) (T : Txt K mg) (cK : Cal P w K mg base CX0 2 "check_kinds" ["kinds"] (spCheckKinds K p)) (cO : Cal P w K mg base CX0 3 "check_order" ["kinds", "order"] (spCheckOrder K)) :
    Cal P w K mg base CX0 4 "written_order" ["kinds", "order"] (spWO K p) := by
  have sc := scWO
  refine def_ok0 D sc (fun vs H Q E h => ?_) (fun _ _ _ _ _ _ us hl => match us, hl with | [_, _], _ => rfl) (fun f A outer s H vs Q E hr h => ?_)
  · obtain ⟨vk, vo, ks, os, rfl, _⟩ := h
    rfl
  · obtain ⟨vk, vo, ks, os, rfl, hk, k1, k4, ho, ok, l4, ht, k⟩ := h
    refine ⟨_, (pss_cons (ps_expr (pe_c cK hr (by decide) (by rfl) pass0 (pa_cons (pv 0) pa_nil))) (pss_cons (ps_expr (pe_c cO hr (by decide) (by rfl) pass0 (pa_cons (pv 0) (pa_cons (pv 1) pa_nil)))) (pss_one (ps_ret (pe_bm PySem.F.plainAttrs_str PySem.F.slot_str_join PySem.F.type_str_join mt_join pe_str (pa_cons (pe_lc (own := [("column", 2), ("way", 3)]) (tt := tYes) (g := gTup K 2 (gCons (gName 2) (gCons (gName 3) gNil))) rfl sc.nd (pi_list (pv 1)) (blkOk_by (N := ["kinds", "order", "column", "way"]) (sc := defScope s_written_order) (own := [("column", 2), ("way", 3)]) (by decide +kernel)) (fun _ _ _ _ _ => (pg_tup (by rfl) (pgs_cons (pg_name (i := 2) sc.nd rfl (Or.inl rfl)) (pgs_cons (pg_name (i := 3) sc.nd rfl (Or.inl rfl)) pgs_nil)))) (fun _ _ _ _ _ => pts_nil) (fun _ _ _ _ _ => (pe_joined (.cons (pe_fmt (pv 2)) (.cons pe_str (.cons (pe_fmt (pv 3)) .nil)))))) pa_nil)))))), ?_⟩
    refine ⟨_, rfl, vk, ks, rfl, hk, k1, k4, ht, ?_⟩
    refine ⟨_, rfl, _, rfl, vk, vo, ks, os, rfl, hk, ho, ok, by omega, fun H1 s1 => ?_⟩
    have ho1 := dp_same s1 _ ho
    cases ho1 with
    | @lst a xs _ hS hI =>
      have lx : xs.length = os.length := by rw [dpLen hI, List.length_map]
      refine ⟨rfl, _, rfl, a, rfl, ⟨_, hS⟩, fun DD hD => ?_⟩
      have c4 : ∀ q ∈ os, q.1 < 4 := fun q hq => Nat.lt_of_lt_of_le (ok.col q hq) k4
      obtain ⟨z1, z2⟩ := order_len l4 c4
      have big : (1000 : Nat) ≤ sizeLine := by decide
      refine lc_list (K := K) (a := a) (xs := xs) (te := fun σ H Q => tJs [tFmt (tVar 2), tC (V.str " "), tFmt (tVar 3)] Str.empty σ H fun out H1 => Q (.str out) H1) (fun j H' => Same H1 H' ∧ H' DD = some (.lst ((os.take j).map fun q => V.str (partS q)))) ⟨fun b o e => by rw [upd_ne (ne_of_none e hD)]; exact e, upd_same⟩ (fun j H4 _ h => h.1.seq hS) ?_ ?_
      · rintro j x H4 hx ⟨sm, hl⟩
        obtain ⟨e, ee, he⟩ := dpGet hI hx
        obtain ⟨⟨cc, b⟩, eq, rfl⟩ : ∃ q, os[j]? = some q ∧ e = partD q := by
          rw [List.getElem?_map] at ee
          cases q : os[j]? with
          | none => rw [q] at ee; cases ee
          | some b => rw [q] at ee; exact ⟨b, rfl, (Option.some.inj ee).symm⟩
        have he := dp_same sm _ he
        have hc4 := c4 _ (List.mem_of_getElem? eq)
        obtain ⟨_, p1, p2, p3, p4, _⟩ := part_all cc hc4 b
        cases he with
        | @tup a2 ys _ hS2 hI2 =>
          cases hI2 with
          | cons h1 hI2 =>
            cases hI2 with
            | cons h2 hI2 =>
              cases hI2
              cases h1
              cases h2
              refine ⟨a2, _, rfl, hS2, rfl, _, _, rfl, _, _, rfl, rfl, ?_⟩
              refine ⟨rfl, _, rfl, .inr ⟨_, rfl, num_log cc (by have : cc < 4 := hc4; omega), _, rfl, ?_, _, rfl, ?_, _, rfl, .inl ⟨_, rfl, ?_, _, rfl, ?_, ?_⟩⟩⟩
              · show (Str.empty ++ numS cc).length ≤ sizeLine
                rw [empty_app]
                omega
              · show (Str.empty ++ numS cc ++ " ").length ≤ sizeLine
                rw [empty_app]
                omega
              · show (wayS b).length ≤ sizeLine
                omega
              · show (Str.empty ++ numS cc ++ " " ++ wayS b).length ≤ sizeLine
                rw [empty_app]
                have : (numS cc ++ " " ++ wayS b).length ≤ 8 := p1
                omega
              · refine ⟨_, hl, small1000 (by rw [List.length_map, List.length_take]; omega), fun b' o q => ?_, ?_⟩
                · rw [upd_ne (ne_of_none q hD)]
                  exact sm _ _ q
                · rw [upd_same, List.take_add_one, eq, List.map_append]
                  show some (HO.lst ((os.take j).map (fun q => V.str (partS q)) ++ [V.str (Str.empty ++ numS cc ++ " " ++ wayS b)])) = some (HO.lst ((os.take j).map (fun q => V.str (partS q)) ++ [V.str (partS (cc, b))]))
                  rw [empty_app]
                  rfl
      · rintro H4 ⟨sm, hl⟩
        rw [lx, List.take_length] at hl
        refine ⟨_, DD, os.map partS, rfl, rfl, .inl (SqL.of (by rw [List.map_map]; exact hl)), ?_, k H4 (s1.trans sm)⟩
        have e1 : (Str.ofString ", ").length = 2 := by decide +kernel
        show ((os.map partS).map Str.length).sum + (os.map partS).length * (Str.ofString ", ").length ≤ 16777216
        rw [e1, List.length_map]
        omega
end
end RS
set_option Elab.async false
set_option maxRecDepth 100000
set_option maxHeartbeats 4000000
set_option pp.maxSteps 400
namespace RS
open PySem PySem.Spec PyProof.Rows L2 GX LM
/-- whether it is a part of an order -/
def okPart (n : Nat) : List PyData → Bool
  | [.int c, .str s] => decide (0 ≤ c) && decide (c < (n : Int)) && inV (.str s) [.str "up", .str "down"]
  | _ => false
def PartL (ds : List PyData) : Prop := ds.length ≠ 2 ∨ ∃ (c : Int) (s : Str), ds = [.int c, .str s]
section
variable {P : Program} {w : World} {K : PySem.W.Frag} {mg : Str → Option Value} {base : Heap}
def spPartG (K : PySem.W.Frag) : Sp := fun vs H Q _ => ∃ (vk vp : V) (ks : List Bool) (ds : List PyData), vs = [vk, vp] ∧ Dp K H vk (kindsD ks) ∧ Dp K H vp (.tuple ds) ∧ PartL ds ∧ Q (.bl (okPart ks.length ds)) H
theorem okPart_len {n : Nat} {ds : List PyData} (h : ds.length ≠ 2) : okPart n ds = false := by
  match ds, h with
  | [], _ => rfl
  | [a], _ => cases a <;> rfl
  | [_, _], h => exact absurd rfl h
  | a :: b :: c :: l, _ => cases a <;> cases b <;> rfl
theorem is_partG_ok {c : Addr} (D : DefAt K mg "is_part" sIsPart c) (T : Txt K mg) (cN : Cal P w K mg base CX0 1 "is_number" ["value"] (spNum K)) : Cal P w K mg base CX0 2 "is_part" ["kinds", "part"] (spPartG K) := by
  have sc := scIsPart
  obtain ⟨aW, hW, hWS⟩ := T.ways
  refine def_ok0 D sc (fun vs H Q E h => ?_) (fun _ _ _ _ _ _ us hl => match us, hl with | [_, _], _ => rfl) (fun f A outer s H vs Q E hr h => ?_)
  · obtain ⟨vk, vp, ks, ds, rfl, _⟩ := h
    rfl
  · obtain ⟨vk, vp, ks, ds, rfl, hk, hp, hc, k⟩ := h
    refine ⟨_, (pss_cons (ps_if ((pw_or (pt_not (pt_val (pe_callB call_isiD (by rfl) T.isinstance (by decide +kernel) (pa_cons (pv 1) (pa_cons (pe_bltn (v := V.ty "tuple") (u := Value.type "tuple") (by rfl) T.tuple_ (by decide +kernel) rfl) pa_nil))))) (pw_or1 (pt_cmpR op_ne (pe_callB call_lenD (by rfl) T.len PySem.boot_len (pa_cons (pv 1) pa_nil)) pe_int (nomark _)))).pt) (pss_one (ps_ret pe_bl)) pss_nil) (pss_cons (ps_asg (pv 1) (pg_tup (by rfl) (pgs_cons (pg_name (i := 2) sc.nd rfl (Or.inl rfl)) (pgs_cons (pg_name (i := 3) sc.nd rfl (Or.inl rfl)) pgs_nil)))) (pss_one (ps_ret (pe_and (pe_c cN hr (by decide) (by rfl) pass0 (pa_cons (pv 2) pa_nil)) (pe_and (pe_chain op_le op_lt pe_int (pv 2) (pe_callB call_lenD (by rfl) T.len PySem.boot_len (pa_cons (pv 0) pa_nil))) (pe_one (pe_cmpR op_in_seq (pv 3) (pe_glob (v := V.ref aW) (by rfl) hW rfl) (by rfl))))))))), ?_⟩
    refine ⟨_, rfl, _, _, _, rfl, by simp, hp, _, rfl, ?_⟩
    refine iteF ⟨_, rfl, _, _, ds.length, rfl, hp, rfl, rfl, _, rfl, ?_⟩
    by_cases c2 : ds.length = 2
    · obtain ⟨cc, ss, rfl⟩ := hc.resolve_left (fun z => z c2)
      refine iteF ⟨_, rfl, ?_⟩
      cases hp with
      | @tup a xs _ hS hI =>
        cases hI with
        | cons h1 hI =>
          cases hI with
          | cons h2 hI =>
            cases hI
            cases h1
            cases h2
            refine ⟨a, _, rfl, hS, rfl, _, _, rfl, _, _, rfl, rfl, ?_⟩
            refine ⟨_, rfl, _, _, rfl, .int cc, _, rfl, ?_⟩
            have hn : isNum (.int cc) = true := by simp [isNum, isI, isT, tyN]
            rw [hn]
            refine iteT ?_
            refine ⟨_, rfl, _, _, rfl, rfl, _, rfl, ?_⟩
            have ek : okPart ks.length [.int cc, .str ss] = (decide (0 ≤ cc) && decide (cc < (ks.length : Int)) && inV (.str ss) [.str "up", .str "down"]) := rfl
            rw [ek] at k
            by_cases d0 : 0 ≤ cc
            · rw [decide_eq_true d0]
              rw [decide_eq_true d0] at k
              refine iteT ⟨_, rfl, _, _, (ks.map fun b => PyData.str (kindS b)).length, rfl, hk, rfl, _, _, rfl, rfl, _, rfl, ?_⟩
              rw [List.length_map]
              by_cases d1 : cc < (ks.length : Int)
              · rw [decide_eq_true d1]
                rw [decide_eq_true d1] at k
                refine iteT ⟨_, rfl, aW, _, rfl, .inr (hWS _), rfl, rfl, ?_⟩
                show Q (.bl (if false then _ else inV (.str ss) [.str "up", .str "down"])) H
                simpa using k
              · rw [decide_eq_false d1]
                rw [decide_eq_false d1] at k
                exact iteF (by simpa using k)
            · rw [decide_eq_false d0]
              rw [decide_eq_false d0] at k
              exact iteF ⟨_, rfl, iteF (by simpa using k)⟩
    · rw [okPart_len c2] at k
      rw [decide_eq_false (show ¬ (V.int ((ds.length : Nat) : Int) = V.int 2) from fun z => c2 (by have := V.int.inj z; omega))]
      exact iteT k
def partL (q : Nat × Bool) : List PyData := [.int q.1, .str (wayS q.2)]
/-- an order of which a part is none -/
def BadOrd (n : Nat) (ods : List (List PyData)) : Prop := ods = [] ∨ ∃ (os : List (Nat × Bool)) (b : List PyData) (rest : List (List PyData)), ods = os.map partL ++ b :: rest ∧ (∀ p ∈ os, p.1 < n) ∧ (os.map (·.1)).Nodup ∧ PartL b ∧ (okPart n b = false ∨ ∃ q : Nat × Bool, b = partL q ∧ q.1 < n ∧ q.1 ∈ os.map (·.1))
theorem okPart_good {n : Nat} {q : Nat × Bool} (h : q.1 < n) : okPart n (partL q) = true := by
  show (decide ((0 : Int) ≤ (q.1 : Int)) && decide ((q.1 : Int) < (n : Int)) && inV (.str (wayS q.2)) [.str "up", .str "down"]) = true
  rw [decide_eq_true (Int.natCast_nonneg _), decide_eq_true (by omega), inV_way]
  rfl
def spOrderE (K : PySem.W.Frag) (CO : Addr) : Sp := fun vs H _ E => ∃ (vk vo : V) (ks : List Bool) (ods : List (List PyData)), vs = [vk, vo] ∧ Dp K H vk (kindsD ks) ∧ Dp K H vo (rowsD ods) ∧ ods.length ≤ 900 ∧ BadOrd ks.length ods ∧ ∀ H', Same H H' → E (.ref CO) none H'
theorem check_orderE_ok {c CO : Addr} (D : DefAt K mg "check_order" sCheckOrder c) (T : Txt K mg) (X : PlE K mg "BadOrder" CO) (cP : Cal P w K mg base CX0 2 "is_part" ["kinds", "part"] (spPartG K)) : Cal P w K mg base (L2.CX P w) 3 "check_order" ["kinds", "order"] (spOrderE K CO) := by
  have sc := scCheckOrder
  refine def_ok D sc (fun vs H Q E h => ?_) (fun _ _ _ _ _ _ us hl => match us, hl with | [_, _], _ => rfl) (fun f A outer s H vs Q E hr h => ?_)
  · obtain ⟨vk, vo, ks, ods, rfl, _⟩ := h
    rfl
  · obtain ⟨vk, vo, ks, ods, rfl, hk, ho, hz, bad, k⟩ := h
    refine ⟨_, (pss_cons (ps_if ((pw_or (pt_not (pt_val (pe_callB call_isiD (by rfl) T.isinstance (by decide +kernel) (pa_cons (pv 1) (pa_cons (pe_bltn (v := V.ty "list") (u := Value.type "list") (by rfl) T.list_ (by decide +kernel) rfl) pa_nil))))) (pw_or1 (pt_not (pt_truth (pv 1) (by intro _; rfl))))).pt) (pss_one (ps_raise rfl (takes_of rfl rfl rfl rfl) (L2.pmk_own PySem.F.excBase_ValueError X.x X.g X.k (raises_own X.b X.t) (by rfl)))) pss_nil) (pss_cons (ps_set (i := 2) sc.nd rfl (Or.inl rfl) (pe_lst pa_nil)) (pss_one (ps_for (passes_of rfl) rfl (pi_list (pv 1)) (pg_name (i := 3) sc.nd rfl (Or.inl rfl)) (pss_cons (ps_if ((pw_or (pt_not (pt_val (pe_c cP hr (by decide) (by rfl) pass0 (pa_cons (pv 0) (pa_cons (pv 3) pa_nil))))) (pw_or1 (pt_cmpR op_in_seq (pe_ix ixD (pv 3) pe_int (fun _ _ => rfl)) (pv 2) (by rfl)))).pt) (pss_one (ps_raise rfl (takes_of rfl rfl rfl rfl) (L2.pmk_own PySem.F.excBase_ValueError X.x X.g X.k (raises_own X.b X.t) (by rfl)))) pss_nil) (pss_one (ps_expr (pe_bm PySem.F.plainAttrs_list PySem.F.slot_list_append PySem.F.type_list_append mt_append (pv 2) (pa_cons (pe_ix ixD (pv 3) pe_int (fun _ _ => rfl)) pa_nil))))))))), ?_⟩
    refine ⟨_, rfl, _, _, _, rfl, by simp, ho, _, rfl, ?_⟩
    cases ho with
    | @lst a xs _ hS hI =>
      have lx : xs.length = ods.length := by rw [dpLen hI, List.length_map]
      refine iteF ⟨_, rfl, !xs.isEmpty, .inl ⟨xs, hS, rfl⟩, ?_⟩
      rcases bad with rfl | ⟨os, b, rest, rfl, hcol, hnd, hpl, hb⟩
      · have : xs = [] := List.eq_nil_of_length_eq_zero lx
        subst this
        exact iteT (k _ (Same.refl H))
      · have ne : xs.isEmpty = false := by
          cases xs with
          | nil => simp at lx
          | cons _ _ => rfl
        rw [ne]
        rw [List.length_append, List.length_map, List.length_cons] at hz lx
        refine iteF ⟨Nat.zero_le _, fun p hp => ?_⟩
        have s0 : Same H (upd H p (.lst [])) := fun b o e => by rw [upd_ne (ne_of_none e hp)]; exact e
        refine ⟨_, rfl, a, rfl, ⟨_, s0.seq hS⟩, for_list (K := K) (a := a) (xs := xs) (fun i σ H' => ∃ v3 : Option V, σ = [some vk, some (.ref a), some (.ref p), v3] ∧ Same H H' ∧ H' p = some (.lst ((os.take i).map fun q => V.int q.1)) ∧ i ≤ os.length)
          ⟨none, rfl, s0, upd_same, Nat.zero_le _⟩ (fun i σ H' _ ⟨_, _, sm, _⟩ => sm.seq hS) ?_ ?_⟩
        · rintro i y σ H' hi ⟨v3, rfl, sm, hL, hio⟩
          obtain ⟨d, ed, hd⟩ := dpGet hI hi
          have allI : ∀ (l : List (Nat × Bool)), (List.all (l.map fun q => V.int q.1) fun z => match z with | .int _ => true | _ => true) = true := fun l => by
            rw [List.all_eq_true]
            intro z _
            cases z <;> rfl
          rcases Nat.lt_or_ge i os.length with c1 | c1
          · obtain ⟨⟨c, bb⟩, eq⟩ : ∃ q, os[i]? = some q := ⟨_, List.getElem?_eq_getElem c1⟩
            have ed' : d = .tuple (partL (c, bb)) := by
              rw [List.getElem?_map, List.getElem?_append_left (by rw [List.length_map]; exact c1), List.getElem?_map, eq] at ed
              exact (Option.some.inj ed).symm
            subst ed'
            have hm := List.mem_of_getElem? eq
            have hd' := dp_same sm _ hd
            refine ⟨_, rfl, _, rfl, vk, y, ks, partL (c, bb), rfl, dp_same sm _ hk, hd', .inr ⟨_, _, rfl⟩, _, rfl, ?_⟩
            rw [okPart_good (hcol _ hm)]
            refine iteF ⟨_, rfl, _, _, 0, .int c, hd', rfl, rfl, rfl, fun v hv => ?_⟩
            cases hv
            have notin : inV (.int c) ((os.take i).map fun q => V.int q.1) = false := by
              rw [Bool.eq_false_iff]
              intro z
              unfold inV at z
              obtain ⟨u, hu, he⟩ := List.any_eq_true.mp z
              obtain ⟨q, hq, rfl⟩ := List.mem_map.mp hu
              obtain ⟨j, hj⟩ := List.getElem?_of_mem hq
              rw [List.getElem?_take] at hj
              split at hj
              · rename_i hji
                have e1 : q.1 = c := by
                  simp [eqV] at he
                  omega
                have h1 : (os.map (·.1))[j]? = some c := by rw [List.getElem?_map, hj, ← e1]; rfl
                have h2 : (os.map (·.1))[i]? = some c := by rw [List.getElem?_map, eq]; rfl
                have := nodup_nat hnd h1 h2
                omega
              · cases hj
            refine ⟨_, rfl, p, _, rfl, .inl (SqL.of hL), rfl, ?_, ?_⟩
            · rw [List.all_eq_true]
              intro z hz
              obtain ⟨q, _, rfl⟩ := List.mem_map.mp hz
              rfl
            show ∃ k, V.bl (if false then _ else inV (.int c) ((os.take i).map fun q => V.int q.1)) = V.bl k ∧ _
            rw [notin]
            refine ⟨false, rfl, iteF ?_⟩
            refine ⟨_, rfl, .inl ⟨rfl, _, SqL.of hL⟩, _, rfl, _, _, 0, .int c, hd', rfl, rfl, rfl, fun v hv => ?_⟩
            cases hv
            refine ⟨p, _, _, rfl, rfl, hL, small1000 (by rw [List.length_map, List.length_take]; omega), ?_⟩
            refine ⟨_, rfl, fun b' o e => ?_, ?_, by omega⟩
            · rw [upd_ne (fun z => by subst z; rw [hp] at e; cases e)]
              exact sm b' o e
            · rw [upd_same, List.take_add_one, eq, List.map_append]
              rfl
          · have eio : i = os.length := by omega
            have ed' : d = .tuple b := by
              rw [eio, List.getElem?_map, List.getElem?_append_right (by rw [List.length_map]; exact Nat.le_refl _), List.length_map, Nat.sub_self] at ed
              exact (Option.some.inj ed).symm
            subst ed'
            have hd' := dp_same sm _ hd
            refine ⟨_, rfl, _, rfl, vk, y, ks, b, rfl, dp_same sm _ hk, hd', hpl, _, rfl, ?_⟩
            rcases hb with hb | ⟨⟨c, bb⟩, rfl, hcn, hcm⟩
            · rw [hb]
              exact iteT (k _ sm)
            · rw [okPart_good hcn]
              refine iteF ⟨_, rfl, _, _, 0, .int c, hd', rfl, rfl, rfl, fun v hv => ?_⟩
              cases hv
              have isin : inV (.int c) ((os.take i).map fun q => V.int q.1) = true := by
                unfold inV
                obtain ⟨q, hq, e⟩ := List.mem_map.mp hcm
                refine List.any_eq_true.mpr ⟨.int q.1, List.mem_map.mpr ⟨q, by rw [eio, List.take_length]; exact hq, rfl⟩, ?_⟩
                have e : q.1 = c := e
                simp [eqV, e]
              refine ⟨_, rfl, p, _, rfl, .inl (SqL.of hL), rfl, ?_, ?_⟩
              · rw [List.all_eq_true]
                intro z hz
                obtain ⟨q, _, rfl⟩ := List.mem_map.mp hz
                rfl
              show ∃ k, V.bl (if false then _ else inV (.int c) ((os.take i).map fun q => V.int q.1)) = V.bl k ∧ _
              rw [isin]
              exact ⟨true, rfl, iteT (k _ sm)⟩
        · rintro σ H' ⟨v3, rfl, sm, hL, hio⟩
          omega
end
end RS
set_option Elab.async false
set_option maxRecDepth 100000
set_option maxHeartbeats 8000000
set_option pp.maxSteps 400
namespace RS
open PySem PySem.Spec PyProof.Rows L2 GX LM
/-! ### plans that are good -/
mutual
theorem leafI_nat : ∀ {d : PyData}, plD d → leafI d = (leaf d).map fun j => ((j : Nat) : Int)
  | .int i, ⟨n, _, e⟩ => by
    subst e
    simp [leafI, leaf]
  | .tuple ds, h => by
    simp only [leafI, leaf]
    exact leafsI_nat h.2
theorem leafsI_nat : ∀ {ds : List PyData}, plDs ds → leafsI ds = (leafs ds).map fun j => ((j : Nat) : Int)
  | [], _ => rfl
  | d :: ds, h => by
    simp only [leafsI, leafs, List.map_append]
    rw [leafI_nat h.1, leafsI_nat h.2]
end
mutual
theorem okP_of : ∀ {d : PyData} {n : Nat}, plD d → fitP n d = true → (∀ j ∈ leaf d, j < 40) → okP n d
  | .int i, n, ⟨m, _, e⟩, _, h => by
    subst e
    have := h m (by simp [leaf])
    exact ⟨by omega, by omega⟩
  | .tuple ds, n, h, hf, hl => by
    simp only [fitP, Bool.and_eq_true, decide_eq_true_eq] at hf
    exact ⟨hf.1.1, hf.1.2, okPs_of h.2 hf.2 hl⟩
theorem okPs_of : ∀ {ds : List PyData} {n : Nat}, plDs ds → fitPs n ds = true → (∀ j ∈ leafs ds, j < 40) → okPs n ds
  | [], _, _, _, _ => trivial
  | d :: ds, n, h, hf, hl => by
    simp only [fitPs, Bool.and_eq_true] at hf
    exact ⟨okP_of h.1 hf.1 fun j hj => hl j (by simp [leafs, hj]), okPs_of h.2 hf.2 fun j hj => hl j (by simp [leafs, hj])⟩
end
theorem perm_cast {a b : List Nat} (h : (a.map fun j => ((j : Nat) : Int)).Perm (b.map fun j => ((j : Nat) : Int))) : a.Perm b := by
  have := h.map Int.toNat
  rw [List.map_map, List.map_map] at this
  have e : ∀ l : List Nat, l.map (Int.toNat ∘ fun j => ((j : Nat) : Int)) = l := fun l => by
    conv => rhs; rw [← List.map_id l]
    exact List.map_congr_left fun j _ => by simp
  rwa [e, e] at this
theorem okPlan_of {d : PyData} {m n : Nat} (p : plD d) (o : OkG m n d) (h : m ≤ 40) : OkPlan m n d := by
  obtain ⟨h1, h2⟩ := o
  rw [leafI_nat p] at h2
  have h3 := perm_cast h2
  exact ⟨okP_of p h1 fun j hj => by
    have := List.mem_range.mp (h3.mem_iff.mp hj)
    omega, h3⟩
theorem may_len {fs : Lvs} {x : Str} (h : mayF fs x = true) : 1 ≤ x.length := by
  cases fs with
  | nil => cases h
  | cons f r =>
    have h : mayB r.isEmpty f.isEmpty x = true := h
    unfold mayB at h
    split at h
    · cases h
    · by_cases c : x = clS
      · rw [c]; decide
      · rw [if_neg c] at h
        by_cases o : x = opS
        · rw [o]; decide
        · rw [decide_eq_false o, Bool.false_or, ← isFig_iff] at h
          unfold isFig at h
          simp only [Bool.and_eq_true, decide_eq_true_eq] at h
          exact h.1.1.1
theorem readW_len {ws : List Str} {d : PyData} (h : readW ws = .inr d) : ∀ x ∈ ws, 1 ≤ x.length := by
  have gen : ∀ (vs : List Str) (i : Nat) (fs fs' : Lvs), runF vs i fs = .inr fs' → ∀ x ∈ vs, 1 ≤ x.length := by
    intro vs
    induction vs with
    | nil => intro i fs fs' e x hx; cases hx
    | cons y vs ih =>
      intro i fs fs' e x hx
      unfold runF at e
      by_cases m : mayF fs y = true
      · rw [if_pos m] at e
        rcases List.mem_cons.mp hx with rfl | hx
        · exact may_len m
        · exact ih _ _ _ e x hx
      · rw [if_neg m] at e
        cases e
  unfold readW at h
  cases hr : runF ws 0 [[]] with
  | inl i => rw [hr] at h; cases h
  | inr fs => exact gen ws 0 _ _ hr
theorem sum_ge : ∀ {ws : List Str}, (∀ x ∈ ws, 1 ≤ x.length) → ws.length ≤ (ws.map (·.length)).sum
  | [], _ => Nat.le_refl _
  | x :: ws, h => by
    have := sum_ge fun y hy => h y (List.mem_cons_of_mem _ hy)
    have := h x List.mem_cons_self
    simp only [List.map_cons, List.sum_cons, List.length_cons]
    omega
section
variable {P : Program} {w : World} {K : PySem.W.Frag} {mg : Str → Option Value} {base : Heap}
def spRPA (K : PySem.W.Frag) (p pF C6 CT : Addr) : Sp := fun vs H Q E => ∃ (vl : V) (ls : List Nat) (n : Nat) (t : Str), vs = [vl, .int (n : Nat), .str t] ∧ Dp K H vl (lensD ls) ∧ OkLens ls ∧ 2 ≤ n ∧ n ≤ 6 ∧ t.length ≤ 720 ∧ Tab H p ∧ Tab H pF ∧
  (∀ i, readW (Txt.split t sp1) = .inl i → ∀ (H' : Hp) (dd : Addr), Same H H' → H' dd = some (.xd [("place", .int (i : Nat))]) → E (.ref CT) (some dd) H') ∧
  (∀ d, readW (Txt.split t sp1) = .inr d → ¬ OkG ls.length n d → ∀ H', Same H H' → E (.ref C6) none H') ∧
  (∀ d, readW (Txt.split t sp1) = .inr d → OkG ls.length n d → ∀ H' v, Same H H' → Dp K H' v d → Q v H')
theorem split_some (t : Str) : Txt.split t sp1 ≠ [] := fun e => by
  have h := StrLaws.join_split t sp1
  rw [e] at h
  have h : Str.empty = t := h
  rw [← h] at e
  exact absurd e (by decide +kernel)
theorem words_fit {t : Str} (h : t.length ≤ 720) : (Txt.split t sp1).length ≤ 800 ∧ ∀ x ∈ Txt.split t sp1, x.length ≤ 720 := by
  have h1 := split_weight t sp1 (by decide)
  exact ⟨by omega, fun x hx => Nat.le_trans (part_short hx) h⟩
theorem plan_fit {t : Str} {d : PyData} (h : t.length ≤ 720) (hr : readW (Txt.split t sp1) = .inr d) : plD d ∧ wl d ≤ 361 := by
  obtain ⟨h1, h2⟩ := readW_end (split_some t) hr
  have h3 := split_weight t sp1 (by decide)
  have h4 := sum_ge (readW_len hr)
  exact ⟨h1, by omega⟩
theorem read_planA_ok {c p pF C6 CT : Addr} (D : DefAt K mg "read_plan" s_read_plan c) (cM : Cal P w K mg base CX0 4 "check_merging" ["lengths", "ways"] (spCheckMerging K p)) (cP : Cal P w K mg base CX0 2 "check_plan" ["lengths", "ways", "plan"] (spCheckPlan K)) (cPE : Cal P w K mg base (L2.CX P w) 2 "check_plan" ["lengths", "ways", "plan"] (spPlanE K C6))
    (cT : Cal P w K mg base (L2.CX P w) 4 "put_together" ["words"] (spPutA K pF CT)) : Cal P w K mg base (L2.CX P w) 5 "read_plan" ["lengths", "ways", "text"] (spRPA K p pF C6 CT) := by
  have sc := scRP
  refine def_ok D sc (fun vs H Q E h => ?_) (fun _ _ _ _ _ _ us hl => match us, hl with | [_, _, _], _ => rfl) (fun f A outer s H vs Q E hr h => ?_)
  · obtain ⟨vl, ls, n, t, rfl, _⟩ := h
    rfl
  · obtain ⟨vl, ls, n, t, rfl, hl, okl, n2, n6, tl, ht, htF, kT, kB, kG⟩ := h
    have l40 := okl.most
    have big : (1000 : Nat) ≤ sizeLine := by decide
    obtain ⟨w8, wx⟩ := words_fit tl
    by_cases good : ∃ d, readW (Txt.split t sp1) = .inr d ∧ OkG ls.length n d
    · obtain ⟨d, hr', og⟩ := good
      obtain ⟨pd, wd⟩ := plan_fit tl hr'
      have ok := okPlan_of pd og l40
      refine ⟨_, (pss_cons (ps_expr (pe_c cM hr (by decide) (by rfl) pass0 (pa_cons (pv 0) (pa_cons (pv 1) pa_nil)))) (pss_cons (ps_set (i := 3) sc.nd rfl (Or.inl rfl) (pe_c cT hr (by decide) (by rfl) (passes_call (takes_of rfl rfl rfl rfl) fun _ _ _ _ h => h) (pa_cons (pe_bm PySem.F.plainAttrs_str PySem.F.slot_str_split PySem.F.type_str_split mt_split (pv 2) (pa_cons pe_str pa_nil)) pa_nil))) (pss_cons (ps_expr (pe_c cP hr (by decide) (by rfl) pass0 (pa_cons (pv 0) (pa_cons (pv 1) (pa_cons (pv 3) pa_nil))))) (pss_one (ps_ret (pv 3)))))), ?_⟩
      refine ⟨_, rfl, _, rfl, vl, ls, _, rfl, hl, okl, by omega, by omega, ht, fun H1 s1 => ?_⟩
      refine ⟨_, rfl, rfl, _, _, rfl, rfl, by decide +kernel, by omega, fun W hW => ?_⟩
      have s2 : Same H1 (upd H1 W (.lst ((Txt.split t sp1).map V.str))) := sameNew (Same.refl H1) hW
      have s12 := s1.trans s2
      refine ⟨W, _, rfl, upd_same, split_some t, w8, fun x hx => Nat.le_trans (wx x hx) (by decide), s12 _ _ htF, fun i hi => (by cases hr'.symm.trans hi), fun d' hd' H3 v s3 hv => ?_⟩
      cases hr'.symm.trans hd'
      have s13 := s12.trans s3
      refine ⟨_, rfl, _, rfl, _, rfl, vl, v, ls, n, d, rfl, dp_same s13 _ hl, hv, ok, l40, n6, fun H4 s4 => ?_⟩
      exact ⟨_, rfl, kG d hr' og H4 v (s13.trans s4) (dp_same s4 _ hv)⟩
    · refine ⟨_, pss_cons (ps_expr (pe_c cM hr (by decide) (by rfl) pass0 (pa_cons (pv 0) (pa_cons (pv 1) pa_nil)))) (pss_cons (ps_set (i := 3) sc.nd rfl (Or.inl rfl) (pe_c cT hr (by decide) (by rfl) (passes_call (takes_of rfl rfl rfl rfl) fun _ _ _ _ h => h) (pa_cons (pe_bm PySem.F.plainAttrs_str PySem.F.slot_str_split PySem.F.type_str_split mt_split (pv 2) (pa_cons pe_str pa_nil)) pa_nil))) (pss_cons (ps_expr (pe_c cPE hr (by decide) (by rfl) (passes_call (takes_of rfl rfl rfl rfl) fun _ _ _ _ h => h) (pa_cons (pv 0) (pa_cons (pv 1) (pa_cons (pv 3) pa_nil))))) pss_never)), ?_⟩
      refine ⟨_, rfl, _, rfl, vl, ls, _, rfl, hl, okl, by omega, by omega, ht, fun H1 s1 => ?_⟩
      refine ⟨_, rfl, rfl, _, _, rfl, rfl, by decide +kernel, by omega, fun W hW => ?_⟩
      have s2 : Same H1 (upd H1 W (.lst ((Txt.split t sp1).map V.str))) := sameNew (Same.refl H1) hW
      have s12 := s1.trans s2
      refine ⟨W, _, rfl, upd_same, split_some t, w8, fun x hx => Nat.le_trans (wx x hx) (by decide), s12 _ _ htF, fun i hi H3 dd s3 hdd => kT i hi H3 dd (s12.trans s3) hdd, fun d hd H3 v s3 hv => ?_⟩
      have s13 := s12.trans s3
      obtain ⟨pd, wd⟩ := plan_fit tl hd
      have ng : ¬ OkG ls.length n d := fun z => good ⟨d, hd, z⟩
      have := (pl_size pd).1
      exact ⟨_, rfl, _, rfl, _, rfl, vl, v, ls, n, d, rfl, dp_same s13 _ hl, hv, (pl_any pd).1, by omega, ng, l40, fun H4 s4 => kB d hd ng H4 (s13.trans s4)⟩
end
end RS
set_option Elab.async false
set_option maxRecDepth 100000
set_option maxHeartbeats 4000000
namespace RS
open PySem PySem.Spec PyProof.Rows L2 GX
theorem BoxAt.nb {H : Hp} {B L a : Addr} (h : BoxAt H B L) (ha : H a = none) : a ≠ B ∧ a ≠ L := by
  obtain ⟨_, ⟨s, hb⟩, ⟨ms, hl⟩⟩ := h
  exact ⟨fun z => (by rw [z, hb] at ha; cases ha), fun z => (by rw [z, hl] at ha; cases ha)⟩
theorem BoxAt.upd_ {H : Hp} {B L a : Addr} {o : HO} (h : BoxAt H B L) (nB : a ≠ B) (nL : a ≠ L) : BoxAt (upd H a o) B L := by
  obtain ⟨n, ⟨s, hb⟩, ⟨ms, hl⟩⟩ := h
  exact ⟨n, ⟨s, (upd_ne (Ne.symm nB)).trans hb⟩, ⟨ms, (upd_ne (Ne.symm nL)).trans hl⟩⟩
theorem SameX.new {B L a : Addr} {H H' : Hp} {o : HO} (s : SameX B L H H') (ha : H a = none) : SameX B L H (upd H' a o) := fun b u h1 h2 e => by
  rw [upd_ne (ne_of_none e ha)]
  exact s b u h1 h2 e
theorem SameX.free {B L a : Addr} {H H' : Hp} (s : SameX B L H H') (_b : BoxAt H B L) (ha : H' a = none) (b' : BoxAt H' B L) : H a = none := by
  cases e : H a with
  | none => rfl
  | some o =>
    obtain ⟨n1, n2⟩ := b'.nb ha
    rw [s a o n1 n2 e] at ha
    cases ha
theorem ix_listC {X : Cx} {K : PySem.W.Frag} (e : X.K = K) : IxR X (rIxL K) := by
  subst e
  exact ix_list
theorem ix_tupC {X : Cx} {K : PySem.W.Frag} (e : X.K = K) : IxR X (rIxT K) := by
  subst e
  exact ix_tup
theorem ixDC {X : Cx} {K : PySem.W.Frag} (e : X.K = K) : IxR X (fun x y H Q => ∃ d ds i d', Dp K H x d ∧ itemsD d = some ds ∧ y = .int i ∧ atI ds i = some d' ∧ ∀ v, Dp K H v d' → Q v H) := by
  subst e
  exact ixD
/-- what has no list of its own stays -/
theorem sqT_x {K : PySem.W.Frag} {H H' : Hp} {B L a : Addr} {xs : List V} (b : BoxAt H B L) (s : SameX B L H H') (h : SqT K H a xs) : SqT K H' a xs := by
  obtain ⟨_, ⟨st, hb⟩, ⟨ms, hl⟩⟩ := b
  rcases h with (h | ⟨o, h⟩) | h
  · exact .inl (.inl (s a _ (fun z => by rw [z, hb] at h; cases h) (fun z => by rw [z, hl] at h; cases h) h))
  · exact .inl (.inr ⟨o, s a _ (fun z => by rw [z, hb] at h; cases h) (fun z => by rw [z, hl] at h; cases h) h⟩)
  · exact .inr h
mutual
theorem dp_x {K : PySem.W.Frag} {H H' : Hp} {B L : Addr} (b : BoxAt H B L) (s : SameX B L H H') : ∀ (d : PyData) {v : V}, noL d = true → Dp K H v d → Dp K H' v d
  | .none, _, _, .non => .non
  | .bool x, _, _, .bl _ => .bl x
  | .int i, _, _, .int _ => .int i
  | .str x, _, _, .str _ => .str x
  | .list ds, _, h, _ => by cases h
  | .tuple ds, _, h, .tup q hs => .tup (sqT_x b s q) (dpAll_x b s ds h hs)
  | .dict _, _, h, _ => by cases h
theorem dpAll_x {K : PySem.W.Frag} {H H' : Hp} {B L : Addr} (b : BoxAt H B L) (s : SameX B L H H') : ∀ (ds : List PyData) {vs : List V}, noLs ds = true → DpAll K H vs ds → DpAll K H' vs ds
  | [], _, _, .nil => .nil
  | d :: ds, _, h, .cons q hs => by
    unfold noLs at h
    rw [Bool.and_eq_true] at h
    exact .cons (dp_x b s d h.1 q) (dpAll_x b s ds h.2 hs)
end
end RS
set_option Elab.async false
set_option maxRecDepth 100000
set_option maxHeartbeats 4000000
namespace RS
open PySem PySem.Spec PyProof.Rows L2 GX
theorem kinds_noL (ks : List Bool) : noL (kindsD ks) = true := noLs_iff.mpr fun d hd => by
  obtain ⟨b, _, rfl⟩ := List.mem_map.mp hd
  rfl
section
variable {P : Program} {w : World} {K : PySem.W.Frag} {mg : Str → Option Value} {base : Heap}
theorem dpKinds {H : Hp} : ∀ ks : List Bool, DpAll K H (ks.map fun b => V.str (kindS b)) (ks.map fun b => .str (kindS b))
  | [] => .nil
  | _ :: ks => .cons (.str _) (dpKinds ks)
theorem scKinds : FnScope ["_law_box", "_law_k"] ["_law_box"] (defScope sKinds) := ⟨rfl, rfl, rfl, by decide +kernel, rfl, by decide +kernel, by decide +kernel⟩
def spKinds (K : PySem.W.Frag) : Sp := fun vs H Q _ => ∃ (B L : Addr), vs = [.ref B] ∧ BoxAt H B L ∧
  ∀ (H' : Hp) (v : V) (ks : List Bool), SameX B L H H' → BoxAt H' B L → 1 ≤ ks.length → ks.length ≤ 4 → Dp K H' v (kindsD ks) → Q v H'
theorem two_at {k : Int} (h0 : 0 ≤ k) (h1 : k < 2) : ∃ b, atI [V.str "number", V.str "word"] k = some (.str (kindS b)) := by
  rcases (by omega : k = 0 ∨ k = 1) with e | e
  · subst e
    exact ⟨false, atI_nat (j := 0) rfl⟩
  · subst e
    exact ⟨true, atI_nat (j := 1) rfl⟩
theorem kinds_ok {c : Addr} (D : DefAt K mg "_law_kinds" sKinds c) (T : Txt K mg) (cT : Cal P w K mg base CX0 1 "_law_take" ["_law_box", "_law_many"] spTake) : Cal P w K mg base CX0 2 "_law_kinds" ["_law_box"] (spKinds K) := by
  have sc := scKinds
  refine def_ok0 D sc (fun vs H Q E h => ?_) (fun _ _ _ _ _ _ us hl => match us, hl with | [_], _ => rfl) (fun f A outer s H vs Q E hr h => ?_)
  · obtain ⟨B, L, rfl, _⟩ := h
    rfl
  · obtain ⟨B, L, rfl, hb, k⟩ := h
    refine ⟨_, (pss_one (ps_ret (pe_callTy call_tuple_of (by rfl) T.tuple_ (by decide +kernel) (pa_cons (pe_lc (own := [("_law_k", 1)]) (tt := tYes)  rfl sc.nd (pi_range1 (by rfl) T.range (pa_cons (pe_op op_add pe_int (pe_c cT hr (by decide) (by rfl) pass0 (pa_cons (pv 0) (pa_cons pe_int pa_nil)))) pa_nil)) (blkOk_by (N := ["_law_box", "_law_k"]) (sc := defScope sKinds) (own := [("_law_k", 1)]) (by decide +kernel)) (fun _ _ _ _ _ => (pg_name (i := 1) sc.nd rfl (Or.inl rfl))) (fun _ _ _ _ _ => pts_nil) (fun _ _ _ _ _ => (pe_ix (ix_listC (K := K) rfl) (pe_lst (pa_cons pe_str (pa_cons pe_str pa_nil))) (pe_c cT hr (by decide) (by rfl) pass0 (pa_cons (pv 0) (pa_cons pe_int pa_nil))) (fun _ _ => rfl)))) pa_nil)))), ?_⟩
    refine ⟨_, rfl, B, L, 4, rfl, hb, by decide, by decide, fun H1 n s1 b1 n0 n1 => ?_⟩
    refine ⟨_, _, rfl, rfl, _, rfl, by omega, by omega, fun DD hD => ?_⟩
    obtain ⟨nB, nL⟩ := b1.nb hD
    have e1 : (1 + n).toNat = n.toNat + 1 := by omega
    rw [e1]
    refine lc_range (fun i H2 => SameX B L H1 H2 ∧ BoxAt H2 B L ∧ ∃ ks : List Bool, ks.length = i ∧ H2 DD = some (.lst (ks.map fun b => V.str (kindS b)))) ⟨SameX.refl.new hD, b1.upd_ nB nL, [], rfl, upd_same⟩ ?_ ?_
    · rintro i H2 hi ⟨s2, b2, ks, lk, hl⟩
      refine ⟨rfl, by show 2 ≤ sizeLine; decide, fun e he => ?_⟩
      obtain ⟨neB, neL⟩ := b2.nb he
      have neD : DD ≠ e := fun z => by rw [← z, hl] at he; cases he
      refine ⟨_, rfl, B, L, 2, rfl, b2.upd_ neB neL, by decide, by decide, fun H3 k' s3 b3 h0 h1 => ?_⟩
      obtain ⟨bb, hbb⟩ := two_at h0 h1
      refine ⟨e, _, k', _, rfl, rfl, SqL.of (s3 e _ neB neL upd_same), hbb, ?_⟩
      refine ⟨_, s3 DD _ nB nL ((upd_ne neD).trans hl), small1000 (by rw [List.length_map]; omega), ?_, b3.upd_ nB nL, ks ++ [bb], by rw [List.length_append, lk]; rfl, ?_⟩
      · exact (s2.trans ((SameX.refl.new he).trans s3)).new hD
      · rw [upd_same, List.map_append]
        rfl
    · rintro H2 ⟨s2, b2, ks, lk, hl⟩
      refine ⟨DD, _, rfl, .inl ⟨SqL.of hl, fun p hp => ?_⟩⟩
      obtain ⟨npB, npL⟩ := b2.nb hp
      have s12 := s1.trans s2
      exact k _ (.ref p) ks (s12.new (s12.free hb hp b2)) (b2.upd_ npB npL) (by omega) (by omega) (.tup (SqT.of upd_same) (dpKinds ks))
end
end RS
set_option Elab.async false
set_option maxRecDepth 100000
set_option maxHeartbeats 4000000
namespace RS
open PySem PySem.Spec PyProof.Rows L2 GX
theorem perm_erase {α : Type} : ∀ {l : List α} {k : Nat} {x : α}, l[k]? = some x → l.Perm (x :: l.eraseIdx k)
  | [], k, x, h => by simp at h
  | y :: l, 0, x, h => by
    simp at h
    subst h
    exact List.Perm.refl _
  | y :: l, k + 1, x, h => by
    have ih := perm_erase (l := l) (k := k) (x := x) (by simpa using h)
    exact (ih.cons y).trans (List.Perm.swap x y _)
theorem map_erase {α β : Type} (f : α → β) : ∀ (l : List α) (k : Nat), (l.map f).eraseIdx k = (l.eraseIdx k).map f
  | [], _ => rfl
  | _ :: _, 0 => rfl
  | x :: l, k + 1 => by
    show f x :: (l.map f).eraseIdx k = f x :: (l.eraseIdx k).map f
    rw [map_erase f l k]
theorem seqIx {k n : Nat} (h : k < n) : seqIndex? (k : Int) n = some k := by
  simp [seqIndex?]
  omega
section
variable {P : Program} {w : World} {K : PySem.W.Frag} {mg : Str → Option Value} {base : Heap}
theorem dpNats {H : Hp} : ∀ ns : List Nat, DpAll K H (ns.map fun c => V.int (c : Nat)) (ns.map fun c => .int (c : Nat))
  | [] => .nil
  | _ :: ns => .cons (.int _) (dpNats ns)
end
end RS
set_option Elab.async false
set_option maxRecDepth 100000
set_option maxHeartbeats 4000000
namespace RS
open PySem PySem.Spec PyProof.Rows L2 GX
section
variable {P : Program} {w : World} {K : PySem.W.Frag} {mg : Str → Option Value} {base : Heap}
theorem two_ways {k : Int} (h0 : 0 ≤ k) (h1 : k < 2) : ∃ b, atI [V.str "up", V.str "down"] k = some (.str (wayS b)) := by
  rcases (by omega : k = 0 ∨ k = 1) with e | e
  · subst e
    exact ⟨false, atI_nat (j := 0) rfl⟩
  · subst e
    exact ⟨true, atI_nat (j := 1) rfl⟩
theorem parts_noL (os : List (Nat × Bool)) : noLs (os.map partD) = true := noLs_iff.mpr fun d hd => by
  obtain ⟨p, _, rfl⟩ := List.mem_map.mp hd
  rfl
theorem scOrder : FnScope ["_law_box", "_law_kinds_here", "_law_left", "_law_found", "_law_turn"] ["_law_box", "_law_kinds_here"] (defScope sOrder) := ⟨rfl, rfl, rfl, by decide +kernel, rfl, by decide +kernel, by decide +kernel⟩
def spOrder (K : PySem.W.Frag) : Sp := fun vs H Q _ => ∃ (B L : Addr) (vk : V) (ks : List Bool), vs = [.ref B, vk] ∧ BoxAt H B L ∧ Dp K H vk (kindsD ks) ∧ 1 ≤ ks.length ∧ ks.length ≤ 4 ∧
  ∀ (H' : Hp) (a : Addr) (os : List (Nat × Bool)) (xs : List V), SameX B L H H' → BoxAt H' B L → OkOrder ks.length os → os.length ≤ 4 → H a = none → H' a = some (.lst xs) → DpAll K H' xs (os.map partD) → Q (.ref a) H'
theorem order_ok {c : Addr} (D : DefAt K mg "_law_order" sOrder c) (T : Txt K mg) (cT : Cal P w K mg base CX0 1 "_law_take" ["_law_box", "_law_many"] spTake) : Cal P w K mg base CX0 2 "_law_order" ["_law_box", "_law_kinds_here"] (spOrder K) := by
  have sc := scOrder
  refine def_ok0 D sc (fun vs H Q E h => ?_) (fun _ _ _ _ _ _ us hl => match us, hl with | [_, _], _ => rfl) (fun f A outer s H vs Q E hr h => ?_)
  · obtain ⟨B, L, vk, ks, rfl, _⟩ := h
    rfl
  · obtain ⟨B, L, vk, ks, rfl, hb, hk, k1, k4, k⟩ := h
    refine ⟨_, (pss_cons (ps_set (i := 2) sc.nd rfl (Or.inl rfl) (pe_listRg rfl (by rfl) T.list_ (prg_1 (by rfl) T.range (pe_callB call_lenD (by rfl) T.len PySem.boot_len (pa_cons (pv 1) pa_nil))))) (pss_cons (ps_set (i := 3) sc.nd rfl (Or.inl rfl) (pe_lst pa_nil)) (pss_cons (ps_for PassesOwn.never rfl (pi_range1 (by rfl) T.range (pa_cons (pe_op op_add pe_int (pe_c cT hr (by decide) (by rfl) pass0 (pa_cons (pv 0) (pa_cons (pe_callB call_lenD (by rfl) T.len PySem.boot_len (pa_cons (pv 1) pa_nil)) pa_nil)))) pa_nil)) (pg_name (i := 4) sc.nd rfl (Or.inl rfl)) (pss_one (ps_expr (pe_bm PySem.F.plainAttrs_list PySem.F.slot_list_append PySem.F.type_list_append mt_append (pv 3) (pa_cons (pe_tup (pa_cons (pe_bm PySem.F.plainAttrs_list PySem.F.slot_list_pop PySem.F.type_list_pop mt_popAt (pv 2) (pa_cons (pe_c cT hr (by decide) (by rfl) pass0 (pa_cons (pv 0) (pa_cons (pe_callB call_lenD (by rfl) T.len PySem.boot_len (pa_cons (pv 2) pa_nil)) pa_nil))) pa_nil)) (pa_cons (pe_ix ix_list (pe_lst (pa_cons pe_str (pa_cons pe_str pa_nil))) (pe_c cT hr (by decide) (by rfl) pass0 (pa_cons (pv 0) (pa_cons pe_int pa_nil))) (fun _ _ => rfl)) pa_nil))) pa_nil))))) (pss_one (ps_ret (pv 3)))))), ?_⟩
    have lk : (ks.map fun b => PyData.str (kindS b)).length = ks.length := List.length_map _
    refine ⟨_, rfl, vk, _, _, rfl, hk, rfl, _, rfl, .of_le (by decide) (by omega) (by decide) (by omega), fun Lf hLf => ?_⟩
    refine ⟨Nat.zero_le _, fun Fd hFd => ?_⟩
    obtain ⟨nfB, nfL⟩ := hb.nb hLf
    have hFd0 := upd_no hFd
    obtain ⟨ndB, ndL⟩ := hb.nb hFd0
    have nFL : Fd ≠ Lf := fun z => by rw [z, upd_same] at hFd; cases hFd
    have s1 : Same H (upd (upd H Lf (.lst (rgV 0 ((ks.map fun b => PyData.str (kindS b)).length : Nat)))) Fd (.lst [])) := fun b o e => by
      rw [upd_ne (ne_of_none e hFd0), upd_ne (ne_of_none e hLf)]
      exact e
    refine ⟨_, rfl, _, rfl, vk, _, _, rfl, dp_same s1 _ hk, rfl, B, L, _, rfl, hb.same s1, by omega, by omega, fun H1 n s2 b2 n0 n1 => ?_⟩
    refine ⟨_, _, rfl, rfl, _, rfl, by omega, by omega, ?_⟩
    rw [show (1 + n).toNat = n.toNat + 1 by omega]
    have hL1 : H1 Lf = some (.lst ((List.range ks.length).map fun c => V.int (c : Nat))) := by
      rw [s2 Lf (.lst (rgV 0 ((ks.map fun b => PyData.str (kindS b)).length : Nat))) nfB nfL ((upd_ne (Ne.symm nFL)).trans upd_same)]
      simp [rgV]
    have sHX : SameX B L H H1 := (SameX.of s1).trans s2
    have hF1 : H1 Fd = some (.lst []) := s2 Fd _ ndB ndL upd_same
    refine for_range (fun i σ H2 => ∃ (v4 : Option V) (cols : List Nat) (os : List (Nat × Bool)) (xs : List V), σ = [some (.ref B), some vk, some (.ref Lf), some (.ref Fd), v4] ∧ SameX B L H H2 ∧ BoxAt H2 B L ∧
      H2 Lf = some (.lst (cols.map fun c => V.int (c : Nat))) ∧ H2 Fd = some (.lst xs) ∧ DpAll K H2 xs (os.map partD) ∧ os.length = i ∧ cols.length + i = ks.length ∧ (os.map (·.1) ++ cols).Nodup ∧ ∀ c ∈ os.map (·.1) ++ cols, c < ks.length)
      ⟨none, List.range ks.length, [], [], rfl, sHX, b2, hL1, hF1, .nil, rfl, by rw [List.length_range]; rfl, List.nodup_range, fun c hc => List.mem_range.mp hc⟩ ?_ ?_
    · rintro i σ H2 hi ⟨v4, cols, os, xs, rfl, sm, b3, hL, hF, hd, lo, lc, nd, lt⟩
      have lc2 : (cols.map fun c => PyData.int (c : Nat)).length = cols.length := List.length_map _
      refine ⟨_, rfl, .inl ⟨rfl, _, SqL.of hF⟩, _, rfl, .inl ⟨rfl, _, SqL.of hL⟩, _, rfl, _, rfl, .ref Lf, _, _, rfl, .lst (SqL.of hL) (dpNats cols), rfl, B, L, _, rfl, b3, by omega, by omega, fun H3 k1 s4 b4 h0 h1 => ?_⟩
      obtain ⟨kn, rfl⟩ : ∃ kn : Nat, k1 = (kn : Int) := ⟨k1.toNat, by omega⟩
      have hkn : kn < cols.length := by omega
      have hL3 := s4 _ _ nfB nfL hL
      have hF3 := s4 _ _ ndB ndL hF
      refine ⟨Lf, _, (kn : Int), kn, .int (cols[kn] : Nat), rfl, rfl, hL3, by omega, by omega, seqIx (by rw [List.length_map]; exact hkn), by rw [List.getElem?_map, List.getElem?_eq_getElem hkn]; rfl, ?_⟩
      rw [map_erase]
      have b5 := b4.upd_ (o := .lst ((cols.eraseIdx kn).map fun c => V.int (c : Nat))) nfB nfL
      refine ⟨by show 2 ≤ sizeLine; decide, fun e he => ?_⟩
      obtain ⟨neB, neL⟩ := b5.nb he
      refine ⟨_, rfl, B, L, 2, rfl, b5.upd_ neB neL, by decide, by decide, fun H5 k2 s6 b6 g0 g1 => ?_⟩
      obtain ⟨bb, hbb⟩ := two_ways g0 g1
      refine ⟨e, _, k2, _, rfl, rfl, SqL.of (s6 e _ neB neL upd_same), hbb, ?_⟩
      refine ⟨by show 2 ≤ sizeLine; decide, fun p hp => ?_⟩
      obtain ⟨npB, npL⟩ := b6.nb hp
      have hF4 : upd H3 Lf (.lst ((cols.eraseIdx kn).map fun c => V.int (c : Nat))) Fd = some (.lst xs) := (upd_ne nFL).trans hF3
      have neF : Fd ≠ e := fun z => by rw [← z, hF4] at he; cases he
      have neLf : Lf ≠ e := fun z => by rw [← z, upd_same] at he; cases he
      have hF5 : H5 Fd = some (.lst xs) := s6 _ _ ndB ndL ((upd_ne neF).trans hF4)
      have hL5 : H5 Lf = some (.lst ((cols.eraseIdx kn).map fun c => V.int (c : Nat))) := s6 _ _ nfB nfL ((upd_ne neLf).trans upd_same)
      have npF : Fd ≠ p := fun z => by rw [← z, hF5] at hp; cases hp
      have npLf : Lf ≠ p := fun z => by rw [← z, hL5] at hp; cases hp
      have lx : xs.length = os.length := by rw [dpLen hd, List.length_map]
      refine ⟨Fd, xs, _, rfl, rfl, (upd_ne npF).trans hF5, small1000 (by omega), ?_⟩
      have he3 : H3 e = none := upd_no he
      have sH3 : SameX B L H H3 := sm.trans s4
      have hE0 := sH3.free hb he3 b4
      have sH5 : SameX B L H H5 := ((sH3.new hLf).new hE0).trans s6
      have hP0 := sH5.free hb hp b6
      have pn := parts_noL os
      have pn2 := parts_noL (os ++ [(cols[kn], bb)])
      have hd4 := dpAll_upd (u := (cols.eraseIdx kn).map fun c => V.int (c : Nat)) hL3 _ pn (dpAll_x b3 s4 _ pn hd)
      have hd5 : DpAll K H5 xs (os.map partD) := dpAll_x (b5.upd_ neB neL) s6 _ pn (dpAll_same (fun b o q => by rw [upd_ne (ne_of_none q he)]; exact q) _ hd4)
      have hd6 : DpAll K (upd H5 p (.tup [.int (cols[kn] : Nat), .str (wayS bb)])) (xs ++ [.ref p]) ((os ++ [(cols[kn], bb)]).map partD) := by
        rw [List.map_append]
        exact dpApp (dpAll_same (fun b o q => by rw [upd_ne (ne_of_none q hp)]; exact q) _ hd5) (.cons (.tup (SqT.of upd_same) (.cons (.int _) (.cons (.str _) .nil))) .nil)
      have pm := perm_erase (List.getElem?_eq_getElem hkn)
      have pq : ((os ++ [(cols[kn], bb)]).map (·.1) ++ cols.eraseIdx kn).Perm (os.map (·.1) ++ cols) := by
        rw [List.map_append, List.append_assoc]
        exact (pm.symm).append_left _
      have lE : (cols.eraseIdx kn).length + 1 = cols.length := by
        have := pm.length_eq
        rw [List.length_cons] at this
        omega
      refine ⟨_, cols.eraseIdx kn, os ++ [(cols[kn], bb)], _, rfl, (sH5.new hP0).new hFd0, (b6.upd_ npB npL).upd_ ndB ndL, (upd_ne (Ne.symm nFL)).trans ((upd_ne npLf).trans hL5), upd_same, dpAll_upd ((upd_ne npF).trans hF5) _ pn2 hd6, by rw [List.length_append, lo]; rfl, by omega, pq.nodup_iff.mpr nd, fun c hc => lt c (pq.mem_iff.mp hc)⟩
    · rintro σ H2 ⟨v4, cols, os, xs, rfl, sm, b3, hL, hF, hd, lo, lc, nd, lt⟩
      refine ⟨_, rfl, k H2 Fd os xs sm b3 ⟨fun z => ?_, fun p hp => lt _ (List.mem_append_left _ (List.mem_map.mpr ⟨p, hp, rfl⟩)), (List.nodup_append.mp nd).1⟩ (by omega) hFd0 hF hd⟩
      rw [z] at lo
      simp at lo
end
end RS
set_option Elab.async false
set_option maxRecDepth 100000
set_option maxHeartbeats 4000000
namespace RS
open PySem PySem.Spec PyProof.Rows L2 GX
section
variable {P : Program} {w : World} {K : PySem.W.Frag} {mg : Str → Option Value} {base : Heap}
theorem scRO : FnScope ["kinds", "text", "order", "place", "part", "words"] ["kinds", "text"] (defScope s_read_order) := ⟨rfl, rfl, rfl, by decide +kernel, rfl, by decide +kernel, by decide +kernel⟩
def spRO (K : PySem.W.Frag) (p pF : Addr) : Sp := fun vs H Q _ => ∃ (vk : V) (ks : List Bool) (os : List (Nat × Bool)), vs = [vk, .str (textO os)] ∧ Dp K H vk (kindsD ks) ∧ 1 ≤ ks.length ∧ ks.length ≤ 4 ∧ OkOrder ks.length os ∧ os.length ≤ 4 ∧ Tab H p ∧ Tab H pF ∧ ∀ H' v, Same H H' → Dp K H' v (orderD os) → Q v H'
theorem read_order_ok {c p pF : Addr} (D : DefAt K mg "read_order" s_read_order c) (T : Txt K mg) (cK : Cal P w K mg base CX0 2 "check_kinds" ["kinds"] (spCheckKinds K p)) (cO : Cal P w K mg base CX0 3 "check_order" ["kinds", "order"] (spCheckOrder K))
    (cF : Cal P w K mg base CX0 2 "is_figures" ["word"] (spFigures pF)) : Cal P w K mg base CX0 4 "read_order" ["kinds", "text"] (spRO K p pF) := by
  have sc := scRO
  obtain ⟨aW, hW, hWS⟩ := T.ways
  refine def_ok0 D sc (fun vs H Q E h => ?_) (fun _ _ _ _ _ _ us hl => match us, hl with | [_, _], _ => rfl) (fun f A outer s H vs Q E hr h => ?_)
  · obtain ⟨vk, ks, os, rfl, _⟩ := h
    rfl
  · obtain ⟨vk, ks, os, rfl, hk, k1, k4, ok, l4, ht, htF, k⟩ := h
    refine ⟨_, (pss_cons (ps_expr (pe_c cK hr (by decide) (by rfl) pass0 (pa_cons (pv 0) pa_nil))) (pss_cons (ps_set (i := 2) sc.nd rfl (Or.inl rfl) (pe_lst pa_nil)) (pss_cons (ps_for PassesOwn.never rfl (pi_enum (by rfl) T.enumerate (pa_cons (pe_bm PySem.F.plainAttrs_str PySem.F.slot_str_split PySem.F.type_str_split mt_split (pv 1) (pa_cons pe_str pa_nil)) pa_nil)) (pg_tup (by rfl) (pgs_cons (pg_name (i := 3) sc.nd rfl (Or.inl rfl)) (pgs_cons (pg_name (i := 4) sc.nd rfl (Or.inl rfl)) pgs_nil))) (pss_cons (ps_set (i := 5) sc.nd rfl (Or.inl rfl) (pe_bm PySem.F.plainAttrs_str PySem.F.slot_str_split PySem.F.type_str_split mt_split (pv 4) (pa_cons pe_str pa_nil))) (pss_cons (ps_if ((pw_or (pt_cmpR op_ne (pe_callB call_len_seq (by rfl) T.len PySem.boot_len (pa_cons (pv 5) pa_nil)) pe_int (nomark _)) (pw_or (pt_not (pt_val (pe_c cF hr (by decide) (by rfl) pass0 (pa_cons (pe_ix ix_list (pv 5) pe_int (fun _ _ => rfl)) pa_nil)))) (pw_or1 (pt_cmpR op_notIn_seq (pe_ix ix_list (pv 5) pe_int (fun _ _ => rfl)) (pe_glob (v := V.ref aW) (by rfl) hW rfl) (by rfl))))).pt) pss_never pss_nil) (pss_one (ps_expr (pe_bm PySem.F.plainAttrs_list PySem.F.slot_list_append PySem.F.type_list_append mt_append (pv 2) (pa_cons (pe_tup (pa_cons (pe_callTy call_int_str (by rfl) T.int_ (by decide +kernel) (pa_cons (pe_ix ix_list (pv 5) pe_int (fun _ _ => rfl)) pa_nil)) (pa_cons (pe_ix ix_list (pv 5) pe_int (fun _ _ => rfl)) pa_nil))) pa_nil))))))) (pss_cons (ps_expr (pe_c cO hr (by decide) (by rfl) pass0 (pa_cons (pv 0) (pa_cons (pv 2) pa_nil)))) (pss_one (ps_ret (pv 2))))))), ?_⟩
    have c4 : ∀ q ∈ os, q.1 < 4 := fun q hq => Nat.lt_of_lt_of_le (ok.col q hq) k4
    obtain ⟨z1, z2⟩ := order_len l4 c4
    have big : (1000 : Nat) ≤ sizeLine := by decide
    refine ⟨_, rfl, vk, ks, rfl, hk, k1, k4, ht, Nat.zero_le _, fun O hO => ?_⟩
    refine ⟨_, rfl, rfl, _, _, rfl, rfl, by decide +kernel, by omega, fun W hW2 => ?_⟩
    have hW0 := upd_no hW2
    have nOW : O ≠ W := fun z => by rw [← z, upd_same] at hW2; cases hW2
    have es : (Txt.split (textO os) ", ").map V.str = os.map fun q => V.str (partS q) := by
      rw [show Txt.split (textO os) ", " = os.map partS from order_split ok.some_ c4, List.map_map]
      rfl
    rw [es]
    have s0 : Same H (upd (upd H O (.lst [])) W (.lst (os.map fun q => V.str (partS q)))) := fun b o e => by
      rw [upd_ne (ne_of_none e hW0), upd_ne (ne_of_none e hO)]
      exact e
    refine ⟨W, _, rfl, SqL.of upd_same, for_by os.length (fun i σ H' => ∃ (v3 v4 v5 : Option V) (xs : List V), σ = [some vk, some (.str (textO os)), some (.ref O), v3, v4, v5] ∧ Same H H' ∧ H' W = some (.lst (os.map fun q => V.str (partS q))) ∧ H' O = some (.lst xs) ∧ DpAll K H' xs ((os.take i).map partD))
      ⟨none, none, none, [], rfl, s0, upd_same, (upd_ne nOW).trans upd_same, .nil⟩ ?_ ?_⟩
    · rintro i σ H1 hi ⟨v3, v4, v5, xs, rfl, sm, hW1, hO1, hd⟩
      have eg : os[i]? = some os[i] := List.getElem?_eq_getElem hi
      have hc4 := c4 os[i] (List.getElem_mem hi)
      generalize hq : os[i] = q at eg hc4
      have ew : (os.map fun q => V.str (partS q))[i]? = some (V.str (partS q)) := by
        rw [List.getElem?_map, eg]
        rfl
      refine ⟨⟨_, V.str (partS q), SqL.of hW1, ew⟩, fun y H2 ⟨TT, x, ey, hT, eH, hx⟩ => ?_⟩
      subst ey eH
      have ex := hx _ (SqL.of hW1)
      rw [ew] at ex
      cases ex
      obtain ⟨cc, b⟩ := q
      obtain ⟨_, p1, p2, p3, p4, _⟩ := part_all cc hc4 b
      have n40 : cc < 40 := by
        have : cc < 4 := hc4
        omega
      have sT : Same H1 (upd H1 TT (.tup [.int (i : Nat), .str (partS (cc, b))])) := fun b' o e => by
        rw [upd_ne (ne_of_none e hT)]
        exact e
      refine ⟨TT, _, rfl, SqT.of upd_same, rfl, _, _, rfl, _, _, rfl, rfl, ?_⟩
      refine ⟨_, rfl, rfl, _, _, rfl, rfl, by decide +kernel, by omega, fun Wd hWd => ?_⟩
      have ep : (Txt.split (partS (cc, b)) " ").map V.str = [V.str (numS cc), V.str (wayS b)] := by
        rw [show Txt.split (partS (cc, b)) " " = [numS cc, wayS b] from part_split hc4]
        rfl
      rw [ep]
      have s2 : Same H1 (upd (upd H1 TT (.tup [.int (i : Nat), .str (partS (cc, b))])) Wd (.lst [V.str (numS cc), V.str (wayS b)])) := fun b' o e => by
        rw [upd_ne (ne_of_none (sT _ _ e) hWd)]
        exact sT _ _ e
      have hWd2 : (upd (upd H1 TT (.tup [.int (i : Nat), .str (partS (cc, b))])) Wd (.lst [V.str (numS cc), V.str (wayS b)])) Wd = some (.lst [V.str (numS cc), V.str (wayS b)]) := upd_same
      generalize upd (upd H1 TT (.tup [.int (i : Nat), .str (partS (cc, b))])) Wd (.lst [V.str (numS cc), V.str (wayS b)]) = H2 at s2 hWd2 ⊢
      refine ⟨_, rfl, Wd, _, rfl, .inl (SqL.of hWd2), rfl, _, rfl, ?_⟩
      refine iteF ⟨_, rfl, Wd, _, _, _, rfl, rfl, SqL.of hWd2, atI_nat (j := 0) rfl, cc, rfl, n40, s2 _ _ (sm _ _ htF), _, rfl, ?_⟩
      refine iteF ⟨_, rfl, Wd, _, _, _, rfl, rfl, SqL.of hWd2, atI_nat (j := 1) rfl, aW, _, rfl, .inr (hWS _), rfl, rfl, ?_⟩
      have eb : (if true then !inV (.str (wayS b)) [.str "up", .str "down"] else inV (.str (wayS b)) [.str "up", .str "down"]) = false := by
        rw [inV_way]
        rfl
      refine ⟨false, congrArg V.bl eb, iteF ?_⟩
      have hO2 := s2 _ _ hO1
      obtain ⟨f1, _, _, _, _, _, _, f8⟩ := num_all cc n40
      refine ⟨_, rfl, .inl ⟨rfl, _, SqL.of hO2⟩, _, rfl, Wd, _, _, _, rfl, rfl, SqL.of hWd2, atI_nat (j := 0) rfl, numS cc, _, rfl, f8, by omega, _, rfl, Wd, _, _, _, rfl, rfl, SqL.of hWd2, atI_nat (j := 1) rfl, by show 2 ≤ sizeLine; decide, fun pt hpt => ?_⟩
      have s3 : Same H2 (upd H2 pt (.tup [.int (cc : Int), .str (wayS b)])) := fun b' o e => by
        rw [upd_ne (ne_of_none e hpt)]
        exact e
      have hO3 := s3 _ _ hO2
      have lx : xs.length = i := by rw [dpLen hd, List.length_map, List.length_take]; omega
      refine ⟨O, xs, _, rfl, rfl, hO3, small1000 (by omega), ?_⟩
      have et : os.take (i + 1) = os.take i ++ [(cc, b)] := by
        rw [List.take_add_one, eg]
        rfl
      refine ⟨_, _, _, _, rfl, fun b' o e => ?_, (upd_ne (Ne.symm nOW)).trans (s3 _ _ (s2 _ _ hW1)), upd_same, ?_⟩
      · rw [upd_ne (ne_of_none e hO)]
        exact s3 _ _ (s2 _ _ (sm _ _ e))
      · rw [et, List.map_append]
        have nl := parts_noL (os.take i ++ [(cc, b)])
        rw [List.map_append] at nl
        exact dpAll_upd hO3 _ nl (dpApp (dpAll_same s3 _ (dpAll_same s2 _ hd)) (.cons (.tup (SqT.of upd_same) (.cons (.int _) (.cons (.str _) .nil))) .nil))
    · rintro σ H1 ⟨v3, v4, v5, xs, rfl, sm, hW1, hO1, hd⟩
      rw [List.take_length] at hd
      have hdo : Dp K H1 (.ref O) (orderD os) := .lst (SqL.of hO1) hd
      refine ⟨⟨_, SqL.of hW1, by rw [List.length_map]; exact Nat.le_refl _⟩, _, rfl, _, rfl, vk, .ref O, ks, os, rfl, dp_same sm _ hk, hdo, ok, by omega, fun H2 s2 => ?_⟩
      exact ⟨_, rfl, k H2 _ (sm.trans s2) (dp_same s2 _ hdo)⟩
end
end RS
set_option Elab.async false
set_option maxRecDepth 100000
set_option maxHeartbeats 8000000
set_option pp.maxSteps 400
namespace RS
open PySem PySem.Spec PyProof.Rows L2 GX LM
/-! ### the parts of an order's text -/
def wayO (s : Str) : Option Bool := if s = wayS false then some false else if s = wayS true then some true else none
theorem wayO_some {s : Str} {b : Bool} (h : wayO s = some b) : s = wayS b := by
  unfold wayO at h
  split at h
  · cases h; assumption
  · split at h
    · cases h; assumption
    · cases h
theorem wayO_none {s : Str} (h : wayO s = none) : s ≠ wayS false ∧ s ≠ wayS true := by
  unfold wayO at h
  split at h
  · cases h
  · split at h
    · cases h
    · exact ⟨by assumption, by assumption⟩
theorem inV_wayO (s : Str) : inV (.str s) [.str "up", .str "down"] = (wayO s).isSome := by
  cases h : wayO s with
  | some b =>
    rw [wayO_some h, inV_way]
    rfl
  | none =>
    obtain ⟨h1, h2⟩ := wayO_none h
    have a1 : ¬ V.str s = V.str (Str.ofString "up") := fun z => h1 (V.str.inj z)
    have a2 : ¬ V.str s = V.str (Str.ofString "down") := fun z => h2 (V.str.inj z)
    have b1 : ((Str.ofString "up") == s) = false := beq_eq_false_iff_ne.mpr fun z => a1 (by rw [z])
    have b2 : ((Str.ofString "down") == s) = false := beq_eq_false_iff_ne.mpr fun z => a2 (by rw [z])
    show (((Str.ofString "up") == s) || (((Str.ofString "down") == s) || false)) = false
    rw [b1, b2]
    rfl
def partO (ws : List Str) : Option (Nat × Bool) := if ws.length = 2 then (numO (ws.getD 0 "")).bind fun n => (wayO (ws.getD 1 "")).map fun v => (n, v) else none
theorem partO_two {a b : Str} : partO [a, b] = (numO a).bind fun n => (wayO b).map fun v => (n, v) := rfl
theorem partO_some {ws : List Str} {q : Nat × Bool} (h : partO ws = some q) : ws = [numS q.1, wayS q.2] ∧ q.1 < 100 := by
  unfold partO at h
  split at h
  · rename_i h2
    match ws, h2, h with
    | [a, b], _, h =>
      have h : (numO a).bind (fun n => (wayO b).map fun v => (n, v)) = some q := h
      obtain ⟨n, hn, h⟩ := Option.bind_eq_some_iff.mp h
      obtain ⟨v, hv, e⟩ := Option.map_eq_some_iff.mp h
      subst e
      obtain ⟨h1, h2⟩ := numO_some hn
      exact ⟨by rw [h2, wayO_some hv], h1⟩
  · cases h
def runO : List Str → Nat → List (Nat × Bool) → Sum Nat (List (Nat × Bool))
  | [], _, os => .inr os
  | p :: ps, i, os => match partO (Txt.split p sp1) with
    | none => .inl i
    | some q => runO ps (i + 1) (os ++ [q])
/-- what an order's text tells: the first part that is none, or an order -/
def readO (t : Str) : Sum Nat (List (Nat × Bool)) := runO (Txt.split t cm1) 0 []
theorem runO_step {ps : List Str} {n i : Nat} {os : List (Nat × Bool)} {p : Str} (hx : ps[i]? = some p) : runO (ps.drop i) n os = match partO (Txt.split p sp1) with
    | none => .inl n
    | some q => runO (ps.drop (i + 1)) (n + 1) (os ++ [q]) := by
  obtain ⟨h, e⟩ := List.getElem?_eq_some_iff.mp hx
  rw [List.drop_eq_getElem_cons h, e]
  rfl
theorem readO_len {t : Str} {os : List (Nat × Bool)} (h : readO t = .inr os) : os.length = (Txt.split t cm1).length ∧ ∀ q ∈ os, q.1 < 100 := by
  have gen : ∀ (ps : List Str) (i : Nat) (a b : List (Nat × Bool)), (∀ q ∈ a, q.1 < 100) → runO ps i a = .inr b → b.length = a.length + ps.length ∧ ∀ q ∈ b, q.1 < 100 := by
    intro ps
    induction ps with
    | nil =>
      intro i a b ha e
      cases e
      exact ⟨rfl, ha⟩
    | cons p ps ih =>
      intro i a b ha e
      unfold runO at e
      cases hp : partO (Txt.split p sp1) with
      | none => rw [hp] at e; cases e
      | some q =>
        rw [hp] at e
        obtain ⟨h1, h2⟩ := ih (i + 1) (a ++ [q]) b (fun r hr => by
          rcases List.mem_append.mp hr with hr | hr
          · exact ha r hr
          · rw [List.mem_singleton.mp hr]; exact (partO_some hp).2) e
        rw [List.length_append, List.length_singleton] at h1
        exact ⟨by rw [h1, List.length_cons]; omega, h2⟩
  obtain ⟨h1, h2⟩ := gen _ 0 [] os (fun _ h => nomatch h) h
  exact ⟨by simpa using h1, h2⟩
theorem bad_ord {n : Nat} : ∀ (suf pre os : List (Nat × Bool)), os = pre ++ suf → os ≠ [] → (∀ p ∈ pre, p.1 < n) → (pre.map (·.1)).Nodup → ¬ OkOrder n os → BadOrd n (os.map partL)
  | [], pre, os, e, ne, h1, h2, bad => by
    rw [List.append_nil] at e
    subst e
    exact absurd ⟨ne, h1, h2⟩ bad
  | q :: suf, pre, os, e, ne, h1, h2, bad => by
    by_cases c1 : q.1 < n ∧ q.1 ∉ pre.map (·.1)
    · refine bad_ord suf (pre ++ [q]) os (by rw [e]; simp) ne (fun p hp => ?_) ?_ bad
      · rcases List.mem_append.mp hp with hp | hp
        · exact h1 p hp
        · rw [List.mem_singleton.mp hp]; exact c1.1
      · rw [List.map_append]
        refine List.nodup_append.mpr ⟨h2, by simp, fun a ha b hb => ?_⟩
        simp only [List.map_cons, List.map_nil, List.mem_singleton] at hb
        rw [hb]
        exact fun z => c1.2 (z ▸ ha)
    · refine .inr ⟨pre, partL q, suf.map partL, by rw [e, List.map_append, List.map_cons], h1, h2, .inr ⟨_, _, rfl⟩, ?_⟩
      by_cases c2 : q.1 < n
      · exact .inr ⟨q, rfl, c2, by
          by_cases c3 : q.1 ∈ pre.map (·.1)
          · exact c3
          · exact absurd ⟨c2, c3⟩ c1⟩
      · refine .inl ?_
        show (decide ((0 : Int) ≤ (q.1 : Int)) && decide ((q.1 : Int) < (n : Int)) && _) = false
        rw [decide_eq_false (show ¬ (q.1 : Int) < (n : Int) by omega), Bool.and_false, Bool.false_and]
theorem rows_order (os : List (Nat × Bool)) : orderD os = rowsD (os.map partL) := by
  unfold orderD rowsD
  rw [List.map_map]
  rfl
theorem parts_fit {t : Str} (h : t.length ≤ 720) : (Txt.split t cm1).length ≤ 800 ∧ ∀ x ∈ Txt.split t cm1, x.length ≤ 720 := by
  have h1 := split_weight t cm1 (by decide)
  exact ⟨by omega, fun x hx => Nat.le_trans (part_short hx) h⟩
theorem parts_some (t : Str) : Txt.split t cm1 ≠ [] := fun e => by
  have h := StrLaws.join_split t cm1
  rw [e] at h
  have h : Str.empty = t := h
  rw [← h] at e
  exact absurd e (by decide +kernel)
section
variable {P : Program} {w : World} {K : PySem.W.Frag} {mg : Str → Option Value} {base : Heap}
def spROA (K : PySem.W.Frag) (p pF C1 CT : Addr) : Sp := fun vs H Q E => ∃ (vk : V) (ks : List Bool) (t : Str), vs = [vk, .str t] ∧ Dp K H vk (kindsD ks) ∧ 1 ≤ ks.length ∧ ks.length ≤ 4 ∧ t.length ≤ 720 ∧ Tab H p ∧ Tab H pF ∧
  (∀ i, readO t = .inl i → ∀ (H' : Hp) (dd : Addr), Same H H' → H' dd = some (.xd [("place", .int (i : Nat))]) → E (.ref CT) (some dd) H') ∧
  (∀ os, readO t = .inr os → ¬ OkOrder ks.length os → ∀ H', Same H H' → E (.ref C1) none H') ∧
  (∀ os, readO t = .inr os → OkOrder ks.length os → ∀ H' v, Same H H' → Dp K H' v (orderD os) → Q v H')
theorem read_orderA_ok {c p pF C1 CT : Addr} (D : DefAt K mg "read_order" s_read_order c) (T : Txt K mg) (NE : NumE P w K mg base "BadText" "place" CT) (cK : Cal P w K mg base CX0 2 "check_kinds" ["kinds"] (spCheckKinds K p)) (cO : Cal P w K mg base CX0 3 "check_order" ["kinds", "order"] (spCheckOrder K)) (cOE : Cal P w K mg base (L2.CX P w) 3 "check_order" ["kinds", "order"] (spOrderE K C1))
    (cF : Cal P w K mg base CX0 2 "is_figures" ["word"] (spFigA pF)) : Cal P w K mg base (L2.CX P w) 4 "read_order" ["kinds", "text"] (spROA K p pF C1 CT) := by
  have sc := scRO
  obtain ⟨aW, hW, hWS⟩ := T.ways
  refine def_ok D sc (fun vs H Q E h => ?_) (fun _ _ _ _ _ _ us hl => match us, hl with | [_, _], _ => rfl) (fun f A outer s H vs Q E hr h => ?_)
  · obtain ⟨vk, ks, t, rfl, _⟩ := h
    rfl
  · obtain ⟨vk, ks, t, rfl, hk, k1, k4, tl, ht, htF, kT, kB, kG⟩ := h
    obtain ⟨p8, px⟩ := parts_fit tl
    have big : (1000 : Nat) ≤ sizeLine := by decide
    generalize eps : Txt.split t cm1 = ps at p8 px
    have er : readO t = runO ps 0 [] := by
      unfold readO
      rw [eps]
    by_cases good : ∃ os, readO t = .inr os ∧ OkOrder ks.length os
    · refine ⟨_, (pss_cons (ps_expr (pe_c cK hr (by decide) (by rfl) pass0 (pa_cons (pv 0) pa_nil))) (pss_cons (ps_set (i := 2) sc.nd rfl (Or.inl rfl) (pe_lst pa_nil)) (pss_cons (ps_for (passes_of rfl) rfl (pi_enum (by rfl) T.enumerate (pa_cons (pe_bm PySem.F.plainAttrs_str PySem.F.slot_str_split PySem.F.type_str_split mt_split (pv 1) (pa_cons pe_str pa_nil)) pa_nil)) (pg_tup (by rfl) (pgs_cons (pg_name (i := 3) sc.nd rfl (Or.inl rfl)) (pgs_cons (pg_name (i := 4) sc.nd rfl (Or.inl rfl)) pgs_nil))) (pss_cons (ps_set (i := 5) sc.nd rfl (Or.inl rfl) (pe_bm PySem.F.plainAttrs_str PySem.F.slot_str_split PySem.F.type_str_split mt_split (pv 4) (pa_cons pe_str pa_nil))) (pss_cons (ps_if ((pw_or (pt_cmpR op_ne (pe_callB call_len_seq (by rfl) T.len PySem.boot_len (pa_cons (pv 5) pa_nil)) pe_int (nomark _)) (pw_or (pt_not (pt_val (pe_c cF hr (by decide) (by rfl) pass0 (pa_cons (pe_ix ix_list (pv 5) pe_int (fun _ _ => rfl)) pa_nil)))) (pw_or1 (pt_cmpR op_notIn_seq (pe_ix ix_list (pv 5) pe_int (fun _ _ => rfl)) (pe_glob (v := V.ref aW) (by rfl) hW rfl) (by rfl))))).pt) (pss_one (ps_raise rfl (takes_of rfl rfl rfl rfl) (pmk_num NE (hr.mono (by decide)) (by rfl) (pv 3)))) pss_nil) (pss_one (ps_expr (pe_bm PySem.F.plainAttrs_list PySem.F.slot_list_append PySem.F.type_list_append mt_append (pv 2) (pa_cons (pe_tup (pa_cons (pe_callTy call_int_str (by rfl) T.int_ (by decide +kernel) (pa_cons (pe_ix ix_list (pv 5) pe_int (fun _ _ => rfl)) pa_nil)) (pa_cons (pe_ix ix_list (pv 5) pe_int (fun _ _ => rfl)) pa_nil))) pa_nil))))))) (pss_cons (ps_expr (pe_c cO hr (by decide) (by rfl) pass0 (pa_cons (pv 0) (pa_cons (pv 2) pa_nil)))) (pss_one (ps_ret (pv 2))))))), ?_⟩
      refine ⟨_, rfl, vk, ks, rfl, hk, k1, k4, ht, Nat.zero_le _, fun O hO => ?_⟩
      refine ⟨_, rfl, rfl, _, _, rfl, rfl, by decide +kernel, by omega, fun W hW2 => ?_⟩
      have hW0 := upd_no hW2
      have nOW : O ≠ W := fun z => by rw [← z, upd_same] at hW2; cases hW2
      have s0 : Same H (upd (upd H O (.lst [])) W (.lst (ps.map V.str))) := fun b o e => by
        rw [upd_ne (ne_of_none e hW0), upd_ne (ne_of_none e hO)]
        exact e
      rw [show (Txt.split t (Str.ofString ", ")) = ps from eps]
      refine ⟨W, _, rfl, SqL.of upd_same, for_by (ps.map V.str).length (fun i σ H' => ∃ (v3 v4 v5 : Option V) (xs : List V) (os : List (Nat × Bool)), σ = [some vk, some (.str t), some (.ref O), v3, v4, v5] ∧ Same H H' ∧ H' W = some (.lst (ps.map V.str)) ∧ H' O = some (.lst xs) ∧ DpAll K H' xs (os.map partD) ∧ os.length = i ∧ runO ps 0 [] = runO (ps.drop i) i os)
        ⟨none, none, none, [], [], rfl, s0, upd_same, (upd_ne nOW).trans upd_same, .nil, rfl, by rw [List.drop_zero]⟩ ?_ ?_⟩
      · rintro i σ H1 hi ⟨v3, v4, v5, xs, os, rfl, sm, hW1, hO1, hd, lo, run⟩
        have hi' : i < ps.length := by simpa using hi
        have gi : ps[i]? = some ps[i] := List.getElem?_eq_getElem hi'
        have lx1 := px _ (List.mem_of_getElem? gi)
        rw [runO_step gi] at run
        refine ⟨⟨_, V.str ps[i], SqL.of hW1, by rw [List.getElem?_map, gi]; rfl⟩, fun y H2 ⟨TT, x, ey, hT, eH, hx⟩ => ?_⟩
        subst ey eH
        have ex := hx _ (SqL.of hW1)
        rw [List.getElem?_map, gi] at ex
        cases ex
        generalize ps[i] = p0 at gi lx1 run hx ⊢
        have sT : Same H1 (upd H1 TT (.tup [.int (i : Nat), .str p0])) := sameNew (Same.refl H1) hT
        refine ⟨TT, _, rfl, SqT.of upd_same, rfl, _, _, rfl, _, _, rfl, rfl, ?_⟩
        refine ⟨_, rfl, rfl, _, _, rfl, rfl, by decide +kernel, by omega, fun Wd hWd => ?_⟩
        rw [show (Txt.split p0 (Str.ofString " ")) = Txt.split p0 sp1 from rfl]
        have wfit : (Txt.split p0 sp1).length ≤ 800 ∧ ∀ x ∈ Txt.split p0 sp1, x.length ≤ 720 := words_fit lx1
        generalize Txt.split p0 sp1 = ws at run wfit ⊢
        have s2 : Same H1 (upd (upd H1 TT (.tup [.int (i : Nat), .str p0])) Wd (.lst (ws.map V.str))) := fun b' o e => by
          rw [upd_ne (ne_of_none (sT _ _ e) hWd)]
          exact sT _ _ e
        have hWd2 : (upd (upd H1 TT (.tup [.int (i : Nat), .str p0])) Wd (.lst (ws.map V.str))) Wd = some (.lst (ws.map V.str)) := upd_same
        generalize upd (upd H1 TT (.tup [.int (i : Nat), .str p0])) Wd (.lst (ws.map V.str)) = H2 at s2 hWd2 ⊢
        have fail : partO ws = none → ∀ dd, H2 dd = none → E (.ref CT) (some dd) (upd H2 dd (.xd [("place", .int (i : Nat))])) := fun hp dd hdd => by
          refine kT i ?_ _ dd (sameNew (sm.trans s2) hdd) upd_same
          rw [er, run, hp]
        refine ⟨_, rfl, Wd, _, rfl, .inl (SqL.of hWd2), rfl, _, rfl, ?_⟩
        rw [List.length_map]
        by_cases c2 : ws.length = 2
        · match ws, c2, wfit, hWd2, run, fail with
          | [wa, wb], _, wfit, hWd2, run, fail =>
            rw [partO_two] at run fail
            refine iteF' (by simp) ⟨_, rfl, Wd, _, _, _, rfl, rfl, SqL.of hWd2, atI_nat (j := 0) rfl, wa, rfl, Nat.le_trans (wfit.2 wa (by simp)) (by decide), s2 _ _ (sm _ _ htF), _, rfl, ?_⟩
            cases ha : numO wa with
            | none =>
              rw [ha] at fail
              exact iteT ⟨_, rfl, num_end (n := i) (by omega) (fail rfl)⟩
            | some cn =>
              refine iteF ⟨_, rfl, Wd, _, _, _, rfl, rfl, SqL.of hWd2, atI_nat (j := 1) rfl, aW, _, rfl, .inr (hWS _), rfl, rfl, ?_⟩
              have eb : (if true then !inV (.str wb) [.str "up", .str "down"] else inV (.str wb) [.str "up", .str "down"]) = !(wayO wb).isSome := by
                rw [inV_wayO]
                rfl
              cases hb : wayO wb with
              | none =>
                rw [ha, hb] at fail
                refine ⟨true, congrArg V.bl (eb.trans (by rw [hb]; rfl)), iteT ?_⟩
                exact ⟨_, rfl, num_end (n := i) (by omega) (fail rfl)⟩
              | some b =>
                refine ⟨false, congrArg V.bl (eb.trans (by rw [hb]; rfl)), iteF ?_⟩
                rw [ha, hb] at run
                have run : runO ps 0 [] = runO (ps.drop (i + 1)) (i + 1) (os ++ [(cn, b)]) := run
                obtain ⟨hc, ea⟩ := numO_some ha
                have ew := wayO_some hb
                subst ea ew
                have hO2 := s2 _ _ hO1
                obtain ⟨_, f8, _, _, f5⟩ := fig_num cn hc
                refine ⟨_, rfl, .inl ⟨rfl, _, SqL.of hO2⟩, _, rfl, Wd, _, _, _, rfl, rfl, SqL.of hWd2, atI_nat (j := 0) rfl, numS cn, _, rfl, f8, by omega, _, rfl, Wd, _, _, _, rfl, rfl, SqL.of hWd2, atI_nat (j := 1) rfl, by show 2 ≤ sizeLine; decide, fun pt hpt => ?_⟩
                have s3 : Same H2 (upd H2 pt (.tup [.int (cn : Int), .str (wayS b)])) := sameNew (Same.refl H2) hpt
                have hO3 := s3 _ _ hO2
                have lx : xs.length = i := by rw [dpLen hd, List.length_map, lo]
                refine ⟨O, xs, _, rfl, rfl, hO3, small1000 (by omega), ?_⟩
                refine ⟨_, _, _, _, os ++ [(cn, b)], rfl, fun b' o e => ?_, (upd_ne (Ne.symm nOW)).trans (s3 _ _ (s2 _ _ hW1)), upd_same, ?_, by rw [List.length_append, lo]; rfl, run⟩
                · rw [upd_ne (ne_of_none e hO)]
                  exact s3 _ _ (s2 _ _ (sm _ _ e))
                · rw [List.map_append]
                  have nl := parts_noL (os ++ [(cn, b)])
                  rw [List.map_append] at nl
                  exact dpAll_upd hO3 _ nl (dpApp (dpAll_same s3 _ (dpAll_same s2 _ hd)) (.cons (.tup (SqT.of upd_same) (.cons (.int _) (.cons (.str _) .nil))) .nil))
        · have hp : partO ws = none := if_neg c2
          refine iteT' (by simp; omega) ?_
          exact ⟨_, rfl, num_end (n := i) (by omega) (fail hp)⟩
      · rintro σ H1 ⟨v3, v4, v5, xs, os, rfl, sm, hW1, hO1, hd, lo, run⟩
        rw [List.length_map] at lo run
        rw [List.drop_length] at run
        have ro : readO t = .inr os := er.trans run
        have hdo : Dp K H1 (.ref O) (orderD os) := .lst (SqL.of hO1) hd
        refine ⟨⟨_, SqL.of hW1, Nat.le_refl _⟩, ?_⟩
        obtain ⟨os', hr', og⟩ := good
        cases hr'.symm.trans ro
        refine ⟨_, rfl, _, rfl, vk, .ref O, ks, os, rfl, dp_same sm _ hk, hdo, og, by omega, fun H2 s2 => ?_⟩
        exact ⟨_, rfl, kG os ro og H2 _ (sm.trans s2) (dp_same s2 _ hdo)⟩
    · refine ⟨_, (pss_cons (ps_expr (pe_c cK hr (by decide) (by rfl) pass0 (pa_cons (pv 0) pa_nil))) (pss_cons (ps_set (i := 2) sc.nd rfl (Or.inl rfl) (pe_lst pa_nil)) (pss_cons (ps_for (passes_of rfl) rfl (pi_enum (by rfl) T.enumerate (pa_cons (pe_bm PySem.F.plainAttrs_str PySem.F.slot_str_split PySem.F.type_str_split mt_split (pv 1) (pa_cons pe_str pa_nil)) pa_nil)) (pg_tup (by rfl) (pgs_cons (pg_name (i := 3) sc.nd rfl (Or.inl rfl)) (pgs_cons (pg_name (i := 4) sc.nd rfl (Or.inl rfl)) pgs_nil))) (pss_cons (ps_set (i := 5) sc.nd rfl (Or.inl rfl) (pe_bm PySem.F.plainAttrs_str PySem.F.slot_str_split PySem.F.type_str_split mt_split (pv 4) (pa_cons pe_str pa_nil))) (pss_cons (ps_if ((pw_or (pt_cmpR op_ne (pe_callB call_len_seq (by rfl) T.len PySem.boot_len (pa_cons (pv 5) pa_nil)) pe_int (nomark _)) (pw_or (pt_not (pt_val (pe_c cF hr (by decide) (by rfl) pass0 (pa_cons (pe_ix ix_list (pv 5) pe_int (fun _ _ => rfl)) pa_nil)))) (pw_or1 (pt_cmpR op_notIn_seq (pe_ix ix_list (pv 5) pe_int (fun _ _ => rfl)) (pe_glob (v := V.ref aW) (by rfl) hW rfl) (by rfl))))).pt) (pss_one (ps_raise rfl (takes_of rfl rfl rfl rfl) (pmk_num NE (hr.mono (by decide)) (by rfl) (pv 3)))) pss_nil) (pss_one (ps_expr (pe_bm PySem.F.plainAttrs_list PySem.F.slot_list_append PySem.F.type_list_append mt_append (pv 2) (pa_cons (pe_tup (pa_cons (pe_callTy call_int_str (by rfl) T.int_ (by decide +kernel) (pa_cons (pe_ix ix_list (pv 5) pe_int (fun _ _ => rfl)) pa_nil)) (pa_cons (pe_ix ix_list (pv 5) pe_int (fun _ _ => rfl)) pa_nil))) pa_nil))))))) (pss_cons (ps_expr (pe_c cOE hr (by decide) (by rfl) (passes_call (takes_of rfl rfl rfl rfl) fun _ _ _ _ h => h) (pa_cons (pv 0) (pa_cons (pv 2) pa_nil)))) pss_never)))), ?_⟩
      refine ⟨_, rfl, vk, ks, rfl, hk, k1, k4, ht, Nat.zero_le _, fun O hO => ?_⟩
      refine ⟨_, rfl, rfl, _, _, rfl, rfl, by decide +kernel, by omega, fun W hW2 => ?_⟩
      have hW0 := upd_no hW2
      have nOW : O ≠ W := fun z => by rw [← z, upd_same] at hW2; cases hW2
      have s0 : Same H (upd (upd H O (.lst [])) W (.lst (ps.map V.str))) := fun b o e => by
        rw [upd_ne (ne_of_none e hW0), upd_ne (ne_of_none e hO)]
        exact e
      rw [show (Txt.split t (Str.ofString ", ")) = ps from eps]
      refine ⟨W, _, rfl, SqL.of upd_same, for_by (ps.map V.str).length (fun i σ H' => ∃ (v3 v4 v5 : Option V) (xs : List V) (os : List (Nat × Bool)), σ = [some vk, some (.str t), some (.ref O), v3, v4, v5] ∧ Same H H' ∧ H' W = some (.lst (ps.map V.str)) ∧ H' O = some (.lst xs) ∧ DpAll K H' xs (os.map partD) ∧ os.length = i ∧ runO ps 0 [] = runO (ps.drop i) i os)
        ⟨none, none, none, [], [], rfl, s0, upd_same, (upd_ne nOW).trans upd_same, .nil, rfl, by rw [List.drop_zero]⟩ ?_ ?_⟩
      · rintro i σ H1 hi ⟨v3, v4, v5, xs, os, rfl, sm, hW1, hO1, hd, lo, run⟩
        have hi' : i < ps.length := by simpa using hi
        have gi : ps[i]? = some ps[i] := List.getElem?_eq_getElem hi'
        have lx1 := px _ (List.mem_of_getElem? gi)
        rw [runO_step gi] at run
        refine ⟨⟨_, V.str ps[i], SqL.of hW1, by rw [List.getElem?_map, gi]; rfl⟩, fun y H2 ⟨TT, x, ey, hT, eH, hx⟩ => ?_⟩
        subst ey eH
        have ex := hx _ (SqL.of hW1)
        rw [List.getElem?_map, gi] at ex
        cases ex
        generalize ps[i] = p0 at gi lx1 run hx ⊢
        have sT : Same H1 (upd H1 TT (.tup [.int (i : Nat), .str p0])) := sameNew (Same.refl H1) hT
        refine ⟨TT, _, rfl, SqT.of upd_same, rfl, _, _, rfl, _, _, rfl, rfl, ?_⟩
        refine ⟨_, rfl, rfl, _, _, rfl, rfl, by decide +kernel, by omega, fun Wd hWd => ?_⟩
        rw [show (Txt.split p0 (Str.ofString " ")) = Txt.split p0 sp1 from rfl]
        have wfit : (Txt.split p0 sp1).length ≤ 800 ∧ ∀ x ∈ Txt.split p0 sp1, x.length ≤ 720 := words_fit lx1
        generalize Txt.split p0 sp1 = ws at run wfit ⊢
        have s2 : Same H1 (upd (upd H1 TT (.tup [.int (i : Nat), .str p0])) Wd (.lst (ws.map V.str))) := fun b' o e => by
          rw [upd_ne (ne_of_none (sT _ _ e) hWd)]
          exact sT _ _ e
        have hWd2 : (upd (upd H1 TT (.tup [.int (i : Nat), .str p0])) Wd (.lst (ws.map V.str))) Wd = some (.lst (ws.map V.str)) := upd_same
        generalize upd (upd H1 TT (.tup [.int (i : Nat), .str p0])) Wd (.lst (ws.map V.str)) = H2 at s2 hWd2 ⊢
        have fail : partO ws = none → ∀ dd, H2 dd = none → E (.ref CT) (some dd) (upd H2 dd (.xd [("place", .int (i : Nat))])) := fun hp dd hdd => by
          refine kT i ?_ _ dd (sameNew (sm.trans s2) hdd) upd_same
          rw [er, run, hp]
        refine ⟨_, rfl, Wd, _, rfl, .inl (SqL.of hWd2), rfl, _, rfl, ?_⟩
        rw [List.length_map]
        by_cases c2 : ws.length = 2
        · match ws, c2, wfit, hWd2, run, fail with
          | [wa, wb], _, wfit, hWd2, run, fail =>
            rw [partO_two] at run fail
            refine iteF' (by simp) ⟨_, rfl, Wd, _, _, _, rfl, rfl, SqL.of hWd2, atI_nat (j := 0) rfl, wa, rfl, Nat.le_trans (wfit.2 wa (by simp)) (by decide), s2 _ _ (sm _ _ htF), _, rfl, ?_⟩
            cases ha : numO wa with
            | none =>
              rw [ha] at fail
              exact iteT ⟨_, rfl, num_end (n := i) (by omega) (fail rfl)⟩
            | some cn =>
              refine iteF ⟨_, rfl, Wd, _, _, _, rfl, rfl, SqL.of hWd2, atI_nat (j := 1) rfl, aW, _, rfl, .inr (hWS _), rfl, rfl, ?_⟩
              have eb : (if true then !inV (.str wb) [.str "up", .str "down"] else inV (.str wb) [.str "up", .str "down"]) = !(wayO wb).isSome := by
                rw [inV_wayO]
                rfl
              cases hb : wayO wb with
              | none =>
                rw [ha, hb] at fail
                refine ⟨true, congrArg V.bl (eb.trans (by rw [hb]; rfl)), iteT ?_⟩
                exact ⟨_, rfl, num_end (n := i) (by omega) (fail rfl)⟩
              | some b =>
                refine ⟨false, congrArg V.bl (eb.trans (by rw [hb]; rfl)), iteF ?_⟩
                rw [ha, hb] at run
                have run : runO ps 0 [] = runO (ps.drop (i + 1)) (i + 1) (os ++ [(cn, b)]) := run
                obtain ⟨hc, ea⟩ := numO_some ha
                have ew := wayO_some hb
                subst ea ew
                have hO2 := s2 _ _ hO1
                obtain ⟨_, f8, _, _, f5⟩ := fig_num cn hc
                refine ⟨_, rfl, .inl ⟨rfl, _, SqL.of hO2⟩, _, rfl, Wd, _, _, _, rfl, rfl, SqL.of hWd2, atI_nat (j := 0) rfl, numS cn, _, rfl, f8, by omega, _, rfl, Wd, _, _, _, rfl, rfl, SqL.of hWd2, atI_nat (j := 1) rfl, by show 2 ≤ sizeLine; decide, fun pt hpt => ?_⟩
                have s3 : Same H2 (upd H2 pt (.tup [.int (cn : Int), .str (wayS b)])) := sameNew (Same.refl H2) hpt
                have hO3 := s3 _ _ hO2
                have lx : xs.length = i := by rw [dpLen hd, List.length_map, lo]
                refine ⟨O, xs, _, rfl, rfl, hO3, small1000 (by omega), ?_⟩
                refine ⟨_, _, _, _, os ++ [(cn, b)], rfl, fun b' o e => ?_, (upd_ne (Ne.symm nOW)).trans (s3 _ _ (s2 _ _ hW1)), upd_same, ?_, by rw [List.length_append, lo]; rfl, run⟩
                · rw [upd_ne (ne_of_none e hO)]
                  exact s3 _ _ (s2 _ _ (sm _ _ e))
                · rw [List.map_append]
                  have nl := parts_noL (os ++ [(cn, b)])
                  rw [List.map_append] at nl
                  exact dpAll_upd hO3 _ nl (dpApp (dpAll_same s3 _ (dpAll_same s2 _ hd)) (.cons (.tup (SqT.of upd_same) (.cons (.int _) (.cons (.str _) .nil))) .nil))
        · have hp : partO ws = none := if_neg c2
          refine iteT' (by simp; omega) ?_
          exact ⟨_, rfl, num_end (n := i) (by omega) (fail hp)⟩
      · rintro σ H1 ⟨v3, v4, v5, xs, os, rfl, sm, hW1, hO1, hd, lo, run⟩
        rw [List.length_map] at lo run
        rw [List.drop_length] at run
        have ro : readO t = .inr os := er.trans run
        have hdo : Dp K H1 (.ref O) (orderD os) := .lst (SqL.of hO1) hd
        refine ⟨⟨_, SqL.of hW1, Nat.le_refl _⟩, ?_⟩
        have ng : ¬ OkOrder ks.length os := fun z => good ⟨os, ro, z⟩
        have ne : os ≠ [] := fun z => by
          rw [z] at lo
          exact parts_some t (eps.trans (List.eq_nil_of_length_eq_zero lo.symm))
        rw [rows_order] at hdo
        exact ⟨_, rfl, _, rfl, vk, .ref O, ks, os.map partL, rfl, dp_same sm _ hk, hdo, by rw [List.length_map]; omega, bad_ord os [] os rfl ne (fun _ h => nomatch h) (by simp) ng, fun H2 s2 => kB os ro ng H2 (sm.trans s2)⟩
end
end RS
set_option Elab.async false
set_option maxRecDepth 100000
set_option maxHeartbeats 8000000
set_option pp.maxSteps 400
namespace RS
open PySem PySem.Spec PyProof.Rows L2 GX LM
theorem eqv_nil22 (ds : List PyData) : PyData.eqv (.list ds) (.list []) = ds.isEmpty := by
  cases ds <;> simp [PyData.eqv, PyData.eqvAll]
def numV (x : Str) : V := match numO x with
  | none => .non
  | some n => .int (n : Nat)
theorem num_small : ∀ n < 100, ((n : Nat) : Int).natAbs.log2 < 1920 := by decide +kernel
def numL (x : Str) (i : Nat) : List Nat := (List.range i).filter fun n => decide (numS n = x)
theorem numL_succ (x : Str) (i : Nat) : numL x (i + 1) = if numS i = x then numL x i ++ [i] else numL x i := by
  unfold numL
  rw [List.range_succ, List.filter_append]
  by_cases h : numS i = x
  · rw [if_pos h]; simp [h]
  · rw [if_neg h]; simp [h]
theorem numL_head (x : Str) : (numL x 100).head? = numO x := by
  unfold numL numO
  rw [List.head?_filter]
theorem shaped_nats (ns : List Nat) : SeqAt.shaped (.list (ns.map fun n => PyData.int (n : Nat))) = true := by
  have h1 : PyData.canLayAll0 (ns.map fun n => PyData.int (n : Nat)) = true := by
    induction ns with
    | nil => simp [PyData.canLayAll0]
    | cons m ms ih => simp [PyData.canLayAll0, PyData.canLay0, ih]
  have h2 : PyData.depthAll (ns.map fun n => PyData.int (n : Nat)) = 0 := by
    clear h1
    induction ns with
    | nil => simp [PyData.depthAll]
    | cons m ms ih => simp [PyData.depthAll, PyData.depth, ih]
  unfold SeqAt.shaped
  rw [Bool.and_eq_true]
  refine ⟨by simp only [PyData.canLay0]; exact h1, decide_eq_true ?_⟩
  simp only [PyData.depth, h2]
  decide
theorem dp_nats22 {K : PySem.W.Frag} {H : Hp} : ∀ ns : List Nat, DpAll K H (ns.map fun n => V.int (n : Nat)) (ns.map fun n => PyData.int (n : Nat))
  | [] => .nil
  | n :: ns => .cons (.int _) (dp_nats22 ns)
/-! ### len(set(xs)), any ints -/
abbrev fMet (ns : List Int) (i : Nat) : List Int := PyProof.Rows.firstMet (fun i => ns.getD i 0) i
theorem fMet_succ (ns : List Int) (m i : Nat) : PyProof.Rows.firstMet (fun i => ns.getD i 0) (i + 1) = if (fMet ns i).any (· == ns.getD i 0) = true then fMet ns i else fMet ns i ++ [ns.getD i 0] := PyProof.Rows.firstMet_succ _ i
theorem fMet_mem (ns : List Int) : ∀ (i : Nat), i ≤ ns.length → ∀ x, x ∈ fMet ns i ↔ x ∈ ns.take i
  | 0, _, x => by simp [fMet, PyProof.Rows.firstMet]
  | i + 1, hi, x => by
    have ih := fMet_mem ns i (by omega)
    have e1 : ns.getD i 0 = ns[i]'(by omega) := by
      rw [List.getD_eq_getElem?_getD, List.getElem?_eq_getElem (by omega)] <;> rfl
    rw [List.take_add_one, List.getElem?_eq_getElem (by omega : i < ns.length)]
    show x ∈ PyProof.Rows.firstMet (fun i => ns.getD i 0) (i + 1) ↔ _
    rw [fMet_succ ns 0]
    by_cases h : (fMet ns i).any (· == ns.getD i 0) = true
    · rw [if_pos h]
      obtain ⟨y, hy, ey⟩ := List.any_eq_true.mp h
      have ey : y = ns[i]'(by omega) := (eq_of_beq ey).trans e1
      rw [ih, List.mem_append]
      constructor
      · exact .inl
      · rintro (h | h)
        · exact h
        · have : x = ns[i]'(by omega) := by simpa using h
          rw [this, ← ey]
          exact (ih y).mp hy
    · rw [if_neg h, List.mem_append, List.mem_append, ih, e1]
      simp
theorem fMet_len (ns : List Int) : ∀ (i : Nat), i ≤ ns.length → (fMet ns i).length ≤ i ∧ ((fMet ns i).length = i → (ns.take i).Nodup)
  | 0, _ => by simp [fMet, PyProof.Rows.firstMet]
  | i + 1, hi => by
    obtain ⟨h1, h2⟩ := fMet_len ns i (by omega)
    have e1 : ns.getD i 0 = ns[i]'(by omega) := by
      rw [List.getD_eq_getElem?_getD, List.getElem?_eq_getElem (by omega)] <;> rfl
    have es := fMet_succ ns 0 i
    by_cases h : (fMet ns i).any (· == ns.getD i 0) = true
    · rw [if_pos h] at es
      have es : fMet ns (i + 1) = fMet ns i := es
      rw [es]
      exact ⟨by omega, fun z => by omega⟩
    · rw [if_neg h] at es
      have es : fMet ns (i + 1) = fMet ns i ++ [ns.getD i 0] := es
      rw [es, List.length_append, List.length_singleton]
      refine ⟨by omega, fun z => ?_⟩
      rw [List.take_add_one, List.getElem?_eq_getElem (by omega : i < ns.length)]
      refine List.nodup_append.mpr ⟨h2 (by omega), by simp, fun x hx y hy e => h ?_⟩
      have hy : y = ns[i]'(by omega) := by simpa using hy
      refine List.any_eq_true.mpr ⟨x, (fMet_mem ns i (by omega) x).mpr hx, ?_⟩
      rw [e, hy, e1]
      simp
theorem fMet_iff (ns : List Int) : (fMet ns ns.length).length = ns.length ↔ ns.Nodup := by
  constructor
  · intro h
    have := (fMet_len ns ns.length (Nat.le_refl _)).2 h
    rwa [List.take_length] at this
  · intro h
    rw [show fMet ns ns.length = ns.take ns.length from RZ.firstMet_nodup h _ (Nat.le_refl _), List.take_length]
def tLenSetA (K : PySem.W.Frag) (ta : TE) : TE := fun σ H Q => ta σ H fun x H1 => ∃ (l : Addr) (ns : List Int), x = .ref l ∧ SqL K H1 l (ns.map V.int) ∧ ns.length ≤ 4000 ∧ Q (.int ((fMet ns ns.length).length : Nat)) H1
theorem pe_lenSetA {X : Cx} {a : Expr} {ta : TE} {p p2 q pos : Pos} (hg : Gl X "len") (hm : X.mg "len" = none) (hg2 : Gl X "set") (hm2 : X.mg "set" = none) (ha : PE X a ta) (hc : X.calm = true := by rfl)
    (na : starEach [a] X.env = (false, eval a X.env) :: starEach [] X.env := by rfl) : PE X (.Call (.Name "len" p) [.Call (.Name "set" p2) [a] [] q] [] pos) (tLenSetA X.K ta) := by
  refine ⟨fun pins s σ H Q I h => ?_⟩
  refine Call_ (ld_blt I hg hm boot_len ?_)
  refine PyProof.Rows.callWith_builtin1 (PyProof.Rows.args_cons ?_ rfl) rfl rfl
  refine Call_ (ld_blt I hg2 hm2 boot_set ?_)
  refine PyProof.Rows.callWith_type1 (PyProof.Rows.args_cons (thn (ha.run pins s σ H _ I h) fun v s1 ⟨x, H1, I1, r1, q1⟩ => PyProof.Rows.args_nil ?_) na) na rfl
  obtain ⟨l, ns, rfl, hq, hl, q1⟩ := q1
  cases r1
  obtain ⟨its, r, pl, hz⟩ := I1.list hq
  have hlen : its.toArray.size = ns.length := by rw [List.size_toArray, ← r.length, List.length_map]
  have hfm : (PyProof.Rows.firstMet (fun i => ns.getD i 0) ns.length).length ≤ ns.length := (fMet_len ns ns.length (Nat.le_refl _)).1
  refine call_set_list (I1.ok.hd hc) pl.isList (by simpa using RZ.intsAre_vals r) (by rw [hlen]; unfold scanBound; omega) fun h' tk hS hk => ?_
  refine PyProof.Rows.args_nil ?_
  rw [hlen] at hS
  obtain ⟨o, es, ep, t, ho, hex, hd, _, _, _, hf, hn⟩ := hS
  have I2 : Inv X pins σ H1 { s1 with heap := h', toks := tk } := I1.kept fun b o e => hk b o (Heap.lt_size e) e
  exact call_len_set ho hex hd hf (by rw [hn] <;> omega) ⟨.int _, H1, I2.tok _, ⟨_, by rw [hn]⟩, q1⟩
section
variable {P : Program} {w : World} {K : PySem.W.Frag} {mg : Str → Option Value} {base : Heap}
abbrev NNum : List Str := ["_law_word", "_law_some", "_law_number_here"]
theorem scNum22 : FnScope NNum ["_law_word"] (defScope s__law_number) := ⟨rfl, rfl, rfl, by decide +kernel, rfl, by decide +kernel, by decide +kernel⟩
def spNumL : Sp := fun vs H Q _ => ∃ (x : Str), vs = [.str x] ∧ ∀ H', Same H H' → Q (numV x) H'
theorem number_ok {c : Addr} (D : DefAt K mg "_law_number" s__law_number c) (T : Txt K mg) : Cal P w K mg base CX0 1 "_law_number" ["_law_word"] spNumL := by
  have sc := scNum22
  refine def_ok0 D sc (fun vs H Q E h => ?_) (fun _ _ _ _ _ _ us hl => match us, hl with | [_], _ => rfl) (fun f A outer s H vs Q E hr h => ?_)
  · obtain ⟨x, rfl, _⟩ := h
    rfl
  · obtain ⟨x, rfl, k⟩ := h
    have hu := hr.units
    refine ⟨_, (pss_cons (ps_setLc (own := [("_law_number_here", 2)]) (tt := _) rfl sc.nd (i := 1) rfl rfl (by rfl) (pi_range1 (by rfl) T.range (pa_cons pe_int pa_nil)) (blkOk_by (N := NNum) (sc := defScope s__law_number) (own := [("_law_number_here", 2)]) (by decide +kernel)) (fun _ _ _ _ _ => (pg_name (i := 2) sc.nd rfl (Or.inl rfl))) (fun _ _ _ _ _ => pts_one (pt_cmpR op_eq (pe_callTy call_str_int (by rfl) T.str_ (by decide +kernel) (pa_cons (pv 2) pa_nil)) (pv 0) (nomark _))) (fun _ _ _ _ _ => pv 2)) (pss_one (ps_ret (pe_ifExp (pt_cmpR (op_neD hu) (pv 1) (pe_lst pa_nil) (nomark _)) (pe_ix ix_list (pv 1) pe_int (fun _ _ => rfl)) pe_non)))), ?_⟩
    refine ⟨_, rfl, by decide, by decide, fun DD hD => ?_⟩
    rw [show (100 : Int).toNat = 100 from rfl]
    refine lc_range (fun i H' => Same H H' ∧ H' DD = some (.lst ((numL x i).map fun n => V.int (n : Nat)))) ⟨sameNew (Same.refl H) hD, upd_same⟩ ?_ ?_
    · rintro i H1 hi ⟨s1, hl⟩
      have ei : (0 : Int) + (i : Nat) = ((i : Nat) : Int) := by omega
      rw [ei]
      have ll : (numL x i).length ≤ i := by
        have := List.length_filter_le (fun n => decide (numS n = x)) (List.range i)
        rw [List.length_range] at this
        exact this
      refine ⟨rfl, _, rfl, _, rfl, num_small i hi, _, rfl, rfl, _, rfl, ?_⟩
      rw [numL_succ]
      by_cases e : numS i = x
      · rw [if_pos e]
        refine iteT' (decide_eq_true (congrArg V.str e)) ⟨_, rfl, _, hl, small1000 (by rw [List.length_map]; omega), fun b o z => (upd_ne (ne_of_none z hD)).trans (s1 _ _ z), by rw [upd_same, List.map_append]; rfl⟩
      · rw [if_neg e]
        exact iteF' (decide_eq_false fun z => e (V.str.inj z)) ⟨s1, hl⟩
    · rintro H1 ⟨s1, hl⟩
      try dsimp only [gName, List.set]
      have hh := numL_head x
      refine ⟨_, rfl, Nat.zero_le _, fun e0 ne0 => ?_⟩
      have s2 := sameNew (o := .lst []) (Same.refl H1) ne0
      have he0 : upd H1 e0 (.lst []) e0 = some (.lst []) := upd_same
      generalize upd H1 e0 (.lst []) = H2 at s2 he0 ⊢
      have hl2 := s2 _ _ hl
      refine ⟨.list ((numL x 100).map fun n => PyData.int (n : Nat)), .list [], .lst (SqL.of hl2) (dp_nats22 _), .lst (SqL.of he0) .nil, shaped_nats _, by decide +kernel, _, rfl, ?_⟩
      rw [eqv_nil22]
      have kk := k _ (s1.trans s2)
      unfold numV at kk
      cases hn : numL x 100 with
      | nil =>
        rw [hn] at hh
        have hh : none = numO x := hh
        rw [← hh] at kk
        exact iteF kk
      | cons n ns =>
        rw [hn] at hh hl2
        have hh : some n = numO x := hh
        rw [← hh] at kk
        exact iteT ⟨_, rfl, DD, _, 0, .int (n : Nat), rfl, rfl, SqL.of hl2, atI_nat (j := 0) rfl, kk⟩
def ordDue (n : Nat) (t : Str) : PyData := match readO t with
  | .inl i => .tuple [.str "BadText", .int (i : Nat)]
  | .inr os => if (os.all fun q => decide (q.1 < n)) && decide (os.map (·.1)).Nodup then orderD os else .tuple [.str "BadOrder", .int 0]
theorem ord_good {n : Nat} {os : List (Nat × Bool)} (ne : os ≠ []) : ((os.all fun q => decide (q.1 < n)) && decide (os.map (·.1)).Nodup) = true ↔ OkOrder n os := by
  rw [Bool.and_eq_true, List.all_eq_true, decide_eq_true_eq]
  exact ⟨fun h => ⟨ne, fun p hp => of_decide_eq_true (h.1 p hp), h.2⟩, fun h => ⟨fun p hp => decide_eq_true (h.col p hp), h.nd⟩⟩
theorem colI_nodup {os : List (Nat × Bool)} : (os.map fun q => ((q.1 : Nat) : Int)).Nodup ↔ (os.map (·.1)).Nodup := by
  have e : (os.map fun q => ((q.1 : Nat) : Int)) = (os.map (·.1)).map fun j => ((j : Nat) : Int) := by
    rw [List.map_map]; rfl
  rw [e]
  constructor
  · intro h
    unfold List.Nodup at h ⊢
    rw [List.pairwise_map] at h
    exact h.imp fun hne e => hne (by rw [e])
  · intro h
    unfold List.Nodup at h ⊢
    rw [List.pairwise_map]
    exact h.imp fun a z => a (by omega)
abbrev NOd : List Str := ["_law_kinds_here", "_law_text", "_law_found", "_law_place", "_law_part", "_law_words", "_law_columns", "_law_good", "_law_column", "_law_way"]
theorem scOD22 : FnScope NOd ["_law_kinds_here", "_law_text"] (defScope s__law_order_due) := ⟨rfl, rfl, rfl, by decide +kernel, rfl, by decide +kernel, by decide +kernel⟩
def spOD (K : PySem.W.Frag) : Sp := fun vs H Q _ => ∃ (vk : V) (ks : List Bool) (t : Str), vs = [vk, .str t] ∧ Dp K H vk (kindsD ks) ∧ ks.length ≤ 4 ∧ t.length ≤ 720 ∧ ∀ H' v, Same H H' → Dp K H' v (ordDue ks.length t) → Q v H'
theorem order_due_ok {c : Addr} (D : DefAt K mg "_law_order_due" s__law_order_due c) (T : Txt K mg) (hset : mg "set" = none) (cN : Cal P w K mg base CX0 1 "_law_number" ["_law_word"] spNumL) : Cal P w K mg base CX0 2 "_law_order_due" ["_law_kinds_here", "_law_text"] (spOD K) := by
  have sc := scOD22
  refine def_ok0 D sc (fun vs H Q E h => ?_) (fun _ _ _ _ _ _ us hl => match us, hl with | [_, _], _ => rfl) (fun f A outer s H vs Q E hr h => ?_)
  · obtain ⟨vk, ks, t, rfl, _⟩ := h
    rfl
  · obtain ⟨vk, ks, t, rfl, hk, k4, tl, k⟩ := h
    have hu := hr.units
    obtain ⟨p8, px⟩ := parts_fit tl
    have big : (1000 : Nat) ≤ sizeLine := by decide
    generalize eps : Txt.split t cm1 = ps at p8 px
    have er : readO t = runO ps 0 [] := by
      unfold readO
      rw [eps]
    have tup : ∀ {HX : Hp} {a : Addr} {nm : Str} {i : Int}, HX a = some (.tup [.str nm, .int i]) → Dp K HX (.ref a) (.tuple [.str nm, .int i]) := fun h => .tup (SqT.of h) (.cons (.str _) (.cons (.int _) .nil))
    refine ⟨_, (pss_cons (ps_set (i := 2) sc.nd rfl (Or.inl rfl) (pe_lst pa_nil)) (pss_cons (ps_for PassesOwn.never rfl (pi_enum (by rfl) T.enumerate (pa_cons (pe_bm PySem.F.plainAttrs_str PySem.F.slot_str_split PySem.F.type_str_split mt_split (pv 1) (pa_cons pe_str pa_nil)) pa_nil)) (pg_tup (by rfl) (pgs_cons (pg_name (i := 3) sc.nd rfl (Or.inl rfl)) (pgs_cons (pg_name (i := 4) sc.nd rfl (Or.inl rfl)) pgs_nil))) (pss_cons (ps_set (i := 5) sc.nd rfl (Or.inl rfl) (pe_bm PySem.F.plainAttrs_str PySem.F.slot_str_split PySem.F.type_str_split mt_split (pv 4) (pa_cons pe_str pa_nil))) (pss_cons (ps_if ((pw_or (pt_cmpR op_ne (pe_callB call_len_seq (by rfl) T.len PySem.boot_len (pa_cons (pv 5) pa_nil)) pe_int (nomark _)) (pw_or (pt_cmpR op_isN (pe_c cN hr (by decide) (by rfl) pass0 (pa_cons (pe_ix ix_list (pv 5) pe_int (fun _ _ => rfl)) pa_nil)) pe_non (nomark _)) (pw_or1 (pt_cmpR op_notIn_seq (pe_ix ix_list (pv 5) pe_int (fun _ _ => rfl)) (pe_tup (pa_cons pe_str (pa_cons pe_str pa_nil))) (by rfl))))).pt) (pss_one (ps_ret (pe_tup (pa_cons pe_str (pa_cons (pv 3) pa_nil))))) pss_nil) (pss_one (ps_expr (pe_bm PySem.F.plainAttrs_list PySem.F.slot_list_append PySem.F.type_list_append mt_append (pv 2) (pa_cons (pe_tup (pa_cons (pe_c cN hr (by decide) (by rfl) pass0 (pa_cons (pe_ix ix_list (pv 5) pe_int (fun _ _ => rfl)) pa_nil)) (pa_cons (pe_ix ix_list (pv 5) pe_int (fun _ _ => rfl)) pa_nil))) pa_nil))))))) (pss_cons (ps_setLc (own := [("_law_column", 8), ("_law_way", 9)]) (g := gTup K 2 (gCons (gName 8) (gCons (gName 9) gNil))) (tt := tYes) rfl sc.nd (i := 6) rfl rfl (by rfl) (pi_list (pv 2)) (blkOk_by (N := NOd) (sc := defScope s__law_order_due) (own := [("_law_column", 8), ("_law_way", 9)]) (by decide +kernel)) (fun _ _ _ _ _ => (pg_tup (by rfl) (pgs_cons (pg_name (i := 8) sc.nd rfl (Or.inl rfl)) (pgs_cons (pg_name (i := 9) sc.nd rfl (Or.inl rfl)) pgs_nil)))) (fun _ _ _ _ _ => pts_nil) (fun _ _ _ _ _ => pv 8)) (pss_cons (ps_set (i := 7) sc.nd rfl (Or.inl rfl) (pe_and (pe_cmpR op_lt (pe_callB (cr_max (by rfl)) (by rfl) T.max (by decide +kernel) (pa_cons (pv 6) pa_nil)) (pe_callB call_lenD (by rfl) T.len PySem.boot_len (pa_cons (pv 0) pa_nil)) (nomark _)) (pe_one (pe_cmpR op_eq (pe_lenSetA (by rfl) T.len (by rfl) hset (pv 6)) (pe_callB call_len_seq (by rfl) T.len PySem.boot_len (pa_cons (pv 6) pa_nil)) (nomark _))))) (pss_one (ps_ret (pe_ifExp (pt_truth (pv 7) (by intro _; rfl)) (pv 2) (pe_tup (pa_cons pe_str (pa_cons pe_int pa_nil)))))))))), ?_⟩
    refine ⟨Nat.zero_le _, fun O hO => ?_⟩
    refine ⟨_, rfl, rfl, _, _, rfl, rfl, by decide +kernel, by omega, fun W hW2 => ?_⟩
    have hW0 := upd_no hW2
    have nOW : O ≠ W := fun z => by rw [← z, upd_same] at hW2; cases hW2
    have s0 : Same H (upd (upd H O (.lst [])) W (.lst (ps.map V.str))) := fun b o e => by
      rw [upd_ne (ne_of_none e hW0), upd_ne (ne_of_none e hO)]
      exact e
    rw [show (Txt.split t (Str.ofString ", ")) = ps from eps]
    refine ⟨W, _, rfl, SqL.of upd_same, for_by (ps.map V.str).length (fun i σ H' => ∃ (v3 v4 v5 : Option V) (xs : List V) (os : List (Nat × Bool)), σ = [some vk, some (.str t), some (.ref O), v3, v4, v5, none, none, none, none] ∧ Same H H' ∧ H' W = some (.lst (ps.map V.str)) ∧ H' O = some (.lst xs) ∧ DpAll K H' xs (os.map partD) ∧ os.length = i ∧ runO ps 0 [] = runO (ps.drop i) i os)
      ⟨none, none, none, [], [], rfl, s0, upd_same, (upd_ne nOW).trans upd_same, .nil, rfl, by rw [List.drop_zero]⟩ ?_ ?_⟩
    · rintro i σ H1 hi ⟨v3, v4, v5, xs, os, rfl, sm, hW1, hO1, hd, lo, run⟩
      have hi' : i < ps.length := by simpa using hi
      have gi : ps[i]? = some ps[i] := List.getElem?_eq_getElem hi'
      have lx1 := px _ (List.mem_of_getElem? gi)
      rw [runO_step gi] at run
      refine ⟨⟨_, V.str ps[i], SqL.of hW1, by rw [List.getElem?_map, gi]; rfl⟩, fun y H2 ⟨TT, x, ey, hT, eH, hx⟩ => ?_⟩
      subst ey eH
      have ex := hx _ (SqL.of hW1)
      rw [List.getElem?_map, gi] at ex
      cases ex
      generalize ps[i] = p0 at gi lx1 run hx ⊢
      have sT : Same H1 (upd H1 TT (.tup [.int (i : Nat), .str p0])) := sameNew (Same.refl H1) hT
      refine ⟨TT, _, rfl, SqT.of upd_same, rfl, _, _, rfl, _, _, rfl, rfl, ?_⟩
      refine ⟨_, rfl, rfl, _, _, rfl, rfl, by decide +kernel, by omega, fun Wd hWd => ?_⟩
      rw [show (Txt.split p0 (Str.ofString " ")) = Txt.split p0 sp1 from rfl]
      generalize Txt.split p0 sp1 = ws at run ⊢
      have s2 : Same H1 (upd (upd H1 TT (.tup [.int (i : Nat), .str p0])) Wd (.lst (ws.map V.str))) := fun b' o e => by
        rw [upd_ne (ne_of_none (sT _ _ e) hWd)]
        exact sT _ _ e
      have hWd2 : (upd (upd H1 TT (.tup [.int (i : Nat), .str p0])) Wd (.lst (ws.map V.str))) Wd = some (.lst (ws.map V.str)) := upd_same
      generalize upd (upd H1 TT (.tup [.int (i : Nat), .str p0])) Wd (.lst (ws.map V.str)) = H2 at s2 hWd2 ⊢
      have fail : partO ws = none → ∀ H3 a, Same H2 H3 → H3 a = some (.tup [.str "BadText", .int (i : Nat)]) → Q (.ref a) H3 := fun hp H3 a s3 ha => by
        refine k H3 _ ((sm.trans s2).trans s3) ?_
        unfold ordDue
        rw [er, run, hp]
        exact tup ha
      refine ⟨_, rfl, Wd, _, rfl, .inl (SqL.of hWd2), rfl, _, rfl, ?_⟩
      rw [List.length_map]
      by_cases c2 : ws.length = 2
      · match ws, c2, hWd2, run, fail with
        | [wa, wb], _, hWd2, run, fail =>
          rw [partO_two] at run fail
          refine iteF' (by simp) ⟨_, rfl, Wd, _, _, _, rfl, rfl, SqL.of hWd2, atI_nat (j := 0) rfl, wa, rfl, fun H3 s3 => ?_⟩
          refine ⟨rfl, _, rfl, ?_⟩
          have hWd3 := s3 _ _ hWd2
          cases ha : numO wa with
          | none =>
            rw [ha] at fail
            refine iteT' (by unfold numV; rw [ha]; simp) ⟨_, rfl, by show 2 ≤ sizeLine; decide, fun a na => fail rfl _ a (sameNew s3 na) upd_same⟩
          | some cn =>
            refine iteF' (by unfold numV; rw [ha]; simp) ⟨_, rfl, Wd, _, _, _, rfl, rfl, SqL.of hWd3, atI_nat (j := 1) rfl, by show 2 ≤ sizeLine; decide, fun wt nwt => ?_⟩
            have s4 := sameNew (o := .tup [.str "up", .str "down"]) (Same.refl H3) nwt
            have hwt : upd H3 wt (.tup [.str "up", .str "down"]) wt = some (.tup [.str "up", .str "down"]) := upd_same
            generalize upd H3 wt (.tup [.str "up", .str "down"]) = H4 at s4 hwt ⊢
            refine ⟨wt, _, rfl, .inr (SqT.of hwt), rfl, rfl, ?_⟩
            have eb : (if true then !inV (.str wb) [.str "up", .str "down"] else inV (.str wb) [.str "up", .str "down"]) = !(wayO wb).isSome := by
              rw [inV_wayO]
              rfl
            have s34 := s3.trans s4
            cases hb : wayO wb with
            | none =>
              rw [ha, hb] at fail
              refine ⟨true, congrArg V.bl (eb.trans (by rw [hb]; rfl)), iteT ?_⟩
              exact ⟨_, rfl, by show 2 ≤ sizeLine; decide, fun a na => fail rfl _ a (sameNew s34 na) upd_same⟩
            | some b =>
              refine ⟨false, congrArg V.bl (eb.trans (by rw [hb]; rfl)), iteF ?_⟩
              rw [ha, hb] at run
              have run : runO ps 0 [] = runO (ps.drop (i + 1)) (i + 1) (os ++ [(cn, b)]) := run
              obtain ⟨hc, ea⟩ := numO_some ha
              have ew := wayO_some hb
              subst ea ew
              have s14 := s2.trans s34
              have hO4 := s14 _ _ hO1
              have hWd4 := s34 _ _ hWd2
              refine ⟨_, rfl, .inl ⟨rfl, _, SqL.of hO4⟩, _, rfl, Wd, _, _, _, rfl, rfl, SqL.of hWd4, atI_nat (j := 0) rfl, numS cn, rfl, fun H5 s5 => ?_⟩
              have env : numV (numS cn) = .int (cn : Nat) := by unfold numV; rw [numO_num hc]
              rw [env]
              have hO5 := s5 _ _ hO4
              refine ⟨_, rfl, Wd, _, _, _, rfl, rfl, SqL.of (s5 _ _ hWd4), atI_nat (j := 1) rfl, by show 2 ≤ sizeLine; decide, fun pt hpt => ?_⟩
              have s6 : Same H5 (upd H5 pt (.tup [.int (cn : Nat), .str (wayS b)])) := sameNew (Same.refl H5) hpt
              have hO6 := s6 _ _ hO5
              have lx : xs.length = i := by rw [dpLen hd, List.length_map, lo]
              refine ⟨O, xs, _, rfl, rfl, hO6, small1000 (by omega), ?_⟩
              refine ⟨_, _, _, _, os ++ [(cn, b)], rfl, fun b' o e => ?_, (upd_ne (Ne.symm nOW)).trans (s6 _ _ (s5 _ _ (s14 _ _ hW1))), upd_same, ?_, by rw [List.length_append, lo]; rfl, run⟩
              · rw [upd_ne (ne_of_none e hO)]
                exact s6 _ _ (s5 _ _ (s14 _ _ (sm _ _ e)))
              · rw [List.map_append]
                have nl := parts_noL (os ++ [(cn, b)])
                rw [List.map_append] at nl
                exact dpAll_upd hO6 _ nl (dpApp (dpAll_same ((s14.trans s5).trans s6) _ hd) (.cons (.tup (SqT.of upd_same) (.cons (.int _) (.cons (.str _) .nil))) .nil))
      · have hp : partO ws = none := if_neg c2
        refine iteT' (by simp; omega) ?_
        exact ⟨_, rfl, by show 2 ≤ sizeLine; decide, fun a na => fail hp _ a (sameNew (Same.refl H2) na) upd_same⟩
    · rintro σ H1 ⟨v3, v4, v5, xs, os, rfl, sm, hW1, hO1, hd, lo, run⟩
      rw [List.length_map] at lo run
      rw [List.drop_length] at run
      have ro : readO t = .inr os := er.trans run
      have hdo : Dp K H1 (.ref O) (orderD os) := .lst (SqL.of hO1) hd
      refine ⟨⟨_, SqL.of hW1, Nat.le_refl _⟩, ?_⟩
      have ne : os ≠ [] := fun z => by
        rw [z] at lo
        exact parts_some t (eps.trans (List.eq_nil_of_length_eq_zero lo.symm))
      have lxs : xs.length = os.length := by rw [dpLen hd, List.length_map]
      refine ⟨_, rfl, O, rfl, ⟨_, SqL.of hO1⟩, fun DD hD => ?_⟩
      refine lc_list (K := K) (a := O) (xs := xs) (fun j H' => Same H1 H' ∧ H' DD = some (.lst ((os.take j).map fun q => V.int (q.1 : Nat)))) ⟨sameNew (Same.refl H1) hD, upd_same⟩ (fun j H' _ h => SqL.of (h.1 _ _ hO1)) ?_ ?_
      · rintro j y H2 hy ⟨s2, hl⟩
        obtain ⟨dy, ey, hdy⟩ := dpGet hd hy
        obtain ⟨q, eq, rfl⟩ : ∃ q, os[j]? = some q ∧ dy = partD q := by
          rw [List.getElem?_map] at ey
          cases z : os[j]? with
          | none => rw [z] at ey; cases ey
          | some q => rw [z] at ey; exact ⟨q, rfl, (Option.some.inj ey).symm⟩
        have hj : j < os.length := (List.getElem?_eq_some_iff.mp eq).1
        cases hdy with
        | @tup ta zs _ hS hI =>
          cases hI with
          | cons h1 hI =>
            cases hI with
            | cons h2 hI =>
              cases hI
              cases h1
              cases h2
              refine ⟨ta, _, rfl, sqT_same s2 hS, rfl, _, _, rfl, _, _, rfl, rfl, rfl, _, rfl, _, hl, small1000 (by rw [List.length_map, List.length_take]; omega), fun b o z => (upd_ne (ne_of_none z hD)).trans (s2 _ _ z), ?_⟩
              rw [upd_same, List.take_add_one, eq, List.map_append]
              rfl
      · rintro H2 ⟨s2, hl⟩
        rw [lxs, List.take_length] at hl
        have hl : H2 DD = some (.lst ((os.map fun q => ((q.1 : Nat) : Int)).map V.int)) := by rw [hl, List.map_map]; rfl
        try dsimp only [gName, List.set]
        have sm2 := sm.trans s2
        have lns : (os.map fun q => ((q.1 : Nat) : Int)).length = os.length := List.length_map _
        refine viaA22 (fun v H' => v = .bl ((os.all fun q => decide (q.1 < ks.length)) && decide (os.map (·.1)).Nodup) ∧ H2 = H') (fun Q' fin => ?_) ?_
        · refine ⟨_, rfl, DD, _, rfl, SqL.of hl, by rw [lns]; exact List.length_pos_iff.mpr ne, fun m hm mx => ?_⟩
          refine ⟨_, rfl, vk, _, _, rfl, dp_same sm2 _ hk, rfl, _, _, rfl, rfl, _, rfl, ?_⟩
          rw [List.length_map]
          by_cases c1 : m < (ks.length : Nat)
          · have ea : (os.all fun q => decide (q.1 < ks.length)) = true := List.all_eq_true.mpr fun q hq => decide_eq_true (by
              have := mx ((q.1 : Nat) : Int) (List.mem_map.mpr ⟨q, hq, rfl⟩)
              omega)
            refine iteT' (decide_eq_true c1) ?_
            refine ⟨_, rfl, DD, _, rfl, SqL.of hl, by omega, _, rfl, DD, _, rfl, .inl (SqL.of hl), rfl, ?_⟩
            rw [show (List.map V.int (os.map fun q => ((q.1 : Nat) : Int))).length = (os.map fun q => ((q.1 : Nat) : Int)).length from List.length_map _]
            refine fin _ _ ⟨?_, rfl⟩
            rw [ea, Bool.true_and]
            have fi := fMet_iff (os.map fun q => ((q.1 : Nat) : Int))
            rw [colI_nodup] at fi
            congr 1
            by_cases c2 : (os.map (·.1)).Nodup
            · rw [decide_eq_true c2, fi.mpr c2]
              exact decide_eq_true rfl
            · rw [decide_eq_false c2]
              refine decide_eq_false fun z => c2 (fi.mp ?_)
              have := V.int.inj z
              omega
          · refine iteF' (decide_eq_false c1) (fin _ _ ⟨?_, rfl⟩)
            have ea : (os.all fun q => decide (q.1 < ks.length)) = false := by
              rw [Bool.eq_false_iff]
              intro z
              obtain ⟨q, hq, e⟩ := List.mem_map.mp hm
              have := of_decide_eq_true (List.all_eq_true.mp z q hq)
              omega
            rw [ea, Bool.false_and]
        rintro _ _ ⟨rfl, rfl⟩
        try dsimp only [gName, List.set]
        have ed : ordDue ks.length t = if ((os.all fun q => decide (q.1 < ks.length)) && decide (os.map (·.1)).Nodup) = true then orderD os else .tuple [.str "BadOrder", .int 0] := by
          unfold ordDue
          rw [ro]
        rw [ed] at k
        cases hg : ((os.all fun q => decide (q.1 < ks.length)) && decide (os.map (·.1)).Nodup) with
        | true =>
          rw [hg] at k
          exact ⟨_, rfl, true, rfl, iteT ⟨_, rfl, k _ _ sm2 (dp_same s2 _ hdo)⟩⟩
        | false =>
          rw [hg] at k
          refine ⟨_, rfl, false, rfl, iteF ⟨by show 2 ≤ sizeLine; decide, fun a na => k _ _ (sameNew sm2 na) (tup upd_same)⟩⟩
end
end RS
set_option Elab.async false
set_option maxRecDepth 100000
set_option maxHeartbeats 4000000
set_option pp.maxSteps 400
namespace RS
open PySem PySem.Spec PyProof.Rows L2 GX
/-! ### the leaves and the widths of any nest -/
mutual
theorem anyP_lay : ∀ d : PyData, anyP d → d.canLay0 = true
  | .int _, _ => by simp [PyData.canLay0]
  | .tuple ds, h => by
    simp only [PyData.canLay0]
    exact anyPs_lay ds h
  | .none, h => h.elim
  | .bool _, h => h.elim
  | .str _, h => h.elim
  | .list _, h => h.elim
  | .dict _, h => h.elim
theorem anyPs_lay : ∀ ds : List PyData, anyPs ds → PyData.canLayAll0 ds = true
  | [], _ => by simp [PyData.canLayAll0]
  | d :: ds, h => by
    simp only [PyData.canLayAll0, Bool.and_eq_true]
    exact ⟨anyP_lay d h.1, anyPs_lay ds h.2⟩
end
theorem canLayAll7 {ds : List PyData} (h : ∀ d ∈ ds, d.canLay0 = true) : PyData.canLayAll0 ds = true := by
  induction ds with
  | nil => simp [PyData.canLayAll0]
  | cons d ds ih =>
    simp only [PyData.canLayAll0, Bool.and_eq_true]
    exact ⟨h d List.mem_cons_self, ih fun e he => h e (List.mem_cons_of_mem _ he)⟩
theorem depthLe7 {n : Nat} : ∀ {ds : List PyData}, (∀ d ∈ ds, d.depth ≤ n) → PyData.depthAll ds ≤ n
  | [], _ => by simp [PyData.depthAll]
  | d :: ds, h => by
    simp only [PyData.depthAll]
    have h1 := h d List.mem_cons_self
    have h2 := depthLe7 (ds := ds) fun e he => h e (List.mem_cons_of_mem _ he)
    omega
theorem leafsI_take {ds : List PyData} {i : Nat} {d : PyData} (h : ds[i]? = some d) : leafsI (ds.take (i + 1)) = leafsI (ds.take i) ++ leafI d := by
  rw [List.take_add_one, h, leafsI_app]
  show _ ++ (leafI d ++ []) = _
  rw [List.append_nil]
theorem leafsI_le (ds : List PyData) (i : Nat) : (leafsI (ds.take i)).length ≤ (leafsI ds).length := by
  have e : leafsI ds = leafsI (ds.take i) ++ leafsI (ds.drop i) := by rw [← leafsI_app, List.take_append_drop]
  rw [e, List.length_append]
  omega
theorem leafI_part : ∀ {ds : List PyData} {d : PyData}, d ∈ ds → (leafI d).length ≤ (leafsI ds).length
  | e :: ds, d, h => by
    show _ ≤ (leafI e ++ leafsI ds).length
    rw [List.length_append]
    rcases List.mem_cons.mp h with q | q
    · rw [q]
      omega
    · have := leafI_part q
      omega
theorem sizeP_part : ∀ {ds : List PyData} {d : PyData}, d ∈ ds → sizeP d ≤ sizePs ds
  | e :: ds, d, h => by
    show _ ≤ sizeP e + sizePs ds
    rcases List.mem_cons.mp h with q | q
    · rw [q]
      omega
    · have := sizeP_part q
      omega
theorem fitPs_all {n : Nat} : ∀ ds : List PyData, fitPs n ds = (ds.filter fun d => !fitP n d).isEmpty
  | [] => rfl
  | d :: ds => by
    show (fitP n d && fitPs n ds) = _
    rw [fitPs_all ds, List.filter_cons]
    cases fitP n d <;> rfl
section
variable {P : Program} {w : World} {K : PySem.W.Frag} {mg : Str → Option Value} {base : Heap}
theorem scInG : FnScope ["_law_plan_here", "_law_found", "_law_part"] ["_law_plan_here"] (defScope s__law_in) := ⟨rfl, rfl, rfl, by decide +kernel, rfl, by decide +kernel, by decide +kernel⟩
def spInG (K : PySem.W.Frag) (n : Nat) : Sp := fun vs H Q _ => ∃ (v : V) (d : PyData), vs = [v] ∧ Dp K H v d ∧ anyP d ∧ (leafI d).length ≤ 900 ∧ d.depth ≤ n ∧ ∀ H' a, Same H H' → H a = none → H' a = some (.lst ((leafI d).map V.int)) → Q (.ref a) H'
theorem inG_none {c : Addr} (D : DefAt K mg "_law_in" s__law_in c) : Cal P w K mg base CX0 1 "_law_in" ["_law_plan_here"] (fun _ _ _ _ => False) :=
  def_ok0 D scInG (fun vs H Q E h => h.elim) (fun _ _ _ _ _ _ us hl => match us, hl with | [_], _ => rfl) (fun f A outer s H vs Q E hr h => h.elim)
theorem inG_step {c : Addr} (D : DefAt K mg "_law_in" s__law_in c) (T : Txt K mg) {j : Nat} (n : Nat) {sp : Sp} (hj : 1 ≤ j) (cR : Cal P w K mg base CX0 j "_law_in" ["_law_plan_here"] sp)
    (hsp : ∀ (v : V) (d : PyData) (H : Hp) (Q : VK) (E : XK), Dp K H v d → anyP d → (leafI d).length ≤ 900 → d.depth + 1 ≤ n → (∀ H' a, Same H H' → H a = none → H' a = some (.lst ((leafI d).map V.int)) → Q (.ref a) H') → sp [v] H Q E) : Cal P w K mg base CX0 (j + 1) "_law_in" ["_law_plan_here"] (spInG K n) := by
  have sc := scInG
  refine def_ok0 D sc (fun vs H Q E h => ?_) (fun _ _ _ _ _ _ us hl => match us, hl with | [_], _ => rfl) (fun f A outer s H vs Q E hr h => ?_)
  · obtain ⟨v, d, rfl, _⟩ := h
    rfl
  · obtain ⟨v, d, rfl, hd, ok, l40, hn, k⟩ := h
    refine ⟨_, (pss_cons (ps_if (pt_not (pt_val (pe_callB call_isiD (by rfl) T.isinstance (by decide +kernel) (pa_cons (pv 0) (pa_cons (pe_bltn (v := V.ty "tuple") (u := Value.type "tuple") (by rfl) T.tuple_ (by decide +kernel) rfl) pa_nil))))) (pss_one (ps_ret (pe_lst (pa_cons (pv 0) pa_nil)))) pss_nil) (pss_cons (ps_set (i := 1) sc.nd rfl (Or.inl rfl) (pe_lst pa_nil)) (pss_cons (ps_for PassesOwn.never rfl (pi_tup (pv 0)) (pg_name (i := 2) sc.nd rfl (Or.inl rfl)) (pss_one (ps_expr (pe_bm PySem.F.plainAttrs_list PySem.F.slot_list_extend PySem.F.type_list_extend mt_extend (pv 1) (pa_cons (pe_c cR hr (by omega) (by rfl) pass0 (pa_cons (pv 2) pa_nil)) pa_nil))))) (pss_one (ps_ret (pv 1)))))), ?_⟩
    refine ⟨_, rfl, _, _, _, rfl, by simp, hd, _, rfl, ?_⟩
    rcases anyP_cases ok with ⟨i, rfl⟩ | ⟨ds, rfl, oks⟩
    · cases hd
      refine iteT ⟨_, rfl, by show 1 ≤ sizeLine; decide, fun a ha => k _ a (fun b o e => ?_) ha ?_⟩
      · rw [upd_ne (ne_of_none e ha)]
        exact e
      · rw [upd_same]
        rfl
    · refine iteF ?_
      cases hd with
      | @tup a xs _ hS hI =>
        have l40' : (leafsI ds).length ≤ 900 := l40
        have each : ∀ d ∈ ds, anyP d ∧ (leafI d).length ≤ 900 := fun d hd => ⟨anyPs_iff.mp oks d hd, Nat.le_trans (leafI_part hd) l40'⟩
        have hdep : ∀ d ∈ ds, d.depth + 1 ≤ n := fun d hd => by
          have a : PyData.depthAll ds + 1 ≤ n := by simpa only [PyData.depth] using hn
          have := depth_mem hd
          omega
        have lx : xs.length = ds.length := dpLen hI
        refine ⟨Nat.zero_le _, fun F hF0 => ?_⟩
        have s0 : Same H (upd H F (.lst [])) := fun b o e => by
          rw [upd_ne (ne_of_none e hF0)]
          exact e
        refine ⟨_, rfl, a, rfl, ⟨_, sqT_same s0 hS⟩, for_tup (K := K) (a := a) (xs := xs) (fun i σ H' => ∃ (v2 : Option V), σ = [some (.ref a), some (.ref F), v2] ∧ Same H H' ∧ H' F = some (.lst ((leafsI (ds.take i)).map V.int)))
          ⟨none, rfl, s0, upd_same⟩ (fun i σ H' _ ⟨_, _, sm, _⟩ => sqT_same sm hS) ?_ ?_⟩
        · rintro i x σ H1 hx ⟨v2, rfl, sm, hF⟩
          obtain ⟨e, ee, he⟩ := dpGet hI hx
          have em := List.mem_of_getElem? ee
          refine ⟨_, rfl, .inl ⟨rfl, _, SqL.of hF⟩, _, rfl, hsp x e H1 _ _ (dp_same sm _ he) (each e em).1 (each e em).2 (hdep e em) fun H2 G s2 hG hG2 => ?_⟩
          have wl := leafsI_le ds (i + 1)
          have et := leafsI_take ee
          have hF2 := s2 _ _ hF
          refine ⟨F, G, _, _, rfl, rfl, hF2, hG2, ?_, _, rfl, fun b o q => ?_, ?_⟩
          · rw [et, List.length_append] at wl
            rw [List.length_map, List.length_map]
            exact Nat.le_of_lt (small1000 (by omega))
          · rw [upd_ne (ne_of_none q hF0)]
            exact s2 _ _ (sm _ _ q)
          · rw [upd_same, et, List.map_append]
        · rintro σ H1 ⟨v2, rfl, sm, hF⟩
          rw [lx, List.take_length] at hF
          exact ⟨_, rfl, k _ F sm hF0 hF⟩
theorem inG_ok {c : Addr} (D : DefAt K mg "_law_in" s__law_in c) (T : Txt K mg) : ∀ n : Nat, Cal P w K mg base CX0 (n + 2) "_law_in" ["_law_plan_here"] (spInG K n)
  | 0 => inG_step D T 0 (Nat.le_refl _) (inG_none D) (fun _ _ _ _ _ _ _ _ h _ => by omega)
  | n + 1 => inG_step D T (n + 1) (by omega) (inG_ok D T n) (fun v d H Q E h1 h2 h4 h5 q => ⟨v, d, rfl, h1, h2, h4, by omega, q⟩)
theorem scFitG : FnScope ["_law_plan_here", "_law_ways", "_law_bad", "_law_part"] ["_law_plan_here", "_law_ways"] (defScope s__law_fits) := ⟨rfl, rfl, rfl, by decide +kernel, rfl, by decide +kernel, by decide +kernel⟩
def spFitG (K : PySem.W.Frag) (n : Nat) : Sp := fun vs H Q _ => ∃ (v : V) (d : PyData) (m : Nat), vs = [v, .int (m : Nat)] ∧ Dp K H v d ∧ anyP d ∧ sizeP d ≤ 900 ∧ d.depth ≤ n ∧ ∀ H', Same H H' → Q (.bl (fitP m d)) H'
theorem fitG_none {c : Addr} (D : DefAt K mg "_law_fits" s__law_fits c) : Cal P w K mg base CX0 1 "_law_fits" ["_law_plan_here", "_law_ways"] (fun _ _ _ _ => False) :=
  def_ok0 D scFitG (fun vs H Q E h => h.elim) (fun _ _ _ _ _ _ us hl => match us, hl with | [_, _], _ => rfl) (fun f A outer s H vs Q E hr h => h.elim)
theorem fitG_step {c : Addr} (D : DefAt K mg "_law_fits" s__law_fits c) (T : Txt K mg) {j : Nat} (n : Nat) (hn60 : n ≤ 63) {sp : Sp} (hj : 1 ≤ j) (cR : Cal P w K mg base CX0 j "_law_fits" ["_law_plan_here", "_law_ways"] sp)
    (hsp : ∀ (v : V) (d : PyData) (m : Nat) (H : Hp) (Q : VK) (E : XK), Dp K H v d → anyP d → sizeP d ≤ 900 → d.depth + 1 ≤ n → (∀ H', Same H H' → Q (.bl (fitP m d)) H') → sp [v, .int (m : Nat)] H Q E) : Cal P w K mg base CX0 (j + 1) "_law_fits" ["_law_plan_here", "_law_ways"] (spFitG K n) := by
  have sc := scFitG
  refine def_ok0 D sc (fun vs H Q E h => ?_) (fun _ _ _ _ _ _ us hl => match us, hl with | [_, _], _ => rfl) (fun f A outer s H vs Q E hr h => ?_)
  · obtain ⟨v, d, m, rfl, _⟩ := h
    rfl
  · obtain ⟨v, d, m, rfl, hd, ok, sz, hn, k⟩ := h
    have hu := hr.units
    refine ⟨_, (pss_cons (ps_if (pt_not (pt_val (pe_callB call_isiD (by rfl) T.isinstance (by decide +kernel) (pa_cons (pv 0) (pa_cons (pe_bltn (v := V.ty "tuple") (u := Value.type "tuple") (by rfl) T.tuple_ (by decide +kernel) rfl) pa_nil))))) (pss_one (ps_ret pe_bl)) pss_nil) (pss_cons (ps_setLc (own := [("_law_part", 3)]) (tt := _) rfl sc.nd (i := 2) rfl rfl (by rfl) (pi_tup (pv 0)) (blkOk_by (N := ["_law_plan_here", "_law_ways", "_law_bad", "_law_part"]) (sc := defScope s__law_fits) (own := [("_law_part", 3)]) (by decide +kernel)) (fun _ _ _ _ _ => (pg_name (i := 3) sc.nd rfl (Or.inl rfl))) (fun _ _ _ _ _ => pts_one (pt_not (pt_val (pe_c cR hr (by omega) (by rfl) pass0 (pa_cons (pv 3) (pa_cons (pv 1) pa_nil)))))) (fun _ _ _ _ _ => pv 3)) (pss_one (ps_ret (pe_and (pe_chain op_le op_le pe_int (pe_callB call_lenD (by rfl) T.len PySem.boot_len (pa_cons (pv 0) pa_nil)) (pv 1)) (pe_one (pe_cmpR (op_eqD hu) (pv 2) (pe_lst pa_nil) (nomark _)))))))), ?_⟩
    refine ⟨_, rfl, _, _, _, rfl, by simp, hd, _, rfl, ?_⟩
    rcases anyP_cases ok with ⟨i, rfl⟩ | ⟨ds, rfl, oks⟩
    · cases hd
      exact iteT (k H (Same.refl H))
    · refine iteF ?_
      have hdt := hd
      cases hd with
      | @tup a xs _ hS hI =>
        have dall : PyData.depthAll ds + 1 ≤ n := by simpa only [PyData.depth] using hn
        have hdep : ∀ d ∈ ds, d.depth + 1 ≤ n := fun d hd => by
          have := depth_mem hd
          omega
        have szt : sizeP (.tuple ds) = 1 + sizePs ds := rfl
        have szd : ∀ d ∈ ds, sizeP d ≤ 900 := fun d hd => by have := sizeP_part hd; omega
        have lds := len_sizePs ds
        have lx : xs.length = ds.length := dpLen hI
        refine ⟨_, rfl, a, rfl, ⟨_, hS⟩, fun DD hD => ?_⟩
        refine lc_tup (K := K) (a := a) (xs := xs) (fun j H' => Same H H' ∧ ∃ ys : List V, H' DD = some (.lst ys) ∧ DpAll K H ys ((ds.take j).filter fun d => !fitP m d)) ⟨fun b o e => by rw [upd_ne (ne_of_none e hD)]; exact e, [], upd_same, .nil⟩ (fun j H4 _ h => sqT_same h.1 hS) ?_ ?_
        · rintro j x H4 hx ⟨sm, ys, hl4, dy⟩
          obtain ⟨e, ee, he⟩ := dpGet hI hx
          have em := List.mem_of_getElem? ee
          refine ⟨rfl, _, rfl, _, rfl, hsp x e m H4 _ _ (dp_same sm _ he) (anyPs_iff.mp oks e em) (szd e em) (hdep e em) fun H5 s5 => ?_⟩
          refine ⟨_, rfl, ?_⟩
          have et : (ds.take (j + 1)).filter (fun d => !fitP m d) = (ds.take j).filter (fun d => !fitP m d) ++ [e].filter (fun d => !fitP m d) := by
            rw [List.take_add_one, ee, List.filter_append]
            rfl
          cases hf : fitP m e with
          | true =>
            refine iteF ⟨sm.trans s5, ys, s5 _ _ hl4, ?_⟩
            rw [et, List.filter_cons, hf]
            simpa using dy
          | false =>
            have ly : ys.length ≤ 900 := by
              rw [dpLen dy]
              have h1 := List.length_filter_le (fun d => !fitP m d) (ds.take j)
              have h2 : (ds.take j).length ≤ ds.length := by rw [List.length_take]; exact Nat.min_le_right _ _
              omega
            refine iteT ⟨_, rfl, ys, s5 _ _ hl4, small1000 (by omega), fun b o q => (upd_ne (ne_of_none q hD)).trans ((sm.trans s5) b o q), _, upd_same, ?_⟩
            rw [et, List.filter_cons, hf]
            exact dpApp dy (.cons he .nil)
        · rintro H4 ⟨sm, ys, hl4, dy⟩
          rw [lx, List.take_length] at dy
          dsimp only [gName]
          refine ⟨_, rfl, _, _, ds.length, rfl, dp_same sm _ hdt, rfl, _, _, rfl, rfl, _, rfl, ?_⟩
          have ef : fitP m (.tuple ds) = (decide (2 ≤ ds.length) && decide (ds.length ≤ m) && fitPs m ds) := by rw [fitP]
          rw [ef] at k
          by_cases c1 : 2 ≤ ds.length
          · rw [show decide ((2 : Int) ≤ (ds.length : Nat)) = true from decide_eq_true (by omega)]
            rw [decide_eq_true c1] at k
            refine iteT ⟨_, rfl, _, _, rfl, rfl, _, rfl, ?_⟩
            by_cases c2 : ds.length ≤ m
            · rw [show decide (((ds.length : Nat) : Int) ≤ (m : Nat)) = true from decide_eq_true (by omega)]
              rw [decide_eq_true c2] at k
              refine iteT ⟨_, rfl, Nat.zero_le _, fun E2 hE2 => ?_⟩
              have s6 : Same H4 (upd H4 E2 (.lst [])) := fun b o e => by
                rw [upd_ne (ne_of_none e hE2)]
                exact e
              refine ⟨.list _, .list [], .lst (s6.seq (SqL.of hl4)) (dpAll_same (sm.trans s6) _ dy), .lst (SqL.of upd_same) .nil, ?_, by decide +kernel, ?_⟩
              · unfold SeqAt.shaped
                rw [Bool.and_eq_true]
                refine ⟨?_, decide_eq_true ?_⟩
                · simp only [PyData.canLay0]
                  exact canLayAll7 fun d hd => anyP_lay d (anyPs_iff.mp oks d ((List.mem_filter.mp hd).1))
                · simp only [PyData.depth]
                  have := depthLe7 (n := n) (ds := ds.filter fun d => !fitP m d) fun d hd => by
                    have := hdep d ((List.mem_filter.mp hd).1)
                    omega
                  omega
              · rw [eqv_nil, ← fitPs_all]
                have := k _ (sm.trans s6)
                simpa using this
            · rw [show decide (((ds.length : Nat) : Int) ≤ (m : Nat)) = false from decide_eq_false (by omega)]
              rw [decide_eq_false c2] at k
              exact iteF (by simpa using k _ sm)
          · rw [show decide ((2 : Int) ≤ (ds.length : Nat)) = false from decide_eq_false (by omega)]
            rw [decide_eq_false c1] at k
            exact iteF ⟨_, rfl, iteF (by simpa using k _ sm)⟩
theorem fitG_ok {c : Addr} (D : DefAt K mg "_law_fits" s__law_fits c) (T : Txt K mg) : ∀ n : Nat, n ≤ 63 → Cal P w K mg base CX0 (n + 2) "_law_fits" ["_law_plan_here", "_law_ways"] (spFitG K n)
  | 0, _ => fitG_step D T 0 (by omega) (Nat.le_refl _) (fitG_none D) (fun _ _ _ _ _ _ _ _ _ h _ => by omega)
  | n + 1, h => fitG_step D T (n + 1) h (by omega) (fitG_ok D T n (by omega)) (fun v d m H Q E h1 h2 h3 h5 q => ⟨v, d, m, rfl, h1, h2, h3, by omega, q⟩)
end
end RS
set_option Elab.async false
set_option maxRecDepth 100000
set_option maxHeartbeats 4000000
namespace RS
open PySem PySem.Spec PyProof.Rows L2 GX
/-! ### odd nests of tuples and numbers -/
mutual
theorem okP_any {w : Nat} : ∀ d : PyData, okP w d → anyP d
  | .int _, _ => trivial
  | .tuple ds, h => by
    unfold okP at h
    exact okPs_any ds h.2.2
  | .none, h => by simp [okP] at h
  | .bool _, h => by simp [okP] at h
  | .str _, h => by simp [okP] at h
  | .list _, h => by simp [okP] at h
  | .dict _, h => by simp [okP] at h
theorem okPs_any {w : Nat} : ∀ ds : List PyData, okPs w ds → anyPs ds
  | [], _ => trivial
  | d :: ds, h => by
    unfold okPs at h
    exact ⟨okP_any d h.1, okPs_any ds h.2⟩
end
mutual
theorem okP_size {w : Nat} : ∀ d : PyData, okP w d → sizeP d + 1 ≤ 2 * (leaf d).length
  | .int _, _ => by simp [sizeP, leaf]
  | .tuple ds, h => by
    unfold okP at h
    have := okPs_size ds h.2.2
    show 1 + sizePs ds + 1 ≤ 2 * (leafs ds).length
    omega
  | .none, h => by simp [okP] at h
  | .bool _, h => by simp [okP] at h
  | .str _, h => by simp [okP] at h
  | .list _, h => by simp [okP] at h
  | .dict _, h => by simp [okP] at h
theorem okPs_size {w : Nat} : ∀ ds : List PyData, okPs w ds → sizePs ds + ds.length ≤ 2 * (leafs ds).length
  | [], _ => by simp [sizePs, leafs]
  | d :: ds, h => by
    unfold okPs at h
    have h1 := okP_size d h.1
    have h2 := okPs_size ds h.2
    show sizeP d + sizePs ds + (ds.length + 1) ≤ 2 * (leaf d ++ leafs ds).length
    rw [List.length_append]
    omega
end
mutual
theorem leafI_size : ∀ d : PyData, (leafI d).length ≤ sizeP d
  | .int _ => by simp [sizeP, leafI]
  | .tuple ds => by
    have := leafsI_size ds
    show (leafsI ds).length ≤ 1 + sizePs ds
    omega
  | .none => by simp [sizeP, leafI]
  | .bool _ => by simp [sizeP, leafI]
  | .str _ => by simp [sizeP, leafI]
  | .list _ => by simp [sizeP, leafI]
  | .dict _ => by simp [sizeP, leafI]
theorem leafsI_size : ∀ ds : List PyData, (leafsI ds).length ≤ sizePs ds
  | [] => by simp [sizePs, leafsI]
  | d :: ds => by
    have h1 := leafI_size d
    have h2 := leafsI_size ds
    show (leafI d ++ leafsI ds).length ≤ sizeP d + sizePs ds
    rw [List.length_append]
    omega
end
mutual
theorem anyP_noL : ∀ d : PyData, anyP d → noL d = true
  | .int _, _ => rfl
  | .tuple ds, h => by
    show noLs ds = true
    exact anyPs_noL ds h
  | .none, h => h.elim
  | .bool _, h => h.elim
  | .str _, h => h.elim
  | .list _, h => h.elim
  | .dict _, h => h.elim
theorem anyPs_noL : ∀ ds : List PyData, anyPs ds → noLs ds = true
  | [], _ => rfl
  | d :: ds, h => by
    unfold noLs
    rw [anyP_noL d h.1, anyPs_noL ds h.2]
    rfl
end
/-- a nest, not too big -/
def OddV (K : PySem.W.Frag) (H : Hp) (v : V) : Prop := ∃ d : PyData, Dp K H v d ∧ anyP d ∧ sizeP d ≤ 400 ∧ d.depth ≤ 45
theorem OddV.same {K : PySem.W.Frag} {H H' : Hp} {v : V} (h : OddV K H v) (s : Same H H') : OddV K H' v := by
  obtain ⟨d, h1, h2⟩ := h
  exact ⟨d, dp_same s _ h1, h2⟩
theorem OddV.x {K : PySem.W.Frag} {H H' : Hp} {B L : Addr} {v : V} (h : OddV K H v) (b : BoxAt H B L) (s : SameX B L H H') : OddV K H' v := by
  obtain ⟨d, h1, h2⟩ := h
  exact ⟨d, dp_x b s _ (anyP_noL d h2.1) h1, h2⟩
theorem odd_int {K : PySem.W.Frag} {H : Hp} {i : Int} : OddV K H (.int i) := ⟨.int i, .int i, trivial, by show (1 : Nat) ≤ 400; decide, by simp [PyData.depth]⟩
/-- nests of at most so much together -/
structure OddL (K : PySem.W.Frag) (H : Hp) (vs : List V) (z e : Nat) (ds : List PyData) : Prop where
  d : DpAll K H vs ds
  a : anyPs ds
  s : sizePs ds ≤ z
  p : PyData.depthAll ds ≤ e
theorem OddL.same {K : PySem.W.Frag} {H H' : Hp} {vs : List V} {z e : Nat} {ds : List PyData} (h : OddL K H vs z e ds) (s : Same H H') : OddL K H' vs z e ds := ⟨dpAll_same s _ h.d, h.a, h.s, h.p⟩
theorem odd_tup {K : PySem.W.Frag} {H : Hp} {t : Addr} {vs : List V} {z e : Nat} {ds : List PyData} (h : SqT K H t vs) (o : OddL K H vs z e ds) (hz : z ≤ 399) (he : e ≤ 44) : OddV K H (.ref t) :=
  ⟨.tuple ds, .tup h o.d, o.a, by have := o.s; show 1 + sizePs ds ≤ 400; omega, by have := o.p; simp only [PyData.depth]; omega⟩
theorem sub_any {ds' ds : List PyData} (s : ds'.Sublist ds) (h : anyPs ds) : anyPs ds' := anyPs_iff.mpr fun d hd => anyPs_iff.mp h d (s.subset hd)
theorem sub_size {ds' ds : List PyData} (s : ds'.Sublist ds) : sizePs ds' ≤ sizePs ds := by
  induction s with
  | slnil => exact Nat.le_refl _
  | @cons l1 l2 a _ ih => show _ ≤ sizeP a + sizePs l2; omega
  | @cons_cons l1 l2 a _ ih => show sizeP a + sizePs l1 ≤ sizeP a + sizePs l2; omega
theorem sub_depth {ds' ds : List PyData} (s : ds'.Sublist ds) : PyData.depthAll ds' ≤ PyData.depthAll ds := depthLe7 fun _ hd => depth_mem (s.subset hd)
theorem dpAll_drop7 {K : PySem.W.Frag} {H : Hp} : ∀ {xs : List V} {ds : List PyData}, DpAll K H xs ds → ∀ k : Nat, DpAll K H (xs.drop k) (ds.drop k)
  | _, _, h, 0 => h
  | _, _, .nil, k + 1 => .nil
  | _, _, .cons _ t, k + 1 => dpAll_drop7 t k
theorem dpAll_take7 {K : PySem.W.Frag} {H : Hp} : ∀ {xs : List V} {ds : List PyData}, DpAll K H xs ds → ∀ k : Nat, DpAll K H (xs.take k) (ds.take k)
  | _, _, _, 0 => .nil
  | _, _, .nil, k + 1 => .nil
  | _, _, .cons h t, k + 1 => .cons h (dpAll_take7 t k)
theorem dpAll_cut {K : PySem.W.Frag} {H : Hp} {xs : List V} {ds : List PyData} {lo hi : Option Int} (h : DpAll K H xs ds) : ∃ ds', DpAll K H (cutV xs lo hi) ds' ∧ ds'.Sublist ds := by
  unfold cutV
  exact ⟨_, dpAll_take7 (dpAll_drop7 h _) _, (List.take_sublist _ _).trans (List.drop_sublist _ _)⟩
theorem oddL_cut {K : PySem.W.Frag} {H : Hp} {xs : List V} {z e : Nat} {ds : List PyData} {lo hi : Option Int} (h : OddL K H xs z e ds) : ∃ ds', OddL K H (cutV xs lo hi) z e ds' := by
  obtain ⟨ds', h1, h2⟩ := dpAll_cut (lo := lo) (hi := hi) h.d
  exact ⟨ds', h1, sub_any h2 h.a, Nat.le_trans (sub_size h2) h.s, Nat.le_trans (sub_depth h2) h.p⟩
theorem odd_perm_uniq {l l' : List Int} (p : l.Perm l') (s : l.Pairwise (· ≤ ·)) (s' : l'.Pairwise (· ≤ ·)) : l = l' := p.eq_of_pairwise (le := (· ≤ ·)) (fun a b _ _ h1 h2 => Int.le_antisymm h1 h2) s s'
theorem upto_sorted (m : Nat) : (upto m).Pairwise (· ≤ ·) := by
  unfold upto
  exact List.pairwise_map.mpr (List.pairwise_lt_range.imp fun h => by omega)
theorem eqv_intsD : ∀ l l' : List Int, PyData.eqvAll (l.map .int) (l'.map .int) = decide (l = l')
  | [], [] => by simp [PyData.eqvAll]
  | [], _ :: _ => by simp [PyData.eqvAll]
  | _ :: _, [] => by simp [PyData.eqvAll]
  | x :: l, y :: l' => by
    simp only [List.map_cons, PyData.eqvAll, eqv_intsD l l', PyData.eqv]
    by_cases h : x = y
    · subst h; simp
    · simp [h]
/-- a plan alone in a tuple is none -/
theorem single_bad {m n : Nat} {d : PyData} : ¬ OkG m n (.tuple [d]) := fun z => by
  have := z.1
  rw [fitP] at this
  simp at this
theorem new_any7 {H : Hp} {o : HO} {Q : V → Hp → Prop} (q : ∀ p H', Same H H' → H p = none → H' p = some o → Q (.ref p) H') : ∀ p, H p = none → Q (.ref p) (upd H p o) := fun p hp => q p _ (sameNew (Same.refl H) hp) hp upd_same
theorem cat_any7 {H : Hp} {a b : Addr} {xs ys : List V} {Q : VK} (ha : H a = some (.lst xs)) (hb : H b = some (.lst ys)) (hz : xs.length + ys.length ≤ sizeLine) (q : ∀ p H', Same H H' → H p = none → H' p = some (.lst (xs ++ ys)) → Q (.ref p) H') : rCat (.ref a) (.ref b) H Q :=
  ⟨a, b, xs, ys, rfl, rfl, ha, hb, hz, fun p hp => q p _ (sameNew (Same.refl H) hp) hp upd_same⟩
theorem seq_join7 {A U : TS} {D : Ends} {σ : L2.St} {H : Hp} (N : L2.St → Hp → Prop) (fin : ∀ σ' H', N σ' H' → U D σ' H') (h : ∀ nx : L2.St → Hp → Prop, (∀ σ' H', N σ' H' → nx σ' H') → A { D with nx := nx } σ H) : tSeq A U D σ H := h _ fin
theorem te_join {t : TE} {σ : L2.St} {H : Hp} {Q : VK} (N : V → Hp → Prop) (fin : ∀ v H', N v H' → Q v H') (h : ∀ Q' : VK, (∀ v H', N v H' → Q' v H') → t σ H Q') : t σ H Q := h Q fin
theorem oddL_int {K : PySem.W.Frag} {H : Hp} {i : Int} : OddL K H [.int i] 1 0 [.int i] := ⟨.cons (.int i) .nil, ⟨trivial, trivial⟩, by simp [sizePs, sizeP], by simp [PyData.depthAll, PyData.depth]⟩
theorem oddL_app {K : PySem.W.Frag} {H : Hp} {vs vs' : List V} {z e z' e' : Nat} {ds ds' : List PyData} (h : OddL K H vs z e ds) (h' : OddL K H vs' z' e' ds') : OddL K H (vs ++ vs') (z + z') (max e e') (ds ++ ds') :=
  ⟨dpApp h.d h'.d, anyPs_app.mpr ⟨h.a, h'.a⟩, by rw [sizePs_app]; have := h.s; have := h'.s; omega, depthLe7 fun d hd => by
    rcases List.mem_append.mp hd with q | q
    · exact Nat.le_trans (depth_mem q) (Nat.le_trans h.p (Nat.le_max_left _ _))
    · exact Nat.le_trans (depth_mem q) (Nat.le_trans h'.p (Nat.le_max_right _ _))⟩
theorem oddL_tup {K : PySem.W.Frag} {H : Hp} {t : Addr} {vs : List V} {z e : Nat} {ds : List PyData} (h : SqT K H t vs) (o : OddL K H vs z e ds) : OddL K H [.ref t] (z + 1) (e + 1) [.tuple ds] :=
  ⟨.cons (.tup h o.d) .nil, ⟨o.a, trivial⟩, by have := o.s; show 1 + sizePs ds + 0 ≤ z + 1; omega, by have := o.p; simp only [PyData.depthAll, PyData.depth]; omega⟩
theorem oddL_ints {K : PySem.W.Frag} {H : Hp} : ∀ is : List Int, OddL K H (is.map V.int) is.length 0 (is.map PyData.int)
  | [] => ⟨.nil, trivial, Nat.le_refl _, by simp [PyData.depthAll]⟩
  | i :: is => by
    have h := oddL_ints (K := K) (H := H) is
    exact ⟨.cons (.int i) h.d, ⟨trivial, h.a⟩, by have := h.s; show 1 + sizePs (is.map PyData.int) ≤ is.length + 1; omega, by have := h.p; simp only [List.map_cons, PyData.depthAll, PyData.depth]; omega⟩
theorem oddL_get {K : PySem.W.Frag} {H : Hp} {vs : List V} {z e : Nat} {ds : List PyData} {i : Nat} {v : V} (h : OddL K H vs z e ds) (hv : vs[i]? = some v) : ∃ d, OddL K H [v] z e [d] := by
  obtain ⟨d, ed, hd⟩ := dpGet h.d hv
  have m := List.mem_of_getElem? ed
  exact ⟨d, .cons hd .nil, ⟨anyPs_iff.mp h.a d m, trivial⟩, by have := sizeP_part m; have := h.s; show sizeP d + 0 ≤ z; omega, by have := depth_mem m; have := h.p; simp only [PyData.depthAll]; omega⟩
theorem oddL_v {K : PySem.W.Frag} {H : Hp} {v : V} {z e : Nat} {ds : List PyData} (h : OddL K H [v] z e ds) (hz : z ≤ 400) (he : e ≤ 45) : OddV K H v := by
  obtain ⟨d1, d2, d3, d4⟩ := h
  cases d1 with
  | cons h1 h2 =>
    cases h2
    exact ⟨_, h1, d2.1, Nat.le_trans (sizeP_part List.mem_cons_self) (Nat.le_trans d3 hz), Nat.le_trans (depth_mem List.mem_cons_self) (Nat.le_trans d4 he)⟩
theorem rg_ints (a b : Int) : ∃ is : List Int, rgV a b = is.map V.int ∧ is.length = (b - a).toNat := ⟨(List.range (b - a).toNat).map fun i => a + (i : Nat), by unfold rgV; rw [List.map_map]; rfl, by rw [List.length_map, List.length_range]⟩
theorem rg_upto (m : Nat) : rgV 0 (m : Nat) = (upto m).map V.int := by
  unfold rgV upto
  rw [List.map_map, Int.sub_zero, Int.toNat_natCast]
  refine List.map_congr_left fun j _ => ?_
  show V.int (0 + (j : Nat)) = V.int (j : Nat)
  rw [Int.zero_add]
end RS
set_option Elab.async false
set_option maxRecDepth 100000
set_option maxHeartbeats 8000000
set_option pp.maxSteps 400
namespace RS
open PySem PySem.Spec PyProof.Rows L2 GX LM
/-! ### how many tuples there are -/
mutual
def tn : PyData → Nat
  | .tuple ds => 1 + tns ds
  | _ => 0
def tns : List PyData → Nat
  | [] => 0
  | d :: ds => tn d + tns ds
end
theorem tns_app : ∀ {a b : List PyData}, tns (a ++ b) = tns a + tns b
  | [], b => by simp [tns]
  | d :: a, b => by
    show tn d + tns (a ++ b) = tn d + tns a + tns b
    rw [tns_app]; omega
mutual
theorem tn_depth : ∀ {d : PyData}, plD d → d.depth ≤ tn d
  | .int _, _ => by simp [PyData.depth]
  | .tuple ds, h => by
    have := tns_depth h.2
    simp only [PyData.depth, tn]
    omega
theorem tns_depth : ∀ {ds : List PyData}, plDs ds → PyData.depthAll ds ≤ tns ds
  | [], _ => by simp [PyData.depthAll]
  | d :: ds, h => by
    have := tn_depth h.1
    have := tns_depth h.2
    simp only [PyData.depthAll, tns]
    omega
end
def tnF : Lvs → Nat
  | [] => 0
  | f :: r => tns f + tnF r
def opN (ws : List Str) : Nat := (ws.filter fun x => decide (x = opS)).length
theorem opN_snoc {ws : List Str} {i : Nat} {x : Str} (h : ws[i]? = some x) : opN (ws.take (i + 1)) = opN (ws.take i) + if x = opS then 1 else 0 := by
  unfold opN
  rw [List.take_add_one, h, List.filter_append, List.length_append]
  by_cases c : x = opS
  · rw [if_pos c]; simp [c]
  · rw [if_neg c]; simp [c]
theorem opN_take (ws : List Str) (i : Nat) : opN (ws.take i) ≤ opN ws := by
  unfold opN
  exact (((List.take_sublist i ws).filter _)).length_le
theorem tnF_step {c : Nat} {fs : Lvs} {x : Str} (h : tnF fs + fs.length = c + 1) (m : mayF fs x = true) : tnF (stepF fs x) + (stepF fs x).length = (c + if x = opS then 1 else 0) + 1 := by
  cases fs with
  | nil => cases m
  | cons f r =>
    by_cases c1 : x = opS
    · have e : stepF (f :: r) x = [] :: f :: r := if_pos c1
      rw [e, if_pos c1]
      have h : tns f + tnF r + (r.length + 1) = c + 1 := h
      show 0 + (tns f + tnF r) + (r.length + 1 + 1) = _
      omega
    · by_cases c2 : x = clS
      · have e : stepF (f :: r) x = popF (f :: r) := by
          unfold stepF
          rw [if_neg c1, if_pos c2]
        rw [e, if_neg c1]
        cases r with
        | nil => exact h
        | cons g r =>
          have h : tns f + (tns g + tnF r) + (r.length + 1 + 1) = c + 1 := h
          show tns (g ++ [.tuple f]) + tnF r + (r.length + 1) = _
          rw [tns_app]
          simp only [tns, tn]
          omega
      · have e : stepF (f :: r) x = numF ((numO x).getD 0) (f :: r) := by
          unfold stepF
          rw [if_neg c1, if_neg c2]
        rw [e, if_neg c1]
        have h : tns f + tnF r + (r.length + 1) = c + 1 := h
        show tns (f ++ [_]) + tnF r + (r.length + 1) = _
        rw [tns_app]
        simp only [tns, tn]
        omega
theorem readW_tn {ws : List Str} {d : PyData} (h : readW ws = .inr d) : tn d ≤ opN ws := by
  have gen : ∀ (vs : List Str) (i c : Nat) (fs fs' : Lvs), tnF fs + fs.length = c + 1 → runF vs i fs = .inr fs' → tnF fs' + fs'.length = c + opN vs + 1 := by
    intro vs
    induction vs with
    | nil =>
      intro i c fs fs' o e
      cases e
      exact o
    | cons x vs ih =>
      intro i c fs fs' o e
      unfold runF at e
      by_cases m : mayF fs x = true
      · rw [if_pos m] at e
        have := ih (i + 1) _ _ fs' (tnF_step o m) e
        have ex : opN (x :: vs) = (if x = opS then 1 else 0) + opN vs := by
          unfold opN
          by_cases c : x = opS
          · rw [if_pos c]; simp [c]; omega
          · rw [if_neg c]; simp [c]
        rw [ex]
        omega
      · rw [if_neg m] at e
        cases e
  unfold readW at h
  cases hr : runF ws 0 [[]] with
  | inl i => rw [hr] at h; cases h
  | inr fs =>
    rw [hr] at h
    have o := gen ws 0 0 _ _ rfl hr
    have h : endF ws.length fs = .inr d := h
    match fs, h, o with
    | [d' :: f], h, o =>
      cases h
      have o : tn d + tns f + 0 + 1 = 0 + opN ws + 1 := o
      omega
def planDue (m n : Nat) (t : Str) : PyData := match readW (Txt.split t sp1) with
  | .inl i => .tuple [.str "BadText", .int (i : Nat)]
  | .inr d => if (fitP n d && decide ((leafI d).Perm (upto m))) = true then d else .tuple [.str "BadPlan", .int 0]
theorem planDue_inl {m n i : Nat} {t : Str} (h : readW (Txt.split t sp1) = .inl i) : planDue m n t = .tuple [.str "BadText", .int (i : Nat)] := by
  unfold planDue
  rw [h]
theorem okG_iff {m n : Nat} {d : PyData} : (fitP n d && decide ((leafI d).Perm (upto m))) = true ↔ OkG m n d := by
  rw [Bool.and_eq_true, decide_eq_true_eq]
  exact Iff.rfl
theorem shaped_pl {ds : List PyData} (h : plDs ds) (h2 : tns ds ≤ 63) : SeqAt.shaped (.list ds) = true := by
  have := tns_depth h
  unfold SeqAt.shaped
  rw [Bool.and_eq_true]
  exact ⟨by simp only [PyData.canLay0]; exact anyPs_lay ds (pls_any h).1, decide_eq_true (by simp only [PyData.depth]; omega)⟩
theorem shaped_intsD (l : List Int) : SeqAt.shaped (.list (l.map .int)) = true := by
  have h1 : PyData.canLayAll0 (l.map .int) = true := by
    induction l with
    | nil => simp [PyData.canLayAll0]
    | cons m ms ih => simp [PyData.canLayAll0, PyData.canLay0, ih]
  have h2 : PyData.depthAll (l.map .int) = 0 := by
    clear h1
    induction l with
    | nil => simp [PyData.depthAll]
    | cons m ms ih => simp [PyData.depthAll, PyData.depth, ih]
  unfold SeqAt.shaped
  rw [Bool.and_eq_true]
  refine ⟨by simp only [PyData.canLay0]; exact h1, decide_eq_true ?_⟩
  simp only [PyData.depth, h2]
  decide
theorem dp_ints22 {K : PySem.W.Frag} {H : Hp} : ∀ l : List Int, DpAll K H (l.map V.int) (l.map .int)
  | [] => .nil
  | n :: ns => .cons (.int _) (dp_ints22 ns)
theorem split_empty22 : Txt.split Str.empty sp1 = [Str.empty] := by decide +kernel
section
variable {P : Program} {w : World} {K : PySem.W.Frag} {mg : Str → Option Value} {base : Heap}
abbrev NPd : List Str := ["_law_many", "_law_ways", "_law_text", "_law_words", "_law_left", "_law_place", "_law_part", "_law_plan_here", "_law_good"]
theorem scPD22 : FnScope NPd ["_law_many", "_law_ways", "_law_text"] (defScope s__law_plan_due) := ⟨rfl, rfl, rfl, by decide +kernel, rfl, by decide +kernel, by decide +kernel⟩
def spPD (K : PySem.W.Frag) : Sp := fun vs H Q _ => ∃ (m n : Nat) (t : Str), vs = [.int (m : Nat), .int (n : Nat), .str t] ∧ m ≤ 40 ∧ n ≤ 6 ∧ t.length ≤ 720 ∧ opN (Txt.split t sp1) ≤ 63 ∧ ∀ H' v, Same H H' → Dp K H' v (planDue m n t) → Q v H'
theorem plan_due_ok {c : Addr} (D : DefAt K mg "_law_plan_due" s__law_plan_due c) (T : Txt K mg) (cN : Cal P w K mg base CX0 1 "_law_number" ["_law_word"] spNumL) (cI : Cal P w K mg base CX0 65 "_law_in" ["_law_plan_here"] (spInG K 63)) (cF : Cal P w K mg base CX0 65 "_law_fits" ["_law_plan_here", "_law_ways"] (spFitG K 63)) : Cal P w K mg base CX0 66 "_law_plan_due" ["_law_many", "_law_ways", "_law_text"] (spPD K) := by
  have sc := scPD22
  refine def_ok0 D sc (fun vs H Q E h => ?_) (fun _ _ _ _ _ _ us hl => match us, hl with | [_, _, _], _ => rfl) (fun f A outer s H vs Q E hr h => ?_)
  · obtain ⟨m, n, t, rfl, _⟩ := h
    rfl
  · obtain ⟨m, n, t, rfl, m40, n6, tl, on, k⟩ := h
    have hu := hr.units
    have big : (1000 : Nat) ≤ sizeLine := by decide
    have tup : ∀ {HX : Hp} {a : Addr} {nm : Str} {i : Int}, HX a = some (.tup [.str nm, .int i]) → Dp K HX (.ref a) (.tuple [.str nm, .int i]) := fun h => .tup (SqT.of h) (.cons (.str _) (.cons (.int _) .nil))
    refine ⟨_, (pss_cons (ps_set (i := 3) sc.nd rfl (Or.inl rfl) (pe_ifExp (pt_cmpR op_ne (pv 2) pe_str (nomark _)) (pe_bm PySem.F.plainAttrs_str PySem.F.slot_str_split PySem.F.type_str_split mt_split (pv 2) (pa_cons pe_str pa_nil)) (pe_lst pa_nil))) (pss_cons (ps_set (i := 4) sc.nd rfl (Or.inl rfl) (pe_lst (pa_cons (pe_lst pa_nil) pa_nil))) (pss_cons (ps_for PassesOwn.never rfl (pi_range1 (by rfl) T.range (pa_cons (pe_callB call_len_seq (by rfl) T.len PySem.boot_len (pa_cons (pv 3) pa_nil)) pa_nil)) (pg_name (i := 5) sc.nd rfl (Or.inl rfl)) (pss_cons (ps_if ((pw_and (pt_cmpR op_eq (pe_callB call_len_seq (by rfl) T.len PySem.boot_len (pa_cons (pv 4) pa_nil)) pe_int (nomark _)) (pw_and1 (pt_cmpR (op_neD hu) (pe_ix ix_list (pv 4) pe_int (fun _ _ => rfl)) (pe_lst pa_nil) (nomark _)))).pt) (pss_one (ps_ret (pe_tup (pa_cons pe_str (pa_cons (pv 5) pa_nil))))) pss_nil) (pss_one (ps_if (pt_cmpR op_eq (pe_ix ix_list (pv 3) (pv 5) (fun _ _ => rfl)) pe_str (nomark _)) (pss_one (ps_expr (pe_bm PySem.F.plainAttrs_list PySem.F.slot_list_append PySem.F.type_list_append mt_append (pv 4) (pa_cons (pe_lst pa_nil) pa_nil)))) (pss_one (ps_if ((pw_and (pt_cmpR op_eq (pe_ix ix_list (pv 3) (pv 5) (fun _ _ => rfl)) pe_str (nomark _)) (pw_and (pt_cmpR op_gt (pe_callB call_len_seq (by rfl) T.len PySem.boot_len (pa_cons (pv 4) pa_nil)) pe_int (nomark _)) (pw_and1 (pt_cmpR (op_neD hu) (pe_ix ix_list (pv 4) (pe_un un_neg pe_int) (fun _ _ => rfl)) (pe_lst pa_nil) (nomark _))))).pt) (pss_cons (ps_set (i := 6) sc.nd rfl (Or.inl rfl) (pe_callTy call_tuple_of (by rfl) T.tuple_ (by decide +kernel) (pa_cons (pe_bm0 PySem.F.plainAttrs_list PySem.F.slot_list_pop PySem.F.type_list_pop mt_pop (pv 4)) pa_nil))) (pss_one (ps_expr (pe_bm PySem.F.plainAttrs_list PySem.F.slot_list_append PySem.F.type_list_append mt_append (pe_ix ix_list (pv 4) (pe_un un_neg pe_int) (fun _ _ => rfl)) (pa_cons (pv 6) pa_nil))))) (pss_one (ps_if (pt_cmpR op_notN (pe_c cN hr (by decide) (by rfl) pass0 (pa_cons (pe_ix ix_list (pv 3) (pv 5) (fun _ _ => rfl)) pa_nil)) pe_non (nomark _)) (pss_one (ps_expr (pe_bm PySem.F.plainAttrs_list PySem.F.slot_list_append PySem.F.type_list_append mt_append (pe_ix ix_list (pv 4) (pe_un un_neg pe_int) (fun _ _ => rfl)) (pa_cons (pe_c cN hr (by decide) (by rfl) pass0 (pa_cons (pe_ix ix_list (pv 3) (pv 5) (fun _ _ => rfl)) pa_nil)) pa_nil)))) (pss_one (ps_ret (pe_tup (pa_cons pe_str (pa_cons (pv 5) pa_nil))))))))))))) (pss_cons (ps_if ((pw_or (pt_cmpR op_gt (pe_callB call_len_seq (by rfl) T.len PySem.boot_len (pa_cons (pv 4) pa_nil)) pe_int (nomark _)) (pw_or1 (pt_cmpR (op_eqD hu) (pe_ix ix_list (pv 4) pe_int (fun _ _ => rfl)) (pe_lst pa_nil) (nomark _)))).pt) (pss_one (ps_ret (pe_tup (pa_cons pe_str (pa_cons (pe_callB call_len_seq (by rfl) T.len PySem.boot_len (pa_cons (pv 3) pa_nil)) pa_nil))))) pss_nil) (pss_cons (ps_set (i := 7) sc.nd rfl (Or.inl rfl) (pe_ix ix_list (pe_ix ix_list (pv 4) pe_int (fun _ _ => rfl)) pe_int (fun _ _ => rfl))) (pss_cons (ps_set (i := 8) sc.nd rfl (Or.inl rfl) (pe_and (pe_cmpR (op_eqD hu) (pe_callB cr_sortedI (by rfl) T.sorted (by decide +kernel) (pa_cons (pe_c cI hr (by decide) (by rfl) pass0 (pa_cons (pv 7) pa_nil)) pa_nil)) (pe_listRg rfl (by rfl) T.list_ (prg_1 (by rfl) T.range (pv 0))) (nomark _)) (pe_one (pe_c cF hr (by decide) (by rfl) pass0 (pa_cons (pv 7) (pa_cons (pv 1) pa_nil)))))) (pss_one (ps_ret (pe_ifExp (pt_truth (pv 8) (by intro _; rfl)) (pv 7) (pe_tup (pa_cons pe_str (pa_cons pe_int pa_nil)))))))))))), ?_⟩
    refine viaA22 (fun v H' => ∃ (W : Addr) (ws : List Str), v = .ref W ∧ H' W = some (.lst (ws.map V.str)) ∧ Same H H' ∧ ((t = Str.empty ∧ ws = []) ∨ ws = Txt.split t sp1)) (fun Q' fin => ?_) ?_
    · refine ⟨_, rfl, rfl, _, rfl, ?_⟩
      by_cases e : t = Str.empty
      · refine iteF' (by rw [e]; decide +kernel) ⟨Nat.zero_le _, fun W nW => fin _ _ ⟨W, [], rfl, upd_same, sameNew (Same.refl H) nW, .inl ⟨e, rfl⟩⟩⟩
      · refine iteT' (by
          rw [Bool.not_eq_true', decide_eq_false_iff_not]
          exact fun z => e (V.str.inj z)) ⟨_, rfl, rfl, _, _, rfl, rfl, by decide +kernel, by omega, fun W nW => fin _ _ ⟨W, Txt.split t sp1, rfl, upd_same, sameNew (Same.refl H) nW, .inr rfl⟩⟩
    rintro _ H1 ⟨W, ws, rfl, hW, s01, hws⟩
    try dsimp only [gName, List.set]
    have l8 : ws.length ≤ 800 ∧ (∀ x ∈ ws, x.length ≤ 720) ∧ opN ws ≤ 63 := by
      rcases hws with ⟨_, rfl⟩ | rfl
      · exact ⟨Nat.zero_le _, (fun x h => nomatch h), Nat.zero_le _⟩
      · exact ⟨(words_fit tl).1, (words_fit tl).2, on⟩
    obtain ⟨w8, wx, won⟩ := l8
    refine ⟨Nat.zero_le _, fun e0 he0 => ⟨by show 1 ≤ sizeLine; decide, fun Lv hLv => ?_⟩⟩
    have hLv0 := upd_no hLv
    have nLe : Lv ≠ e0 := fun z => by rw [z, upd_same] at hLv; cases hLv
    have s0 : Same H1 (upd (upd H1 e0 (.lst [])) Lv (.lst [.ref e0])) := fun b o e => by
      rw [upd_ne (ne_of_none e hLv0), upd_ne (ne_of_none e he0)]
      exact e
    try dsimp only [gName, List.set]
    refine ⟨_, rfl, W, _, rfl, .inl (SqL.of (s0 _ _ hW)), _, rfl, by omega, by rw [List.length_map]; omega, ?_⟩
    rw [List.length_map, Int.toNat_natCast]
    refine for_range (fun i σ H' => ∃ (as : List Addr) (fs : Lvs) (v5 v6 : Option V), σ = [some (.int (m : Nat)), some (.int (n : Nat)), some (.str t), some (.ref W), some (.ref Lv), v5, v6, none, none] ∧ Same H1 H' ∧ H' Lv = some (.lst ((as.map V.ref).reverse)) ∧
      Lv ∉ as ∧ as.Nodup ∧ (∀ a ∈ as, H1 a = none) ∧ LevAt K H' as (zipN fs) ∧ OkF i fs ∧ tnF fs + fs.length = opN (ws.take i) + 1 ∧ runF ws 0 [[]] = runF (ws.drop i) i fs)
      ⟨[e0], [[]], none, none, rfl, s0, upd_same, by simpa using nLe, by simp, by simpa using he0, ⟨⟨[], (upd_ne (Ne.symm nLe)).trans upd_same, .nil, rfl⟩, trivial⟩, .start, rfl, by rw [List.drop_zero]⟩ ?_ ?_
    · rintro i σ H2 hi ⟨as, fs, v5, v6, rfl, sm2, hL2, nL, nd, fz, lv2, okf, tnf, run⟩
      try dsimp only [gName, List.set]
      have ei : (0 : Int) + (i : Nat) = ((i : Nat) : Int) := by omega
      rw [ei]
      have ewt : ws = Txt.split t sp1 := by
        rcases hws with ⟨_, e⟩ | e
        · rw [e] at hi; cases hi
        · exact e
      have gi : ws[i]? = some ws[i] := List.getElem?_eq_getElem hi
      rw [runF_step gi] at run
      have ton := opN_take ws i
      generalize ws[i] = x at gi run ⊢
      have otk := opN_snoc gi
      have bad : mayF fs x = false → ∀ H3 a, Same H2 H3 → H3 a = some (.tup [.str "BadText", .int (i : Nat)]) → Q (.ref a) H3 := fun hm H3 a s3 ha => by
        refine k H3 _ ((s01.trans sm2).trans s3) ?_
        rw [planDue_inl (i := i)]
        · exact tup ha
        · rw [← ewt]
          unfold readW
          rw [run, if_neg (by rw [hm]; decide)]
      have wn := okf.n
      cases as with
      | nil =>
        cases fs with
        | nil => exact absurd okf.n (by show ¬ 0 = i + 1; omega)
        | cons _ _ => exact lv2.elim
      | cons a as =>
        cases fs with
        | nil => exact lv2.elim
        | cons f fs =>
          obtain ⟨⟨xs, hA, hxs, nl⟩, lvs⟩ := id lv2
          have hW2 := sm2 _ _ hW
          rw [List.map_cons, List.reverse_cons] at hL2
          have naL : a ≠ Lv := fun z => nL (by rw [z]; exact List.mem_cons_self)
          have nas : a ∉ as := (List.nodup_cons.mp nd).1
          have nda : as.Nodup := (List.nodup_cons.mp nd).2
          have nLs : Lv ∉ as := fun z => nL (List.mem_cons_of_mem _ z)
          have lxs : xs.length = f.length := dpLen hxs
          have fa : H1 a = none := fz a List.mem_cons_self
          have fzs : ∀ b ∈ as, H1 b = none := fun b hb => fz b (List.mem_cons_of_mem _ hb)
          have wfl := wls_len f
          have wn2 : wls f + 1 + wlF fs = i + 1 := wn
          have tn2 : tns f + tnF fs + (fs.length + 1) = opN (ws.take i) + 1 := tnf
          have las : as.length = fs.length := by
            have := lvs.len
            rw [show (List.map (fun f => (f, ([] : List PyData))) fs).length = fs.length from List.length_map _] at this
            exact this
          have wls' := wlF_len fs
          have pf : plDs f := okf.ok f (by simp)
          have shf : SeqAt.shaped (.list f) = true := shaped_pl pf (by omega)
          have llen : ((as.map V.ref).reverse ++ [V.ref a]).length = fs.length + 1 := by
            rw [List.length_append, List.length_reverse, List.length_map, List.length_singleton, las]
          have gW : ∀ {HX : Hp}, Same H2 HX → SqL K HX W (ws.map V.str) := fun s => SqL.of (s _ _ hW2)
          have gx : (ws.map V.str)[i]? = some (V.str x) := by rw [List.getElem?_map, gi]; rfl
          have exs : xs.isEmpty = f.isEmpty := by
            cases xs with
            | nil => cases f with
              | nil => rfl
              | cons _ _ => cases lxs
            | cons b as => cases f with
              | nil => cases lxs
              | cons _ _ => rfl
          refine viaS22 (fun σ' H' => σ' = [some (.int (m : Nat)), some (.int (n : Nat)), some (.str t), some (.ref W), some (.ref Lv), some (.int (i : Nat)), v6, none, none] ∧ Same H2 H' ∧ (!f.isEmpty && fs.isEmpty) = false) (fun nx fin => ?_) ?_
          · refine ⟨_, rfl, Lv, _, rfl, .inl (SqL.of hL2), rfl, _, rfl, ?_⟩
            rw [llen]
            cases hfs : fs with
            | cons g fs' =>
              refine iteF' (decide_eq_false fun z => by have := V.int.inj z; rw [List.length_cons] at this; omega) (fin _ _ ⟨rfl, Same.refl _, by rw [hfs]; simp⟩)
            | nil =>
              have has : as = [] := List.eq_nil_of_length_eq_zero (by rw [las, hfs]; rfl)
              refine iteT' (by simp) ?_
              refine ⟨_, rfl, Lv, _, 0, .ref a, rfl, rfl, SqL.of hL2, by rw [has]; rfl, Nat.zero_le _, fun e1 ne1 => ?_⟩
              have s3 := sameNew (o := .lst []) (Same.refl H2) ne1
              have he1 : upd H2 e1 (.lst []) e1 = some (.lst []) := upd_same
              generalize upd H2 e1 (.lst []) = H3 at s3 he1 ⊢
              refine ⟨.list f, .list [], .lst (SqL.of (s3 _ _ hA)) (dpAll_same s3 _ hxs), .lst (SqL.of he1) .nil, shf, by decide +kernel, _, rfl, ?_⟩
              rw [eqv_nil22]
              by_cases cf : f.isEmpty = true
              · rw [cf]
                exact iteF (fin _ _ ⟨rfl, s3, by rw [cf]; rfl⟩)
              · have cf : f.isEmpty = false := by simpa using cf
                rw [cf]
                refine iteT ⟨_, rfl, by show 2 ≤ sizeLine; decide, fun b nb => bad ?_ _ b (sameNew s3 nb) upd_same⟩
                show mayB fs.isEmpty f.isEmpty x = false
                unfold mayB
                rw [cf, hfs]
                rfl
          rintro _ H3 ⟨rfl, s3, hc0⟩
          try dsimp only [gName, List.set]
          have mx : mayF (f :: fs) x = if x = clS then (!fs.isEmpty && !f.isEmpty) else decide (x = opS) || (numO x).isSome := by
            show mayB fs.isEmpty f.isEmpty x = _
            unfold mayB
            rw [hc0]
            rfl
          have hnx : ∀ y : Str, x ≠ y → decide (V.str x = V.str y) = false := fun y h => decide_eq_false fun z => h (V.str.inj z)
          have hL3 := s3 _ _ hL2
          have hA3 := s3 _ _ hA
          have lv3 := lv2.same s3
          have sm3 := sm2.trans s3
          refine ⟨_, rfl, _, rfl, W, _, i, .str x, rfl, rfl, gW s3, atI_nat gx, rfl, _, rfl, ?_⟩
          by_cases co : x = opS
          · have hm : mayF (f :: fs) x = true := by
              rw [mx, if_neg (by rw [co]; decide), decide_eq_true co, Bool.true_or]
            rw [if_pos hm] at run
            have okn := okf.step hm
            have tnn := tnF_step tnf hm
            rw [← otk] at tnn
            have es : stepF (f :: fs) x = [] :: f :: fs := if_pos co
            rw [es] at okn run tnn
            refine iteT' (decide_eq_true (by rw [co]; rfl)) ⟨_, rfl, .inl ⟨rfl, _, SqL.of hL3⟩, Nat.zero_le _, fun e he => ?_⟩
            have sE : Same H3 (upd H3 e (.lst [])) := sameNew (Same.refl H3) he
            have hLE := sE _ _ hL3
            have neL : Lv ≠ e := fun z => by rw [← z, hL3] at he; cases he
            have lvE := LevAt.same sE lv3
            have ne : e ∉ a :: as := fun z => by
              obtain ⟨_, q⟩ := LevAt.mem lv3 z
              rw [he] at q
              cases q
            refine ⟨Lv, _, _, rfl, rfl, hLE, small1000 (by rw [llen]; omega), ?_⟩
            refine ⟨e :: a :: as, [] :: f :: fs, _, _, rfl, fun c o q => ?_, ?_, ?_, List.nodup_cons.mpr ⟨ne, nd⟩, ?_, ⟨⟨[], (upd_ne (Ne.symm neL)).trans upd_same, .nil, rfl⟩, lvE.other hLE nL⟩, okn, tnn, run⟩
            · rw [upd_ne (ne_of_none q (upd_no hLv))]
              exact sE _ _ (sm3 _ _ q)
            · rw [upd_same, List.map_cons, List.reverse_cons, List.map_cons, List.reverse_cons]
            · intro z
              rcases List.mem_cons.mp z with z | z
              · exact neL z
              · exact nL z
            · intro c hc
              rcases List.mem_cons.mp hc with z | z
              · rw [z]
                exact sm3.free he
              · exact fz c z
          refine iteF' (hnx _ co) ?_
          refine ⟨_, rfl, _, rfl, W, _, i, .str x, rfl, rfl, gW s3, atI_nat gx, rfl, _, rfl, ?_⟩
          by_cases cc : x = clS
          · refine iteT' (decide_eq_true (by rw [cc]; rfl)) ?_
            have nn : numV x = .non := by rw [cc]; decide +kernel
            refine ⟨_, rfl, Lv, _, rfl, .inl (SqL.of hL3), _, _, rfl, rfl, _, rfl, ?_⟩
            rw [llen]
            cases fs with
            | nil =>
              have hm : mayF [f] x = false := by rw [mx, if_pos cc]; rfl
              refine iteF' (decide_eq_false (by show ¬ ((0 + 1 : Nat) : Int) > 1; omega)) (iteF ?_)
              refine ⟨_, rfl, _, rfl, W, _, i, .str x, rfl, rfl, gW s3, atI_nat gx, x, rfl, fun H4 s4 => ?_⟩
              rw [nn]
              refine ⟨rfl, _, rfl, ?_⟩
              exact iteF ⟨_, rfl, by show 2 ≤ sizeLine; decide, fun b nb => bad hm _ b (sameNew (s3.trans s4) nb) upd_same⟩
            | cons g fs =>
              cases as with
              | nil => exact lvs.elim
              | cons a2 as =>
                have lv3' := lv3
                obtain ⟨_, ⟨xs2, hA2, hxs2, nl2⟩, lvs2⟩ := lv3'
                refine iteT' (decide_eq_true (by rw [List.length_cons]; show ((fs.length + 1 + 1 : Nat) : Int) > 1; omega)) ?_
                refine ⟨_, rfl, _, rfl, Lv, _, _, _, rfl, rfl, SqL.of hL3, atI_last _ _, Nat.zero_le _, fun e1 ne1 => ?_⟩
                have s4 := sameNew (o := .lst []) (Same.refl H3) ne1
                have he1 : upd H3 e1 (.lst []) e1 = some (.lst []) := upd_same
                generalize upd H3 e1 (.lst []) = H4 at s4 he1 ⊢
                have s34 := s3.trans s4
                refine ⟨.list f, .list [], .lst (SqL.of (s34 _ _ hA)) (dpAll_same s34 _ hxs), .lst (SqL.of he1) .nil, shf, by decide +kernel, _, rfl, ?_⟩
                rw [eqv_nil22]
                have hL4 := s4 _ _ hL3
                have hA4 := s4 _ _ hA3
                by_cases cf : f.isEmpty = true
                · have hm : mayF (f :: g :: fs) x = false := by rw [mx, if_pos cc, cf]; rfl
                  rw [cf]
                  refine iteF ?_
                  refine ⟨_, rfl, _, rfl, W, _, i, .str x, rfl, rfl, gW s34, atI_nat gx, x, rfl, fun H5 s5 => ?_⟩
                  rw [nn]
                  refine ⟨rfl, _, rfl, ?_⟩
                  exact iteF ⟨_, rfl, by show 2 ≤ sizeLine; decide, fun b nb => bad hm _ b (sameNew (s34.trans s5) nb) upd_same⟩
                · have cf : f.isEmpty = false := by simpa using cf
                  have hm : mayF (f :: g :: fs) x = true := by rw [mx, if_pos cc, cf]; rfl
                  rw [cf]
                  refine iteT ?_
                  rw [if_pos hm] at run
                  have okn := okf.step hm
                  have tnn := tnF_step tnf hm
                  rw [← otk] at tnn
                  have es : stepF (f :: g :: fs) x = (g ++ [.tuple f]) :: fs := by
                    unfold stepF
                    rw [if_neg co, if_pos cc]
                    rfl
                  rw [es] at okn run tnn
                  have na2 : a2 ∉ as := (List.nodup_cons.mp nda).1
                  have na2L : a2 ≠ Lv := fun z => nLs (by rw [z]; exact List.mem_cons_self)
                  have naa2 : a ≠ a2 := fun z => nas (by rw [z]; exact List.mem_cons_self)
                  have fa2 : H1 a2 = none := fzs a2 List.mem_cons_self
                  have nlf : noLs f = true := nl
                  refine ⟨_, rfl, .inl ⟨rfl, _, SqL.of hL4⟩, Lv, _, .ref a, rfl, rfl, hL4, by simp, ?_⟩
                  rw [List.dropLast_concat, List.map_cons, List.reverse_cons]
                  have hA24 := s4 _ _ hA2
                  have hxs4 := dpAll_same s34 _ hxs
                  have hxs24 := dpAll_same s4 _ hxs2
                  have lvs4 := lvs2.same s4
                  have sm4 := sm3.trans s4
                  have hL5 : upd H4 Lv (.lst ((as.map V.ref).reverse ++ [.ref a2])) Lv = some (.lst ((as.map V.ref).reverse ++ [.ref a2])) := upd_same
                  have hA5 : upd H4 Lv (.lst ((as.map V.ref).reverse ++ [.ref a2])) a = some (.lst xs) := (upd_ne naL).trans hA4
                  have hA25 : upd H4 Lv (.lst ((as.map V.ref).reverse ++ [.ref a2])) a2 = some (.lst xs2) := (upd_ne na2L).trans hA24
                  have hxs5 := dpAll_upd (u := (as.map V.ref).reverse ++ [.ref a2]) hL4 _ nl hxs4
                  have hxs25 := dpAll_upd (u := (as.map V.ref).reverse ++ [.ref a2]) hL4 _ nl2 hxs24
                  have lvs5 := lvs4.other (u := (as.map V.ref).reverse ++ [.ref a2]) hL4 fun z => nLs (List.mem_cons_of_mem _ z)
                  have sm5 : Same H1 (upd H4 Lv (.lst ((as.map V.ref).reverse ++ [.ref a2]))) := fun b o e => by
                    rw [upd_ne (ne_of_none e (upd_no hLv))]
                    exact sm4 b o e
                  generalize upd H4 Lv (.lst ((as.map V.ref).reverse ++ [.ref a2])) = H5 at hL5 hA5 hA25 hxs5 hxs25 lvs5 sm5 ⊢
                  refine ⟨a, xs, rfl, .inl ⟨SqL.of hA5, fun tp htp => ?_⟩⟩
                  have s6 : Same H5 (upd H5 tp (.tup xs)) := sameNew (Same.refl H5) htp
                  try dsimp only [gName, List.set]
                  refine ⟨_, rfl, _, rfl, Lv, _, _, _, rfl, rfl, SqL.of (s6 _ _ hL5), atI_last _ _, .inl ⟨rfl, _, SqL.of (s6 _ _ hA25)⟩, _, rfl, ?_⟩
                  have hA26 := s6 _ _ hA25
                  have lx2 : xs2.length = g.length := dpLen hxs2
                  have wg := wls_len g
                  have wn3 : wls f + 1 + (wls g + 1 + wlF fs) = i + 1 := wn
                  refine ⟨a2, xs2, _, rfl, rfl, hA26, small1000 (by omega), ?_⟩
                  have nlb : noLs [PyData.tuple f] = true := by
                    simp [noLs, noL, nlf]
                  have nlg : noLs (g ++ [PyData.tuple f]) = true := noLs_app nl2 nlb
                  refine ⟨a2 :: as, (g ++ [.tuple f]) :: fs, _, _, rfl, fun c o e => ?_, ?_, nLs, nda, fzs, ⟨⟨_, upd_same, dpAll_upd hA26 _ nlg (dpApp (dpAll_same s6 _ hxs25) (.cons (.tup (SqT.of upd_same) (dpAll_same s6 _ hxs5)) .nil)), nlg⟩, (lvs5.same s6).other hA26 na2⟩, okn, tnn, run⟩
                  · rw [upd_ne (ne_of_none e fa2)]
                    exact s6 _ _ (sm5 _ _ e)
                  · rw [upd_ne (Ne.symm na2L), List.map_cons, List.reverse_cons]
                    exact s6 _ _ hL5
          · have mx : mayF (f :: fs) x = (numO x).isSome := by rw [mx, if_neg cc, decide_eq_false co, Bool.false_or]
            refine iteF' (hnx _ cc) (iteF ?_)
            refine ⟨_, rfl, _, rfl, W, _, i, .str x, rfl, rfl, gW s3, atI_nat gx, x, rfl, fun H4 s4 => ?_⟩
            have s34 := s3.trans s4
            cases hn : numO x with
            | none =>
              have hm : mayF (f :: fs) x = false := by rw [mx, hn]; rfl
              refine ⟨rfl, _, rfl, ?_⟩
              refine iteF' (by unfold numV; rw [hn]; simp) ⟨_, rfl, by show 2 ≤ sizeLine; decide, fun b nb => bad hm _ b (sameNew s34 nb) upd_same⟩
            | some k0 =>
              have hm : mayF (f :: fs) x = true := by rw [mx, hn]; rfl
              rw [if_pos hm] at run
              have okn := okf.step hm
              have tnn := tnF_step tnf hm
              rw [← otk] at tnn
              have es : stepF (f :: fs) x = (f ++ [.int (k0 : Nat)]) :: fs := by
                unfold stepF
                rw [if_neg co, if_neg cc, hn]
                rfl
              rw [es] at okn run tnn
              have env : numV x = .int (k0 : Nat) := by unfold numV; rw [hn]
              refine ⟨rfl, _, rfl, ?_⟩
              rw [env]
              have hL4 := s4 _ _ hL3
              have hA4 := s4 _ _ hA3
              refine iteT' (by simp) ⟨_, rfl, _, rfl, Lv, _, _, _, rfl, rfl, SqL.of hL4, atI_last _ _, .inl ⟨rfl, _, SqL.of hA4⟩, _, rfl, _, rfl, W, _, i, .str x, rfl, rfl, gW s34, atI_nat gx, x, rfl, fun H5 s5 => ?_⟩
              rw [env]
              have s35 := s4.trans s5
              have nl' : noLs (f ++ [PyData.int (k0 : Nat)]) = true := noLs_app nl rfl
              have hA5 := s5 _ _ hA4
              have lv5 := lv3.same s35
              obtain ⟨⟨xs5, hA5', hxs5, _⟩, lvs5⟩ := lv5
              have exx : xs5 = xs := by
                have := hA5.symm.trans hA5'
                injection this with this
                injection this with this
                exact this.symm
              subst exx
              refine ⟨a, xs5, _, rfl, rfl, hA5, small1000 (by omega), ?_⟩
              refine ⟨a :: as, (f ++ [PyData.int (k0 : Nat)]) :: fs, _, _, rfl, fun c o e => ?_, ?_, nL, nd, fz, ⟨⟨_, upd_same, dpAll_upd hA5 _ nl' (dpApp hxs5 (.cons (.int _) .nil)), nl'⟩, lvs5.other hA5 nas⟩, okn, tnn, run⟩
              · rw [upd_ne (ne_of_none e fa)]
                exact s35 _ _ (sm3 _ _ e)
              · rw [upd_ne (Ne.symm naL), List.map_cons, List.reverse_cons]
                exact s35 _ _ hL3
    · rintro σ H2 ⟨as, fs, v5, v6, rfl, sm2, hL2, nL, nd, fz, lv2, okf, tnf, run⟩
      try dsimp only [gName, List.set]
      rw [List.drop_length] at run
      have run : runF ws 0 [[]] = .inr fs := run
      have la := lv2.len
      rw [show (zipN fs).length = fs.length from List.length_map _] at la
      have hlen : ((as.map V.ref).reverse).length = fs.length := by rw [List.length_reverse, List.length_map, la]
      have hW2 := sm2 _ _ hW
      have smH := s01.trans sm2
      rw [List.take_length] at tnf
      have cases2 : (ws = Txt.split t sp1 ∧ ∃ d, fs = [[d]] ∧ plD d ∧ wl d = ws.length ∧ readW (Txt.split t sp1) = .inr d) ∨ ((2 ≤ fs.length ∨ fs = [[]]) ∧ readW (Txt.split t sp1) = .inl ws.length) := by
        rcases hws with ⟨e1, e2⟩ | e
        · refine .inr ⟨.inr ?_, ?_⟩
          · rw [e2] at run
            cases run
            rfl
          · rw [e1, e2, split_empty22]
            have hm : mayF [[]] Str.empty = false := by decide +kernel
            unfold readW
            show (match (if mayF [[]] Str.empty = true then runF [] 1 (stepF [[]] Str.empty) else Sum.inl 0) with
              | .inl i => Sum.inl i
              | .inr fs => endF 1 fs) = Sum.inl 0
            rw [if_neg (by rw [hm]; decide)]
        · have ne : ws ≠ [] := fun z => split_some t (e.symm.trans z)
          rcases okf.end_ (n := ws.length) (List.length_pos_iff.mpr ne) with ⟨d, h1, h2, h3, h4⟩ | ⟨h1, h2⟩
          · refine .inl ⟨e, d, h1, h2, h3, ?_⟩
            rw [← e]
            unfold readW
            rw [run]
            exact h4
          · refine .inr ⟨.inl h1, ?_⟩
            rw [← e]
            unfold readW
            rw [run]
            exact h2
      have gLv : ∀ HX : Hp, Same H2 HX → SqL K HX Lv ((as.map V.ref).reverse) := fun HX s => SqL.of (s _ _ hL2)
      rcases cases2 with ⟨ewt, d, rfl, pd, wd, er⟩ | ⟨h2, er⟩
      · match as, lv2, la, hL2, gLv with
        | [a], ⟨⟨xs, hA, hxs, nl⟩, _⟩, _, hL2, gLv =>
          cases hxs with
          | @cons v _ _ _ hv hn =>
            cases hn
            have tnd : tn d ≤ 63 := by
              have := readW_tn er
              rw [← ewt] at this
              omega
            have dd63 := Nat.le_trans (tn_depth pd) tnd
            have sz := (pl_size pd).1
            obtain ⟨any, _⟩ := pl_any pd
            have lfd := leafI_size d
            have shf : SeqAt.shaped (.list [d]) = true := shaped_pl ⟨pd, trivial⟩ (by show tn d + 0 ≤ 63; omega)
            refine ⟨_, rfl, Lv, _, rfl, .inl (gLv _ (Same.refl _)), _, _, rfl, rfl, _, rfl, ?_⟩
            refine iteF' (decide_eq_false (by show ¬ ((1 : Nat) : Int) > 1; omega)) ?_
            refine ⟨_, rfl, Lv, _, 0, .ref a, rfl, rfl, gLv _ (Same.refl _), rfl, Nat.zero_le _, fun e1 ne1 => ?_⟩
            have s3 := sameNew (o := .lst []) (Same.refl H2) ne1
            have he1 : upd H2 e1 (.lst []) e1 = some (.lst []) := upd_same
            generalize upd H2 e1 (.lst []) = H3 at s3 he1 ⊢
            refine ⟨.list [d], .list [], .lst (SqL.of (s3 _ _ hA)) (.cons (dp_same s3 _ hv) .nil), .lst (SqL.of he1) .nil, shf, by decide +kernel, _, rfl, ?_⟩
            rw [eqv_nil22]
            refine iteF ?_
            try dsimp only [gName, List.set]
            refine ⟨_, rfl, Lv, _, 0, .ref a, rfl, rfl, gLv _ s3, rfl, a, _, 0, v, rfl, rfl, SqL.of (s3 _ _ hA), rfl, ?_⟩
            try dsimp only [gName, List.set]
            have hv3 := dp_same s3 _ hv
            have sm3 := smH.trans s3
            refine viaA22 (fun x H' => x = .bl (fitP n d && decide ((leafI d).Perm (upto m))) ∧ Same H3 H') (fun Q' fin => ?_) ?_
            · refine ⟨_, rfl, v, d, rfl, hv3, any, by omega, dd63, fun HC ia sC nia hia => ?_⟩
              refine ⟨ia, leafI d, rfl, SqL.of hia, fun ns' pz pm srt npz => ?_⟩
              have s2 := sameNew (o := .lst (ns'.map V.int)) (Same.refl HC) npz
              have hpz : upd HC pz (.lst (ns'.map V.int)) pz = some (.lst (ns'.map V.int)) := upd_same
              generalize upd HC pz (.lst (ns'.map V.int)) = HD at s2 hpz ⊢
              refine ⟨_, rfl, _, rfl, .of_le (by decide) (by omega) (by decide) (by omega), fun r5 nr5 => ?_⟩
              have s5 := sameNew (o := .lst (rgV 0 (m : Nat))) (Same.refl HD) nr5
              have hr5 : upd HD r5 (.lst (rgV 0 (m : Nat))) r5 = some (.lst (rgV 0 (m : Nat))) := upd_same
              generalize upd HD r5 (.lst (rgV 0 (m : Nat))) = HE at s5 hr5 ⊢
              rw [rg_upto] at hr5
              have s3E := (sC.trans s2).trans s5
              refine ⟨.list (ns'.map .int), .list ((upto m).map .int), .lst (SqL.of (s5 _ _ hpz)) (dp_ints22 _), .lst (SqL.of hr5) (dp_ints22 _), shaped_intsD _, shaped_intsD _, ?_⟩
              have ee : PyData.eqv (.list (ns'.map .int)) (.list ((upto m).map .int)) = decide (ns' = upto m) := by
                rw [← eqv_intsD]
                simp only [PyData.eqv]
              rw [ee]
              by_cases cg : ns' = upto m
              · rw [decide_eq_true cg]
                have pm2 : (leafI d).Perm (upto m) := cg ▸ pm.symm
                refine ⟨true, rfl, iteT ⟨_, rfl, _, rfl, v, d, n, rfl, dp_same s3E _ hv3, any, by omega, by omega, fun HF sF => fin _ _ ⟨?_, s3E.trans sF⟩⟩⟩
                rw [decide_eq_true pm2, Bool.and_true]
              · rw [decide_eq_false cg]
                refine ⟨false, rfl, iteF (fin _ _ ⟨?_, s3E⟩)⟩
                rw [decide_eq_false fun z => cg (odd_perm_uniq (pm.trans z) srt (upto_sorted m)), Bool.and_false]
            rintro _ H4 ⟨rfl, s4⟩
            try dsimp only [gName, List.set]
            have ed : planDue m n t = if (fitP n d && decide ((leafI d).Perm (upto m))) = true then d else .tuple [.str "BadPlan", .int 0] := by
              unfold planDue
              rw [er]
            rw [ed] at k
            cases hg : (fitP n d && decide ((leafI d).Perm (upto m))) with
            | true =>
              rw [hg] at k
              exact ⟨_, rfl, true, rfl, iteT ⟨_, rfl, k _ _ (sm3.trans s4) (dp_same s4 _ hv3)⟩⟩
            | false =>
              rw [hg] at k
              exact ⟨_, rfl, false, rfl, iteF ⟨by show 2 ≤ sizeLine; decide, fun b nb => k _ _ (sameNew (sm3.trans s4) nb) (tup upd_same)⟩⟩
      · have out : ∀ H3 b, Same H2 H3 → H3 b = some (.tup [.str "BadText", .int (ws.length : Nat)]) → Q (.ref b) H3 := fun H3 b s3 hb => by
          refine k H3 _ (smH.trans s3) ?_
          rw [planDue_inl er]
          exact tup hb
        refine ⟨_, rfl, Lv, _, rfl, .inl (gLv _ (Same.refl _)), _, _, rfl, rfl, _, rfl, ?_⟩
        rw [hlen]
        by_cases c2 : 2 ≤ fs.length
        · refine iteT' (decide_eq_true (by omega)) ?_
          refine ⟨_, rfl, W, _, rfl, .inl (SqL.of hW2), by show 2 ≤ sizeLine; decide, fun b nb => ?_⟩
          rw [List.length_map]
          exact out _ b (sameNew (Same.refl H2) nb) upd_same
        · have e1 : fs = [[]] := by
            rcases h2 with h | h
            · exact absurd h c2
            · exact h
          subst e1
          match as, lv2, la, hL2, gLv with
          | [a], ⟨⟨xs, hA, hxs, nl⟩, _⟩, _, hL2, gLv =>
            cases hxs
            refine iteF' (decide_eq_false (by show ¬ ((1 : Nat) : Int) > 1; omega)) ?_
            refine ⟨_, rfl, Lv, _, 0, .ref a, rfl, rfl, gLv _ (Same.refl _), rfl, Nat.zero_le _, fun e1 ne1 => ?_⟩
            have s3 := sameNew (o := .lst []) (Same.refl H2) ne1
            have he1 : upd H2 e1 (.lst []) e1 = some (.lst []) := upd_same
            generalize upd H2 e1 (.lst []) = H3 at s3 he1 ⊢
            refine ⟨.list [], .list [], .lst (SqL.of (s3 _ _ hA)) .nil, .lst (SqL.of he1) .nil, by decide +kernel, by decide +kernel, _, rfl, ?_⟩
            rw [eqv_nil22]
            refine iteT ?_
            refine ⟨_, rfl, W, _, rfl, .inl (SqL.of (s3 _ _ hW2)), by show 2 ≤ sizeLine; decide, fun b nb => ?_⟩
            rw [List.length_map]
            exact out _ b (sameNew s3 nb) upd_same
end
end RS
set_option Elab.async false
set_option maxRecDepth 100000
set_option maxHeartbeats 8000000
set_option pp.maxSteps 400
namespace RS
open PySem PySem.Spec PyProof.Rows L2 GX LM
/-! ### how long texts are, and how many signs "(" are in them -/
def w40 (t : Str) : Nat := (TL.tl t).count 40
theorem w40_app (a b : Str) : w40 (a ++ b) = w40 a + w40 b := by
  unfold w40
  rw [TL.tl_append, List.count_append]
theorem len22 (x y : Str) : (x ++ y).length = x.length + y.length := by
  rw [TL.len_tl, TL.len_tl, TL.len_tl, TL.tl_append, List.length_append]
theorem cnt_joinL : ∀ ps : List (List Nat), (TL.joinL [32] ps).count 40 = (ps.map (·.count 40)).sum
  | [] => rfl
  | [p] => by simp [TL.joinL]
  | p :: q :: r => by
    have ih := cnt_joinL (q :: r)
    show (p ++ ([32] ++ TL.joinL [32] (q :: r))).count 40 = _
    rw [List.count_append, List.count_append, ih]
    simp only [List.map_cons, List.sum_cons]
    have : List.count 40 [32] = 0 := by decide
    omega
theorem w40_join (ws : List Str) : w40 (Txt.join sp1 ws) = (ws.map w40).sum := by
  unfold w40
  rw [TL.join_eq, TL.tl_join, tl_sp, cnt_joinL, List.map_map]
  rfl
theorem w40_split (t : Str) : ((Txt.split t sp1).map w40).sum = w40 t := by
  rw [← w40_join, TL.join_eq, StrLaws.join_split]
theorem opN_w40 : ∀ ws : List Str, opN ws ≤ (ws.map w40).sum
  | [] => Nat.le_refl _
  | x :: ws => by
    have ih := opN_w40 ws
    unfold opN at ih ⊢
    rw [List.map_cons, List.sum_cons, List.filter_cons]
    by_cases h : x = opS
    · rw [if_pos (decide_eq_true h), List.length_cons]
      have : w40 x = 1 := by rw [h]; decide +kernel
      omega
    · rw [if_neg (by simpa using h)]
      omega
theorem opN_split (t : Str) : opN (Txt.split t sp1) ≤ w40 t := by
  have := opN_w40 (Txt.split t sp1)
  rwa [w40_split] at this
theorem len_join22 (ws : List Str) : (Txt.join sp1 ws).length ≤ (ws.map fun x => x.length + 1).sum := by
  rw [TL.len_tl, TL.join_eq, TL.tl_join, tl_sp]
  have h := joinL_len [32] (ws.map TL.tl)
  rw [List.length_map, List.map_map] at h
  have e : ∀ vs : List Str, (vs.map fun x => x.length + 1).sum = (vs.map (List.length ∘ TL.tl)).sum + vs.length := by
    intro vs
    induction vs with
    | nil => rfl
    | cons x vs ih =>
      simp only [List.map_cons, List.sum_cons, List.length_cons, Function.comp] at ih ⊢
      rw [ih, TL.len_tl x]
      omega
  rw [e]
  simpa using h
theorem sum_cut (f : Str → Nat) {ws : List Str} {k : Nat} {x : Str} (h : ws[k]? = some x) : ((ws.take k).map f).sum + f x + ((ws.drop (k + 1)).map f).sum = (ws.map f).sum := by
  obtain ⟨hk, e⟩ := List.getElem?_eq_some_iff.mp h
  have e2 : ws.map f = (ws.take k).map f ++ (f x :: (ws.drop (k + 1)).map f) := by
    rw [← List.map_cons, ← e, ← List.drop_eq_getElem_cons hk, ← List.map_append, List.take_append_drop]
  rw [e2, List.sum_append, List.sum_cons]
  omega
theorem split_len22 (t : Str) : ((Txt.split t sp1).map fun x => x.length + 1).sum ≤ t.length + 1 := by
  have h := split_weight t sp1 (by decide)
  have e : ∀ vs : List Str, (vs.map fun x => x.length + 1).sum = (vs.map (·.length)).sum + vs.length := by
    intro vs
    induction vs with
    | nil => rfl
    | cons x vs ih =>
      simp only [List.map_cons, List.sum_cons, List.length_cons] at ih ⊢
      omega
  rw [e]
  exact h
/-- a text of at most so many signs, so many of them "(" -/
structure SpT (L N : Nat) (t : Str) : Prop where
  l : t.length ≤ L
  n : w40 t ≤ N
theorem SpT.le {L N L' N' : Nat} {t : Str} (h : SpT L N t) (hl : L ≤ L') (hn : N ≤ N') : SpT L' N' t := ⟨Nat.le_trans h.l hl, Nat.le_trans h.n hn⟩
theorem spoilt_words {t x : Str} {k L N : Nat} {ys : List Str} (o : SpT L N t) (hx : (Txt.split t sp1)[k]? = some x) (hy : ys = [] ∨ ys = [x, x] ∨ ∃ w, ys = [w] ∧ w.length ≤ 5 ∧ w40 w ≤ 1) : SpT (2 * L + 20) (2 * N + 1) (Txt.join sp1 ((Txt.split t sp1).take k ++ ys ++ (Txt.split t sp1).drop (k + 1))) := by
  have a1 := sum_cut (fun x => x.length + 1) hx
  have a2 := sum_cut w40 hx
  have b1 := split_len22 t
  have b2 := w40_split t
  have c1 := o.l
  have c2 := o.n
  refine ⟨Nat.le_trans (len_join22 _) ?_, ?_⟩
  · rw [List.map_append, List.map_append, List.sum_append, List.sum_append]
    rcases hy with rfl | rfl | ⟨w, rfl, h1, h2⟩
    · simp only [List.map_nil, List.sum_nil]
      omega
    · simp only [List.map_cons, List.map_nil, List.sum_cons, List.sum_nil]
      omega
    · simp only [List.map_cons, List.map_nil, List.sum_cons, List.sum_nil]
      omega
  · rw [w40_join, List.map_append, List.map_append, List.sum_append, List.sum_append]
    rcases hy with rfl | rfl | ⟨w, rfl, h1, h2⟩
    · simp only [List.map_nil, List.sum_nil]
      omega
    · simp only [List.map_cons, List.map_nil, List.sum_cons, List.sum_nil]
      omega
    · simp only [List.map_cons, List.map_nil, List.sum_cons, List.sum_nil]
      omega
theorem cut22 {t : Str} {L N : Nat} (o : SpT L N t) (lo hi : Option Int) : SpT L N (cutS t lo hi) := by
  refine ⟨Nat.le_trans (cutS_length t lo hi) o.l, Nat.le_trans ?_ o.n⟩
  unfold w40 cutS
  rw [TL.tl_mk]
  exact ((List.take_sublist _ _).trans (List.drop_sublist _ _)).count_le 40
theorem spoilt_sign {a b c : Str} {L N : Nat} (ha : SpT L N a) (hb : SpT L N b) (hc : SpT 1 1 c) : SpT (2 * L + 20) (2 * N + 1) (a ++ c ++ b) := by
  refine ⟨?_, ?_⟩
  · rw [len22, len22]
    have := ha.l
    have := hb.l
    have := hc.l
    omega
  · rw [w40_app, w40_app]
    have := ha.n
    have := hb.n
    have := hc.n
    omega
theorem one22 (c : Nat) : SpT 1 1 (⟨#[c]⟩ : Str) := by
  refine ⟨Nat.le_refl _, ?_⟩
  show List.count 40 [c] ≤ 1
  exact List.count_le_length
theorem cutV_to22 {xs : List V} {k : Nat} : cutV xs none (some (k : Nat)) = xs.take k := by
  unfold cutV
  rw [HT.sIx_nat, HT.sIx_none, List.drop_zero, Nat.sub_zero]
  by_cases h : k ≤ xs.length
  · rw [Nat.min_eq_left h]
  · rw [Nat.min_eq_right (by omega), List.take_of_length_le (Nat.le_refl _), List.take_of_length_le (by omega)]
theorem cutV_from22 {xs : List V} {k : Nat} : cutV xs (some (k : Nat)) none = xs.drop k := by
  unfold cutV
  rw [HT.sIx_nat, HT.sIx_none]
  by_cases h : k ≤ xs.length
  · rw [Nat.min_eq_left h, List.take_of_length_le (by rw [List.length_drop]; exact Nat.le_refl _)]
  · rw [Nat.min_eq_right (by omega), List.drop_of_length_le (Nat.le_refl _), List.drop_of_length_le (by omega)]
    simp
theorem al22 {B L e : Addr} {H H1 : Hp} {o : HO} (s : SameX B L H H1) (hb : BoxAt H B L) (b : BoxAt H1 B L) (he : H1 e = none) : SameX B L H (upd H1 e o) ∧ BoxAt (upd H1 e o) B L ∧ e ≠ B ∧ e ≠ L := by
  obtain ⟨n1, n2⟩ := b.nb he
  exact ⟨s.new (s.free hb he b), b.upd_ n1 n2, n1, n2⟩
def oddW : List Str := ["", "(", ")", "0", "1", "00", "07", "99", "100", "-1", "up", "down", "up,", "down,", "Up", "( )", "5"]
theorem oddW_ok : ∀ x ∈ oddW, x.length ≤ 5 ∧ w40 x ≤ 1 := by decide +kernel
section
variable {P : Program} {w : World} {K : PySem.W.Frag} {mg : Str → Option Value} {base : Heap}
abbrev NSp : List Str := ["_law_box", "_law_text", "_law_deed", "_law_words", "_law_k", "_law_odd", "_law_some", "_law_place", "_law_signs", "_law_sign"]
theorem scSp22 : FnScope NSp ["_law_box", "_law_text"] (defScope s__law_spoilt) := ⟨rfl, rfl, rfl, by decide +kernel, rfl, by decide +kernel, by decide +kernel⟩
def spSpoilt : Sp := fun vs H Q _ => ∃ (B L : Addr) (t : Str) (l n : Nat), vs = [.ref B, .str t] ∧ BoxAt H B L ∧ SpT l n t ∧ l ≤ 720 ∧ ∀ (H' : Hp) (t' : Str), SameX B L H H' → BoxAt H' B L → SpT (2 * l + 20) (2 * n + 1) t' → Q (.str t') H'
theorem spoilt_ok {c : Addr} (D : DefAt K mg "_law_spoilt" s__law_spoilt c) (T : Txt K mg) (cT : Cal P w K mg base CX0 1 "_law_take" ["_law_box", "_law_many"] spTake) : Cal P w K mg base CX0 2 "_law_spoilt" ["_law_box", "_law_text"] spSpoilt := by
  have sc := scSp22
  refine def_ok0 D sc (fun vs H Q E h => ?_) (fun _ _ _ _ _ _ us hl => match us, hl with | [_, _], _ => rfl) (fun f A outer s H vs Q E hr h => ?_)
  · obtain ⟨B, L, t, l, n, rfl, _⟩ := h
    rfl
  · obtain ⟨B, L, t, l, n, rfl, hb, o, l7, k⟩ := h
    have big : (10000 : Nat) ≤ sizeLine := by decide
    refine ⟨_, (pss_cons (ps_set (i := 2) sc.nd rfl (Or.inl rfl) (pe_c cT hr (by decide) (by rfl) pass0 (pa_cons (pv 0) (pa_cons pe_int pa_nil)))) (pss_cons (ps_set (i := 3) sc.nd rfl (Or.inl rfl) (pe_bm PySem.F.plainAttrs_str PySem.F.slot_str_split PySem.F.type_str_split mt_split (pv 1) (pa_cons pe_str pa_nil))) (pss_cons (ps_set (i := 4) sc.nd rfl (Or.inl rfl) (pe_c cT hr (by decide) (by rfl) pass0 (pa_cons (pv 0) (pa_cons (pe_callB call_len_seq (by rfl) T.len PySem.boot_len (pa_cons (pv 3) pa_nil)) pa_nil)))) (pss_cons (ps_set (i := 5) sc.nd rfl (Or.inl rfl) (pe_lst (pa_cons pe_str (pa_cons pe_str (pa_cons pe_str (pa_cons pe_str (pa_cons pe_str (pa_cons pe_str (pa_cons pe_str (pa_cons pe_str (pa_cons pe_str (pa_cons pe_str (pa_cons pe_str (pa_cons pe_str (pa_cons pe_str (pa_cons pe_str (pa_cons pe_str (pa_cons pe_str (pa_cons pe_str pa_nil))))))))))))))))))) (pss_cons (ps_if (pt_cmpR op_lt (pv 2) pe_int (nomark _)) (pss_cons (ps_set (i := 6) sc.nd rfl (Or.inl rfl) (pe_lst (pa_cons (pe_lst pa_nil) (pa_cons (pe_lst (pa_cons (pe_ix ix_list (pv 3) (pv 4) (fun _ _ => rfl)) (pa_cons (pe_ix ix_list (pv 3) (pv 4) (fun _ _ => rfl)) pa_nil))) (pa_cons (pe_lst (pa_cons (pe_ix ix_list (pv 5) (pe_c cT hr (by decide) (by rfl) pass0 (pa_cons (pv 0) (pa_cons pe_int pa_nil))) (fun _ _ => rfl)) pa_nil)) pa_nil))))) (pss_one (ps_ret (pe_bm PySem.F.plainAttrs_str PySem.F.slot_str_join PySem.F.type_str_join mt_join pe_str (pa_cons (pe_op op_cat (pe_op op_cat (pe_slice sl_list (pv 3) po_none (po_some (pv 4))) (pe_ix ix_list (pv 6) (pv 2) (fun _ _ => rfl))) (pe_slice sl_list (pv 3) (po_some (pe_op op_add (pv 4) pe_int)) po_none)) pa_nil))))) pss_nil) (pss_cons (ps_set (i := 7) sc.nd rfl (Or.inl rfl) (pe_c cT hr (by decide) (by rfl) pass0 (pa_cons (pv 0) (pa_cons (pe_op op_add (pe_callB call_len_str (by rfl) T.len PySem.boot_len (pa_cons (pv 1) pa_nil)) pe_int) pa_nil)))) (pss_cons (ps_set (i := 8) sc.nd rfl (Or.inl rfl) pe_str) (pss_cons (ps_set (i := 9) sc.nd rfl (Or.inl rfl) (pe_ix ix_list (pe_lst (pa_cons (pe_ix ix_str (pv 8) (pe_c cT hr (by decide) (by rfl) pass0 (pa_cons (pv 0) (pa_cons (pe_callB call_len_str (by rfl) T.len PySem.boot_len (pa_cons (pv 8) pa_nil)) pa_nil))) (fun _ _ => rfl)) (pa_cons pe_str (pa_cons (pe_ix ix_str (pv 8) (pe_c cT hr (by decide) (by rfl) pass0 (pa_cons (pv 0) (pa_cons pe_int pa_nil))) (fun _ _ => rfl)) pa_nil)))) (pe_op op_sub (pv 2) pe_int) (fun _ _ => rfl))) (pss_one (ps_ret (pe_op op_add_str (pe_op op_add_str (pe_slice sl_str (pv 1) po_none (po_some (pv 7))) (pv 9)) (pe_slice sl_str (pv 1) (po_some (pe_op op_add (pv 7) (pe_callTy call_int1 (by rfl) T.int_ (by decide +kernel) (pa_cons (pe_cmpR op_gt (pv 2) pe_int (nomark _)) pa_nil)))) po_none)))))))))))), ?_⟩
    refine ⟨_, rfl, B, L, _, rfl, hb, by decide, by decide, fun H1 dx s1 b1 d0 d1 => ?_⟩
    obtain ⟨d, rfl⟩ : ∃ q : Nat, dx = (q : Nat) := ⟨dx.toNat, by omega⟩
    have tl := o.l
    refine ⟨_, rfl, rfl, _, _, rfl, rfl, by decide +kernel, by omega, fun W nW => ?_⟩
    rw [show (Txt.split t (Str.ofString " ")) = Txt.split t sp1 from rfl]
    obtain ⟨s2, b2, nWB, nWL⟩ := al22 (o := .lst ((Txt.split t sp1).map V.str)) s1 hb b1 nW
    have hW : upd H1 W (.lst ((Txt.split t sp1).map V.str)) W = some (.lst ((Txt.split t sp1).map V.str)) := upd_same
    generalize upd H1 W (.lst ((Txt.split t sp1).map V.str)) = H2 at s2 b2 hW ⊢
    have ne := List.length_pos_iff.mpr (split_some t)
    have w8 := (words_fit (Nat.le_trans tl l7)).1
    refine ⟨_, rfl, _, rfl, W, _, rfl, .inl (SqL.of hW), B, L, _, rfl, b2, by rw [List.length_map]; omega, by rw [List.length_map]; omega, fun H3 kx x3 b3 k0 k1 => ?_⟩
    rw [List.length_map] at k1
    obtain ⟨kn, rfl⟩ : ∃ q : Nat, kx = (q : Nat) := ⟨kx.toNat, by omega⟩
    have s3 := s2.trans x3
    have hW3 := x3 _ _ nWB nWL hW
    obtain ⟨x, ex⟩ : ∃ x, (Txt.split t sp1)[kn]? = some x := ⟨_, List.getElem?_eq_getElem (by omega)⟩
    have gx : ((Txt.split t sp1).map V.str)[kn]? = some (V.str x) := by rw [List.getElem?_map, ex]; rfl
    refine ⟨by show 17 ≤ sizeLine; decide, fun O nO => ?_⟩
    obtain ⟨s4, b4, nOB, nOL⟩ := al22 (o := .lst (oddW.map V.str)) s3 hb b3 nO
    have hO : upd H3 O (.lst (oddW.map V.str)) O = some (.lst (oddW.map V.str)) := upd_same
    have x4 : Same H3 (upd H3 O (.lst (oddW.map V.str))) := sameNew (Same.refl H3) nO
    rw [show (HO.lst [.str (Str.ofString ""), .str (Str.ofString "("), .str (Str.ofString ")"), .str (Str.ofString "0"), .str (Str.ofString "1"), .str (Str.ofString "00"), .str (Str.ofString "07"), .str (Str.ofString "99"), .str (Str.ofString "100"), .str (Str.ofString "-1"), .str (Str.ofString "up"), .str (Str.ofString "down"), .str (Str.ofString "up,"), .str (Str.ofString "down,"), .str (Str.ofString "Up"), .str (Str.ofString "( )"), .str (Str.ofString "5")]) = HO.lst (oddW.map V.str) from rfl]
    generalize upd H3 O (.lst (oddW.map V.str)) = H4 at s4 b4 hO x4 ⊢
    have hW4 := x4 _ _ hW3
    try dsimp only [gName, List.set, start]
    refine ⟨_, rfl, _, _, rfl, rfl, _, rfl, ?_⟩
    by_cases d3 : d < 3
    · refine iteT' (decide_eq_true (by omega)) ?_
      refine ⟨Nat.zero_le _, fun e0 ne0 => ?_⟩
      have x5 := sameNew (o := .lst []) (Same.refl H4) ne0
      have h0 : upd H4 e0 (.lst []) e0 = some (.lst []) := upd_same
      generalize upd H4 e0 (.lst []) = H5 at x5 h0 ⊢
      have s5 := s4.trans (SameX.of x5)
      have b5 := b4.same x5
      obtain ⟨n0B, n0L⟩ := b4.nb ne0
      have hW5 := x5 _ _ hW4
      refine ⟨_, rfl, _, rfl, W, _, kn, .str x, rfl, rfl, SqL.of hW5, atI_nat gx, ?_⟩
      refine ⟨_, rfl, _, rfl, W, _, kn, .str x, rfl, rfl, SqL.of hW5, atI_nat gx, by show 2 ≤ sizeLine; decide, fun e1 ne1 => ?_⟩
      have x6 := sameNew (o := .lst [.str x, .str x]) (Same.refl H5) ne1
      have h1 : upd H5 e1 (.lst [.str x, .str x]) e1 = some (.lst [.str x, .str x]) := upd_same
      generalize upd H5 e1 (.lst [.str x, .str x]) = H6 at x6 h1 ⊢
      have s6 := s5.trans (SameX.of x6)
      have b6 := b5.same x6
      obtain ⟨n1B, n1L⟩ := b5.nb ne1
      refine ⟨_, rfl, _, rfl, B, L, 17, rfl, b6, by decide, by decide, fun H7 ox x7 b7 o0 o1 => ?_⟩
      obtain ⟨on, rfl⟩ : ∃ q : Nat, ox = (q : Nat) := ⟨ox.toNat, by omega⟩
      have lo17 : oddW.length = 17 := rfl
      obtain ⟨ow, eow⟩ : ∃ ow, oddW[on]? = some ow := ⟨_, List.getElem?_eq_getElem (by omega)⟩
      have okw := oddW_ok ow (List.mem_of_getElem? eow)
      have s7 := s6.trans x7
      have hO7 := x7 _ _ nOB nOL (x6 _ _ (x5 _ _ hO))
      refine ⟨O, _, on, .str ow, rfl, rfl, SqL.of hO7, atI_nat (by rw [List.getElem?_map, eow]; rfl), by show 1 ≤ sizeLine; decide, fun e2 ne2 => ?_⟩
      have x8 := sameNew (o := .lst [.str ow]) (Same.refl H7) ne2
      have h2 : upd H7 e2 (.lst [.str ow]) e2 = some (.lst [.str ow]) := upd_same
      generalize upd H7 e2 (.lst [.str ow]) = H8 at x8 h2 ⊢
      have s8 := s7.trans (SameX.of x8)
      have b8 := b7.same x8
      obtain ⟨n2B, n2L⟩ := b7.nb ne2
      refine ⟨by show 3 ≤ sizeLine; decide, fun S nS => ?_⟩
      have x9 := sameNew (o := .lst [.ref e0, .ref e1, .ref e2]) (Same.refl H8) nS
      have hS : upd H8 S (.lst [.ref e0, .ref e1, .ref e2]) S = some (.lst [.ref e0, .ref e1, .ref e2]) := upd_same
      generalize upd H8 S (.lst [.ref e0, .ref e1, .ref e2]) = H9 at x9 hS ⊢
      have s9 := s8.trans (SameX.of x9)
      have b9 := b8.same x9
      obtain ⟨nSB, nSL⟩ := b8.nb nS
      have h09 := x9 _ _ (x8 _ _ (x7 _ _ n0B n0L (x6 _ _ h0)))
      have h19 := x9 _ _ (x8 _ _ (x7 _ _ n1B n1L h1))
      have h29 := x9 _ _ h2
      have hW9 := x9 _ _ (x8 _ _ (x7 _ _ nWB nWL (x6 _ _ hW5)))
      obtain ⟨e, ys, ee, he, hy⟩ : ∃ (e : Addr) (ys : List Str), [V.ref e0, .ref e1, .ref e2][d]? = some (.ref e) ∧ H9 e = some (.lst (ys.map V.str)) ∧ (ys = [] ∨ ys = [x, x] ∨ ∃ w, ys = [w] ∧ w.length ≤ 5 ∧ w40 w ≤ 1) := by
        match d, d3 with
        | 0, _ => exact ⟨e0, [], rfl, h09, .inl rfl⟩
        | 1, _ => exact ⟨e1, [x, x], rfl, h19, .inr (.inl rfl)⟩
        | 2, _ => exact ⟨e2, [ow], rfl, h29, .inr (.inr ⟨ow, rfl, okw⟩)⟩
      have ly : ys.length ≤ 2 := by
        rcases hy with rfl | rfl | ⟨_, rfl, _⟩ <;> simp
      have fin := spoilt_words o ex hy
      try dsimp only [gName, List.set]
      refine ⟨rfl, _, rfl, _, rfl, _, rfl, W, _, rfl, SqL.of hW9, fun p1 np1 => ?_⟩
      rw [cutV_to22, ← List.map_take]
      have x10 := sameNew (o := .lst (((Txt.split t sp1).take kn).map V.str)) (Same.refl H9) np1
      have hp1 : upd H9 p1 (.lst (((Txt.split t sp1).take kn).map V.str)) p1 = some (.lst (((Txt.split t sp1).take kn).map V.str)) := upd_same
      generalize upd H9 p1 (.lst (((Txt.split t sp1).take kn).map V.str)) = HA at x10 hp1 ⊢
      have s10 := s9.trans (SameX.of x10)
      have b10 := b9.same x10
      obtain ⟨n10B, n10L⟩ := b9.nb np1
      have heA := x10 _ _ he
      refine ⟨_, rfl, _, rfl, S, _, d, .ref e, rfl, rfl, SqL.of (x10 _ _ hS), atI_nat ee, ?_⟩
      refine ⟨p1, e, _, _, rfl, rfl, hp1, heA, by rw [List.length_map, List.length_map, List.length_take]; omega, fun p2 np2 => ?_⟩
      rw [← List.map_append]
      have x11 := sameNew (o := .lst (((Txt.split t sp1).take kn ++ ys).map V.str)) (Same.refl HA) np2
      have hp2 : upd HA p2 (.lst (((Txt.split t sp1).take kn ++ ys).map V.str)) p2 = some (.lst (((Txt.split t sp1).take kn ++ ys).map V.str)) := upd_same
      generalize upd HA p2 (.lst (((Txt.split t sp1).take kn ++ ys).map V.str)) = HB at x11 hp2 ⊢
      have s11 := s10.trans (SameX.of x11)
      have b11 := b10.same x11
      obtain ⟨n11B, n11L⟩ := b10.nb np2
      have hWB := x11 _ _ (x10 _ _ hW9)
      refine ⟨_, rfl, _, rfl, _, _, rfl, rfl, _, rfl, W, _, rfl, SqL.of hWB, fun p3 np3 => ?_⟩
      have ek : ((kn : Nat) : Int) + 1 = ((kn + 1 : Nat) : Int) := by omega
      rw [ek, cutV_from22, ← List.map_drop]
      have x12 := sameNew (o := .lst (((Txt.split t sp1).drop (kn + 1)).map V.str)) (Same.refl HB) np3
      have hp3 : upd HB p3 (.lst (((Txt.split t sp1).drop (kn + 1)).map V.str)) p3 = some (.lst (((Txt.split t sp1).drop (kn + 1)).map V.str)) := upd_same
      generalize upd HB p3 (.lst (((Txt.split t sp1).drop (kn + 1)).map V.str)) = HC at x12 hp3 ⊢
      have s12 := s11.trans (SameX.of x12)
      have b12 := b11.same x12
      obtain ⟨n12B, n12L⟩ := b11.nb np3
      refine ⟨p2, p3, _, _, rfl, rfl, x12 _ _ hp2, hp3, by rw [List.length_map, List.length_map, List.length_drop, List.length_append, List.length_take]; omega, fun p4 np4 => ?_⟩
      rw [← List.map_append]
      have x13 := sameNew (o := .lst (((Txt.split t sp1).take kn ++ ys ++ (Txt.split t sp1).drop (kn + 1)).map V.str)) (Same.refl HC) np4
      have hp4 : upd HC p4 (.lst (((Txt.split t sp1).take kn ++ ys ++ (Txt.split t sp1).drop (kn + 1)).map V.str)) p4 = some (.lst (((Txt.split t sp1).take kn ++ ys ++ (Txt.split t sp1).drop (kn + 1)).map V.str)) := upd_same
      generalize upd HC p4 (.lst (((Txt.split t sp1).take kn ++ ys ++ (Txt.split t sp1).drop (kn + 1)).map V.str)) = HD at x13 hp4 ⊢
      have s13 := s12.trans (SameX.of x13)
      have b13 := b12.same x13
      obtain ⟨n13B, n13L⟩ := b12.nb np4
      have fl := fin.l
      refine ⟨_, p4, _, rfl, rfl, .inl (SqL.of hp4), ?_, k _ _ s13 b13 fin⟩
      have f2 : ((Txt.split t sp1).take kn ++ ys ++ (Txt.split t sp1).drop (kn + 1)).length ≤ 1000 := by
        rw [List.length_append, List.length_append, List.length_take, List.length_drop]
        omega
      have f3 : (((Txt.split t sp1).take kn ++ ys ++ (Txt.split t sp1).drop (kn + 1)).map (·.length)).sum ≤ 4000 := by
        have a1 := sum_cut (·.length) ex
        have a2 := split_weight t sp1 (by decide)
        rw [List.map_append, List.map_append, List.sum_append, List.sum_append]
        have a3 : (ys.map (·.length)).sum ≤ 2 * x.length + 5 := by
          rcases hy with rfl | rfl | ⟨w, rfl, h1, h2⟩
          · simp
          · simp only [List.map_cons, List.map_nil, List.sum_cons, List.sum_nil]; omega
          · simp only [List.map_cons, List.map_nil, List.sum_cons, List.sum_nil]; omega
        omega
      have f4 : (Str.ofString " ").length = 1 := by decide +kernel
      rw [f4]
      omega
    · refine iteF' (decide_eq_false (by omega)) ?_
      try dsimp only [gName, List.set]
      refine ⟨_, rfl, _, rfl, t, rfl, by omega, _, _, rfl, rfl, B, L, _, rfl, b4, by omega, by omega, fun H5 pl x5 b5 p0 p1 => ?_⟩
      have s5 := s4.trans x5
      obtain ⟨pn, rfl⟩ : ∃ q : Nat, pl = (q : Nat) := ⟨pl.toNat, by omega⟩
      try dsimp only [gName, List.set]
      have lsg : 13 ≤ (Str.ofString "0123456789 (),abcdefghijklmnopqrstuvwxyz!#$&'*+-./:;<=>?@ABCDEFGHIJKLMNOPQRSTUVWXYZ[]^_`{|}~").length ∧ (Str.ofString "0123456789 (),abcdefghijklmnopqrstuvwxyz!#$&'*+-./:;<=>?@ABCDEFGHIJKLMNOPQRSTUVWXYZ[]^_`{|}~").length ≤ 200 := by decide +kernel
      generalize (Str.ofString "0123456789 (),abcdefghijklmnopqrstuvwxyz!#$&'*+-./:;<=>?@ABCDEFGHIJKLMNOPQRSTUVWXYZ[]^_`{|}~") = sg at lsg ⊢
      obtain ⟨lsg1, lsg2⟩ := lsg
      refine ⟨_, rfl, _, rfl, _, rfl, sg, rfl, by omega, B, L, _, rfl, b5, by omega, by omega, fun H6 ax x6 b6 a0 a1 => ?_⟩
      have s6 := s5.trans x6
      obtain ⟨an, rfl⟩ : ∃ q : Nat, ax = (q : Nat) := ⟨ax.toNat, by omega⟩
      have ls : sg.cps.toList.length = sg.length := by simp [Str.length]
      obtain ⟨ca, ea⟩ : ∃ c, sg.cps.toList[an]? = some c := ⟨_, List.getElem?_eq_getElem (by omega)⟩
      refine ⟨sg, _, ca, rfl, rfl, by omega, atI_nat ea, ?_⟩
      refine ⟨_, rfl, _, rfl, B, L, 13, rfl, b6, by decide, by decide, fun H7 cx x7 b7 c0 c1 => ?_⟩
      have s7 := s6.trans x7
      obtain ⟨cn, rfl⟩ : ∃ q : Nat, cx = (q : Nat) := ⟨cx.toNat, by omega⟩
      obtain ⟨cc, ec⟩ : ∃ c, sg.cps.toList[cn]? = some c := ⟨_, List.getElem?_eq_getElem (by omega)⟩
      refine ⟨sg, _, cc, rfl, rfl, by omega, atI_nat ec, by show 3 ≤ sizeLine; decide, fun S nS => ?_⟩
      have x8 := sameNew (o := .lst [.str ⟨#[ca]⟩, .str (Str.ofString ""), .str ⟨#[cc]⟩]) (Same.refl H7) nS
      have hS : upd H7 S (.lst [.str ⟨#[ca]⟩, .str (Str.ofString ""), .str ⟨#[cc]⟩]) S = some (.lst [.str ⟨#[ca]⟩, .str (Str.ofString ""), .str ⟨#[cc]⟩]) := upd_same
      generalize upd H7 S (.lst [.str ⟨#[ca]⟩, .str (Str.ofString ""), .str ⟨#[cc]⟩]) = H8 at x8 hS ⊢
      have s8 := s7.trans (SameX.of x8)
      have b8 := b7.same x8
      obtain ⟨y, ey, oy⟩ : ∃ y : Str, [V.str ⟨#[ca]⟩, .str (Str.ofString ""), .str ⟨#[cc]⟩][d - 3]? = some (.str y) ∧ SpT 1 1 y := by
        have h : d = 3 ∨ d = 4 ∨ d = 5 := by omega
        rcases h with rfl | rfl | rfl
        · exact ⟨_, rfl, one22 ca⟩
        · exact ⟨_, rfl, by decide +kernel, by decide +kernel⟩
        · exact ⟨_, rfl, one22 cc⟩
      have ed : ((d : Nat) : Int) - 3 = ((d - 3 : Nat) : Int) := by omega
      refine ⟨_, rfl, _, _, rfl, rfl, S, _, _, .str y, rfl, rfl, SqL.of hS, by rw [ed]; exact atI_nat ey, ?_⟩
      try dsimp only [gName, List.set]
      have o1 := cut22 o none (some (pn : Nat))
      have o1l := o1.l
      have oyl := oy.l
      refine ⟨_, rfl, _, rfl, _, rfl, t, rfl, by omega, _, rfl, _, _, rfl, rfl, by omega, ?_⟩
      refine ⟨_, rfl, _, rfl, _, rfl, _, _, rfl, rfl, .inr ⟨_, rfl, _, _, rfl, rfl, _, rfl, t, rfl, by omega, ?_⟩⟩
      generalize hq : ((pn : Nat) : Int) + _ = q
      have o2 := cut22 o (some q) none
      have o2l := o2.l
      have fin := spoilt_sign o1 o2 oy
      have fl := fin.l
      refine ⟨_, _, rfl, rfl, by rw [len22]; omega, k _ _ s8 b8 fin⟩
end
end RS
set_option Elab.async false
set_option maxRecDepth 100000
set_option maxHeartbeats 4000000
namespace RS
open PySem PySem.Spec PyProof.Rows L2 GX
/-- a new object in a heap that differs by the drawer -/
theorem alX {B L e : Addr} {H H1 : Hp} {o : HO} (s : SameX B L H H1) (hb : BoxAt H B L) (b : BoxAt H1 B L) (he : H1 e = none) : SameX B L H (upd H1 e o) ∧ BoxAt (upd H1 e o) B L ∧ e ≠ B ∧ e ≠ L := by
  obtain ⟨n1, n2⟩ := b.nb he
  exact ⟨s.new (s.free hb he b), b.upd_ n1 n2, n1, n2⟩
section
variable {P : Program} {w : World} {K : PySem.W.Frag} {mg : Str → Option Value} {base : Heap}
theorem scLens : FnScope ["_law_box", "_law_most", "_law_found", "_law_k", "_law_some"] ["_law_box", "_law_most"] (defScope s__law_lengths) := ⟨rfl, rfl, rfl, by decide +kernel, rfl, by decide +kernel, by decide +kernel⟩
def spLens : Sp := fun vs H Q _ => ∃ (B L : Addr) (m : Nat), vs = [.ref B, .int (m : Nat)] ∧ BoxAt H B L ∧ 1 ≤ m ∧ m ≤ 40 ∧
  ∀ (H' : Hp) (a : Addr) (ls : List Nat), SameX B L H H' → BoxAt H' B L → OkLens ls → ls.length ≤ m → H a = none → H' a = some (.lst (ls.map fun n => V.int (n : Nat))) → Q (.ref a) H'
theorem lens_ok {c : Addr} (D : DefAt K mg "_law_lengths" s__law_lengths c) (T : Txt K mg) (cT : Cal P w K mg base CX0 1 "_law_take" ["_law_box", "_law_many"] spTake) : Cal P w K mg base CX0 2 "_law_lengths" ["_law_box", "_law_most"] spLens := by
  have sc := scLens
  refine def_ok0 D sc (fun vs H Q E h => ?_) (fun _ _ _ _ _ _ us hl => match us, hl with | [_, _], _ => rfl) (fun f A outer s H vs Q E hr h => ?_)
  · obtain ⟨B, L, m, rfl, _⟩ := h
    rfl
  · obtain ⟨B, L, m, rfl, hb, m1, m40, k⟩ := h
    refine ⟨_, (pss_cons (ps_set (i := 2) sc.nd rfl (Or.inl rfl) (pe_lst pa_nil)) (pss_cons (ps_for PassesOwn.never rfl (pi_range1 (by rfl) T.range (pa_cons (pe_op op_add pe_int (pe_c cT hr (by decide) (by rfl) pass0 (pa_cons (pv 0) (pa_cons (pv 1) pa_nil)))) pa_nil)) (pg_name (i := 3) sc.nd rfl (Or.inl rfl)) (pss_cons (ps_set (i := 4) sc.nd rfl (Or.inl rfl) (pe_lst (pa_cons (pe_op op_add pe_int (pe_c cT hr (by decide) (by rfl) pass0 (pa_cons (pv 0) (pa_cons pe_int pa_nil)))) (pa_cons (pe_op op_add pe_int (pe_c cT hr (by decide) (by rfl) pass0 (pa_cons (pv 0) (pa_cons pe_int pa_nil)))) (pa_cons (pe_op op_add (pv 3) pe_int) (pa_cons (pe_op op_add pe_int (pe_c cT hr (by decide) (by rfl) pass0 (pa_cons (pv 0) (pa_cons (pe_op op_pow pe_int pe_int) pa_nil)))) (pa_cons (pe_op op_pow pe_int pe_int) pa_nil))))))) (pss_one (ps_expr (pe_bm PySem.F.plainAttrs_list PySem.F.slot_list_append PySem.F.type_list_append mt_append (pv 2) (pa_cons (pe_ix ix_list (pv 4) (pe_ix ix_list (pe_lst (pa_cons pe_int (pa_cons pe_int (pa_cons pe_int (pa_cons pe_int (pa_cons pe_int (pa_cons pe_int pa_nil))))))) (pe_c cT hr (by decide) (by rfl) pass0 (pa_cons (pv 0) (pa_cons pe_int pa_nil))) (fun _ _ => rfl)) (fun _ _ => rfl)) pa_nil)))))) (pss_one (ps_ret (pv 2))))), ?_⟩
    refine ⟨Nat.zero_le _, fun F hF => ?_⟩
    obtain ⟨s0, b0, nFB, nFL⟩ := alX (o := .lst []) SameX.refl hb hb hF
    refine ⟨_, rfl, _, rfl, B, L, _, rfl, b0, by omega, by omega, fun H1 n s1 b1 n0 n1 => ?_⟩
    refine ⟨_, _, rfl, rfl, _, rfl, by omega, by omega, ?_⟩
    rw [show (1 + n).toNat = n.toNat + 1 by omega]
    have hF1 : H1 F = some (.lst []) := s1 _ _ nFB nFL upd_same
    have sA := s0.trans s1
    refine for_range (fun i σ H' => ∃ (v3 v4 : Option V) (ls : List Nat), σ = [some (.ref B), some (.int (m : Nat)), some (.ref F), v3, v4] ∧ SameX B L H H' ∧ BoxAt H' B L ∧ H' F = some (.lst (ls.map fun n => V.int (n : Nat))) ∧ ls.length = i ∧ ∀ x ∈ ls, 1 ≤ x ∧ x ≤ 1000000)
      ⟨none, none, [], rfl, sA, b1, hF1, rfl, (fun _ h => nomatch h)⟩ ?_ ?_
    · rintro i σ H2 hi ⟨v3, v4, ls, rfl, sm, b2, hF2, li, ok⟩
      have pw : ((10 : Int) ^ (6 : Int).toNat) = 1000000 := by decide +kernel
      refine ⟨_, rfl, B, L, 9, rfl, b2, by decide, by decide, fun H3 x1 s3 b3 p0 p1 => ?_⟩
      refine ⟨_, _, rfl, rfl, _, rfl, B, L, 2, rfl, b3, by decide, by decide, fun H4 x2 s4 b4 q0 q1 => ?_⟩
      refine ⟨_, _, rfl, rfl, _, rfl, _, _, rfl, rfl, _, rfl, _, _, rfl, rfl, ⟨by decide, by decide, by decide⟩, B, L, _, rfl, b4, by rw [pw]; decide, by rw [pw]; decide, fun H5 x3 s5 b5 r0 r1 => ?_⟩
      refine ⟨_, _, rfl, rfl, _, _, rfl, rfl, ⟨by decide, by decide, by decide⟩, by show 5 ≤ sizeLine; decide, fun e he => ?_⟩
      have sB := ((sm.trans s3).trans s4).trans s5
      obtain ⟨s6, b6, e1, e2⟩ := alX (o := .lst [.int (1 + x1), .int (1 + x2), .int (0 + (i : Nat) + 1), .int (1 + x3), .int ((10 : Int) ^ (6 : Int).toNat)]) sB hb b5 he
      have hF5 := s5 _ _ nFB nFL (s4 _ _ nFB nFL (s3 _ _ nFB nFL hF2))
      have neF : F ≠ e := fun z => by rw [← z, hF5] at he; cases he
      have hF6 : upd H5 e (.lst [.int (1 + x1), .int (1 + x2), .int (0 + (i : Nat) + 1), .int (1 + x3), .int ((10 : Int) ^ (6 : Int).toNat)]) F = some (.lst (ls.map fun n => V.int (n : Nat))) := (upd_ne neF).trans hF5
      have he6 : upd H5 e (.lst [.int (1 + x1), .int (1 + x2), .int (0 + (i : Nat) + 1), .int (1 + x3), .int ((10 : Int) ^ (6 : Int).toNat)]) e = some (.lst [.int (1 + x1), .int (1 + x2), .int (0 + (i : Nat) + 1), .int (1 + x3), .int ((10 : Int) ^ (6 : Int).toNat)]) := upd_same
      generalize upd H5 e (.lst [.int (1 + x1), .int (1 + x2), .int (0 + (i : Nat) + 1), .int (1 + x3), .int ((10 : Int) ^ (6 : Int).toNat)]) = H6 at s6 b6 hF6 he6 ⊢
      refine ⟨_, rfl, .inl ⟨rfl, _, SqL.of hF6⟩, _, rfl, by show 6 ≤ sizeLine; decide, fun g hg => ?_⟩
      obtain ⟨s7, b7, g1, g2⟩ := alX (o := .lst [.int 0, .int 0, .int 1, .int 2, .int 3, .int 4]) s6 hb b6 hg
      refine ⟨_, rfl, B, L, 6, rfl, b7, by decide, by decide, fun H8 x4 s8 b8 t0 t1 => ?_⟩
      have ng : F ≠ g := fun z => by rw [← z, hF6] at hg; cases hg
      have nge : e ≠ g := fun z => by rw [← z, he6] at hg; cases hg
      have hF8 := s8 _ _ nFB nFL ((upd_ne ng).trans hF6)
      have he8 := s8 _ _ e1 e2 ((upd_ne nge).trans he6)
      have hg8 := s8 _ _ g1 g2 upd_same
      obtain ⟨j, hj, j4⟩ : ∃ j : Nat, atI [V.int 0, V.int 0, V.int 1, V.int 2, V.int 3, V.int 4] x4 = some (.int (j : Nat)) ∧ j < 5 := by
        rcases (by omega : x4 = 0 ∨ x4 = 1 ∨ x4 = 2 ∨ x4 = 3 ∨ x4 = 4 ∨ x4 = 5) with e | e | e | e | e | e <;> subst e
        · exact ⟨0, atI_nat (j := 0) rfl, by decide⟩
        · exact ⟨0, atI_nat (j := 1) rfl, by decide⟩
        · exact ⟨1, atI_nat (j := 2) rfl, by decide⟩
        · exact ⟨2, atI_nat (j := 3) rfl, by decide⟩
        · exact ⟨3, atI_nat (j := 4) rfl, by decide⟩
        · exact ⟨4, atI_nat (j := 5) rfl, by decide⟩
      obtain ⟨y, hy, y1, y2⟩ : ∃ y : Nat, [V.int (1 + x1), .int (1 + x2), .int (0 + (i : Nat) + 1), .int (1 + x3), .int ((10 : Int) ^ (6 : Int).toNat)][j]? = some (.int (y : Nat)) ∧ 1 ≤ y ∧ y ≤ 1000000 := by
        rcases (by omega : j = 0 ∨ j = 1 ∨ j = 2 ∨ j = 3 ∨ j = 4) with e | e | e | e | e <;> subst e
        · exact ⟨(1 + x1).toNat, congrArg (fun z => some (V.int z)) (Int.toNat_of_nonneg (by omega)).symm, by omega, by omega⟩
        · exact ⟨(1 + x2).toNat, congrArg (fun z => some (V.int z)) (Int.toNat_of_nonneg (by omega)).symm, by omega, by omega⟩
        · exact ⟨i + 1, congrArg (fun z => some (V.int z)) (by omega), by omega, by omega⟩
        · exact ⟨(1 + x3).toNat, congrArg (fun z => some (V.int z)) (Int.toNat_of_nonneg (by omega)).symm, by omega, by omega⟩
        · exact ⟨1000000, congrArg (fun z => some (V.int z)) pw, by decide, by decide⟩
      refine ⟨g, _, x4, _, rfl, rfl, SqL.of hg8, hj, e, _, _, _, rfl, rfl, SqL.of he8, atI_nat hy, ?_⟩
      refine ⟨F, _, _, rfl, rfl, hF8, small1000 (by rw [List.length_map]; omega), ?_⟩
      refine ⟨_, _, ls ++ [y], rfl, (s7.trans s8).new hF, b8.upd_ nFB nFL, ?_, by rw [List.length_append, li]; rfl, fun x hx => ?_⟩
      · rw [upd_same, List.map_append]
        rfl
      · rcases List.mem_append.mp hx with hx | hx
        · exact ok x hx
        · rw [List.mem_singleton.mp hx]
          exact ⟨y1, y2⟩
    · rintro σ H2 ⟨v3, v4, ls, rfl, sm, b2, hF2, li, ok⟩
      exact ⟨_, rfl, k H2 F ls sm b2 ⟨by omega, by omega, ok⟩ (by omega) hF hF2⟩
end
end RS
set_option Elab.async false
set_option maxRecDepth 100000
set_option maxHeartbeats 4000000
namespace RS
open PySem PySem.Spec PyProof.Rows L2 GX
section
variable {X : Cx} {o e : Expr} {es : List Expr} {to : TE} {t : TA} {name : Str} {apos cpos : Pos} {T id : String} {r : V → List V → Hp → VK → Prop} {K : PySem.W.Frag}
/-- a method called where the frame's own facts are named -/
theorem pe_bmC (eK : X.K = K) (pa : PlainAttrs T) (slot : Slot T name id) (hty : typeOf (.builtin id) = pure (.type "method_descriptor")) (hm : MtR X id r) (ho : PE X o to) (ha : PA X (e :: es) t) (h1 : attributeBase o name X.env (eval o X.env) = eval o X.env := by rfl) (h2 : ((backTo cpos (starEach (e :: es) X.env)).all (fun x => !x.1) && (backToKw cpos (keywordEach [] X.env)).all (fun x => x.1.isSome) && decide ((e :: es).length + ([] : List Keyword).length + (if ([] : List Keyword).isEmpty then 0 else 1) < 30)) = true := by rfl) (h3 : (apos.endLine == cpos.line) = true := by rfl) (h4 : starEach (e :: es) X.env = (false, eval e X.env) :: starEach es X.env := by rfl) (h5 : (backTo cpos (starEach es X.env)).any (·.1) = false := by rfl) : PE X (.Call (.Attribute o name apos) (e :: es) [] cpos) (tBM K T r to t) := by
  subst eK
  exact pe_bm pa slot hty hm ho ha h1 h2 h3 h4 h5
theorem len_seqC (eK : X.K = K) : CallR X (.builtin "len") (fun xs H Q => ∃ p ys, xs = [.ref p] ∧ (SqL K H p ys ∨ SqT K H p ys) ∧ Q (.int ys.length) H) := by
  subst eK
  exact call_len_seq
end
end RS
set_option Elab.async false
set_option maxRecDepth 100000
set_option maxHeartbeats 4000000
namespace RS
open PySem PySem.Spec PyProof.Rows L2 GX
theorem dpAll_tk {K : PySem.W.Frag} {H : Hp} : ∀ {xs : List V} {ds : List PyData}, DpAll K H xs ds → ∀ k : Nat, DpAll K H (xs.take k) (ds.take k) ∧ DpAll K H (xs.drop k) (ds.drop k)
  | _, _, .nil, k => by
    rw [List.take_nil, List.take_nil, List.drop_nil, List.drop_nil]
    exact ⟨.nil, .nil⟩
  | _, _, .cons h t, 0 => ⟨.nil, .cons h t⟩
  | _, _, .cons h t, k + 1 => ⟨.cons h (dpAll_tk t k).1, (dpAll_tk t k).2⟩
theorem dpAll_er {K : PySem.W.Frag} {H : Hp} : ∀ {xs : List V} {ds : List PyData}, DpAll K H xs ds → ∀ k : Nat, DpAll K H (xs.eraseIdx k) (ds.eraseIdx k)
  | _, _, .nil, _ => .nil
  | _, _, .cons _ t, 0 => t
  | _, _, .cons h t, k + 1 => .cons h (dpAll_er t k)
theorem leafs_nats : ∀ l : List Nat, leafs (l.map fun c => PyData.int (c : Nat)) = l
  | [] => rfl
  | c :: l => by
    show [((c : Nat) : Int).toNat] ++ leafs (l.map fun c => PyData.int (c : Nat)) = c :: l
    rw [leafs_nats l, Int.toNat_natCast]
    rfl
theorem leafs_perm {xs ys : List PyData} (p : xs.Perm ys) : (leafs xs).Perm (leafs ys) := by
  induction p with
  | nil => exact List.Perm.refl _
  | cons x _ ih => exact ih.append_left (leaf x)
  | swap x y l =>
    show (leaf y ++ (leaf x ++ leafs l)).Perm (leaf x ++ (leaf y ++ leafs l))
    rw [← List.append_assoc, ← List.append_assoc]
    exact List.perm_append_comm.append_right _
  | trans _ _ h1 h2 => exact h1.trans h2
theorem okPs_perm {w : Nat} {xs ys : List PyData} (p : xs.Perm ys) (h : okPs w xs) : okPs w ys := okPs_iff.mpr fun d hd => okPs_iff.mp h d (p.mem_iff.mpr hd)
end RS
set_option Elab.async false
set_option maxRecDepth 100000
set_option maxHeartbeats 8000000
namespace RS
open PySem PySem.Spec PyProof.Rows L2 GX
section
variable {P : Program} {w : World} {K : PySem.W.Frag} {mg : Str → Option Value} {base : Heap}
theorem scLPlan : FnScope ["_law_box", "_law_runs", "_law_ways", "_law_left", "_law_many", "_law_some", "_law_k"] ["_law_box", "_law_runs", "_law_ways"] (defScope s__law_plan) := ⟨rfl, rfl, rfl, by decide +kernel, rfl, by decide +kernel, by decide +kernel⟩
def spLPlan (K : PySem.W.Frag) : Sp := fun vs H Q _ => ∃ (B L R : Addr) (n m : Nat), vs = [.ref B, .ref R, .int (m : Nat)] ∧ BoxAt H B L ∧ 2 ≤ m ∧ m ≤ 6 ∧ 1 ≤ n ∧ n ≤ 40 ∧ H R = some (.lst ((List.range n).map fun c => V.int (c : Nat))) ∧
  ∀ (H' : Hp) (v : V) (d : PyData), SameX B L H H' → BoxAt H' B L → Dp K H' v d → OkPlan n m d → Q v H'
theorem lplan_ok {c : Addr} (D : DefAt K mg "_law_plan" s__law_plan c) (T : Txt K mg) (cT : Cal P w K mg base CX0 1 "_law_take" ["_law_box", "_law_many"] spTake) : Cal P w K mg base CX0 2 "_law_plan" ["_law_box", "_law_runs", "_law_ways"] (spLPlan K) := by
  have sc := scLPlan
  refine def_ok0 D sc (fun vs H Q E h => ?_) (fun _ _ _ _ _ _ us hl => match us, hl with | [_, _, _], _ => rfl) (fun f A outer s H vs Q E hr h => ?_)
  · obtain ⟨B, L, R, n, m, rfl, _⟩ := h
    rfl
  · obtain ⟨B, L, R, n, m, rfl, hb, m2, m6, n1, n40, hR, k⟩ := h
    refine ⟨_, (pss_cons (ps_set (i := 3) sc.nd rfl (Or.inr rfl) (pe_callTy call_list_of (by rfl) T.list_ (by decide +kernel) (pa_cons (pv 1) pa_nil))) (pss_cons (ps_while PassesOwn.never (pt_cmpR op_gt (pe_callB call_len_seq (by rfl) T.len PySem.boot_len (pa_cons (pv 3) pa_nil)) pe_int (nomark _)) (pss_cons (ps_set (i := 4) sc.nd rfl (Or.inl rfl) (pe_callB (call_min2 rfl) (by rfl) T.min boot_min (pa_cons (pe_callB call_len_seq (by rfl) T.len PySem.boot_len (pa_cons (pv 3) pa_nil)) (pa_cons (pe_op op_add pe_int (pe_c cT hr (by decide) (by rfl) pass0 (pa_cons (pv 0) (pa_cons (pe_op op_sub (pv 2) pe_int) pa_nil)))) pa_nil)))) (pss_cons (ps_setLc (own := [("_law_k", 6)]) (tt := tYes) rfl sc.nd (i := 5) rfl rfl (by rfl) (pi_range1 (by rfl) T.range (pa_cons (pv 4) pa_nil)) (blkOk_by (N := ["_law_box", "_law_runs", "_law_ways", "_law_left", "_law_many", "_law_some", "_law_k"]) (sc := defScope s__law_plan) (own := [("_law_k", 6)]) (by decide +kernel)) (fun _ _ _ _ _ => (pg_name (i := 6) sc.nd rfl (Or.inl rfl))) (fun _ _ _ _ _ => pts_nil) (fun _ _ _ _ _ => (pe_bmC (K := K) rfl PySem.F.plainAttrs_list PySem.F.slot_list_pop PySem.F.type_list_pop mt_popAt (pv 3) (pa_cons (pe_c cT hr (by decide) (by rfl) pass0 (pa_cons (pv 0) (pa_cons (pe_callB (len_seqC (K := K) rfl) (by rfl) T.len PySem.boot_len (pa_cons (pv 3) pa_nil)) pa_nil))) pa_nil)))) (pss_one (ps_expr (pe_bm PySem.F.plainAttrs_list PySem.F.slot_list_insert PySem.F.type_list_insert mt_insert (pv 3) (pa_cons (pe_c cT hr (by decide) (by rfl) pass0 (pa_cons (pv 0) (pa_cons (pe_op op_add (pe_callB call_len_seq (by rfl) T.len PySem.boot_len (pa_cons (pv 3) pa_nil)) pe_int) pa_nil))) (pa_cons (pe_callTy call_tuple_of (by rfl) T.tuple_ (by decide +kernel) (pa_cons (pv 5) pa_nil)) pa_nil)))))))) (pss_one (ps_ret (pe_ix ix_list (pv 3) pe_int (fun _ _ => rfl)))))), ?_⟩
    refine ⟨_, rfl, R, _, rfl, .inl (SqL.of hR), fun Lf hLf => ?_⟩
    obtain ⟨s0, b0, nfB, nfL⟩ := alX (o := .lst ((List.range n).map fun c => V.int (c : Nat))) SameX.refl hb hb hLf
    refine ⟨fun mm σ H' => ∃ (v4 v5 : Option V) (xs : List V) (ds : List PyData), σ = [some (.ref B), some (.ref R), some (.int (m : Nat)), some (.ref Lf), v4, v5, none] ∧ SameX B L H H' ∧ BoxAt H' B L ∧ H' Lf = some (.lst xs) ∧ DpAll K H' xs ds ∧ okPs m ds ∧ (leafs ds).Perm (List.range n) ∧ 1 ≤ xs.length ∧ mm = xs.length,
      ⟨_, none, none, _, (List.range n).map fun c => .int (c : Nat), rfl, s0, b0, upd_same, dpNats _, ?_, ?_, ?_, rfl⟩, ?_⟩
    · refine okPs_iff.mpr fun d hd => ?_
      obtain ⟨c, hc, rfl⟩ := List.mem_map.mp hd
      have := List.mem_range.mp hc
      exact ⟨by omega, by omega⟩
    · rw [leafs_nats]
    · rw [List.length_map, List.length_range]
      exact n1
    rintro mm σ H1 ⟨v4, v5, xs, ds, rfl, s1, b1, hL, hd, okd, pm, x1, rfl⟩
    have lx : xs.length = ds.length := dpLen hd
    have ll := leafs_depth ds okd
    rw [pm.length_eq, List.length_range] at ll
    have lx40 : xs.length ≤ 40 := by omega
    refine ⟨_, rfl, Lf, _, rfl, .inl (SqL.of hL), _, _, rfl, rfl, _, rfl, ?_⟩
    by_cases hgt : xs.length > 1
    · refine iteT' (decide_eq_true (by omega)) ⟨_, fun _ _ h => h, ?_⟩
      refine ⟨_, rfl, Lf, _, rfl, .inl (SqL.of hL), _, rfl, _, rfl, _, _, rfl, rfl, B, L, _, rfl, b1, by omega, by omega, fun H2 x s2 b2 h0 h1 => ?_⟩
      refine ⟨_, _, rfl, rfl, _, _, rfl, ?_⟩
      obtain ⟨mn, emn, q2, qx, qm⟩ : ∃ mn : Nat, (if 2 + x < ((xs.length : Nat) : Int) then 2 + x else ((xs.length : Nat) : Int)) = (mn : Int) ∧ 2 ≤ mn ∧ mn ≤ xs.length ∧ mn ≤ m := by
        by_cases hx : 2 + x < ((xs.length : Nat) : Int)
        · exact ⟨(2 + x).toNat, by rw [if_pos hx]; omega, by omega, by omega, by omega⟩
        · exact ⟨xs.length, if_neg hx, by omega, Nat.le_refl _, by omega⟩
      rw [emn]
      have hL2 := s2 _ _ nfB nfL hL
      have nlds := okPs_noL ds okd
      have hd2 := dpAll_x b1 s2 _ nlds hd
      refine ⟨_, rfl, _, rfl, by omega, by omega, fun DD hD => ?_⟩
      rw [Int.toNat_natCast]
      have sH2 := s1.trans s2
      obtain ⟨s3, b3, nDB, nDL⟩ := alX (o := .lst []) sH2 hb b2 hD
      have hD0 := sH2.free hb hD b2
      have nLD : Lf ≠ DD := fun z => by rw [← z, hL2] at hD; cases hD
      refine lc_range (fun j H' => SameX B L H H' ∧ BoxAt H' B L ∧ ∃ (xl yl : List V) (dl el : List PyData), H' Lf = some (.lst xl) ∧ DpAll K H' xl dl ∧ okPs m dl ∧ H' DD = some (.lst yl) ∧ DpAll K H' yl el ∧ okPs m el ∧ el.length = j ∧ dl.length + j = ds.length ∧ (leafs dl ++ leafs el).Perm (List.range n))
        ⟨s3, b3, xs, [], ds, [], (upd_ne nLD).trans hL2, dpAll_same (fun b o e => by rw [upd_ne (ne_of_none e hD)]; exact e) _ hd2, okd, upd_same, .nil, trivial, rfl, rfl, by simpa [leafs] using pm⟩ ?_ ?_
      · rintro j H3 hj ⟨s4, b4, xl, yl, dl, el, hl, hdl, okl, hDD, hel, oke, lel, ldl, pme⟩
        have lxl := dpLen hdl
        refine ⟨rfl, _, rfl, .inl ⟨rfl, _, SqL.of hl⟩, _, rfl, _, rfl, Lf, _, rfl, .inl (SqL.of hl), B, L, _, rfl, b4, by omega, by omega, fun H4 kx s5 b5 g0 g1 => ?_⟩
        obtain ⟨kn, rfl⟩ : ∃ kn : Nat, kx = (kn : Int) := ⟨kx.toNat, by omega⟩
        have hkn : kn < xl.length := by omega
        have hkd : kn < dl.length := by omega
        have hl4 := s5 _ _ nfB nfL hl
        have hDD4 := s5 _ _ nDB nDL hDD
        have nll := okPs_noL dl okl
        have nle := okPs_noL el oke
        have hdl4 := dpAll_x b4 s5 _ nll hdl
        have hel4 := dpAll_x b4 s5 _ nle hel
        obtain ⟨v, ev, hv⟩ := dpGet' hdl4 (List.getElem?_eq_getElem hkd)
        have pe := perm_erase (List.getElem?_eq_getElem hkd)
        have okt := okPs_perm pe okl
        have nlt := okPs_noL _ okt
        refine ⟨Lf, _, (kn : Int), kn, v, rfl, rfl, hl4, by omega, by omega, seqIx hkn, ev, ?_⟩
        have lyl := dpLen hel
        have hDD5 : upd H4 Lf (.lst (xl.eraseIdx kn)) DD = some (.lst yl) := (upd_ne (Ne.symm nLD)).trans hDD4
        have oke2 : okPs m (el ++ [dl[kn]]) := okPs_app.mpr ⟨oke, okt.1, trivial⟩
        have okl2 : okPs m (dl.eraseIdx kn) := okt.2
        have lE := pe.length_eq
        rw [List.length_cons] at lE
        refine ⟨yl, hDD5, small1000 (by omega), ((s4.trans s5).new hLf).new hD0, (b5.upd_ nfB nfL).upd_ nDB nDL, xl.eraseIdx kn, yl ++ [v], dl.eraseIdx kn, el ++ [dl[kn]], (upd_ne nLD).trans upd_same, ?_, okl2, upd_same, ?_, oke2, by rw [List.length_append, lel]; rfl, by omega, ?_⟩
        · exact dpAll_upd hDD5 _ (okPs_noL _ okl2) (dpAll_upd hl4 _ (okPs_noL _ okl2) (dpAll_er hdl4 kn))
        · exact dpAll_upd hDD5 _ (okPs_noL _ oke2) (dpAll_upd hl4 _ (okPs_noL _ oke2) (dpApp hel4 (.cons hv .nil)))
        · refine List.Perm.trans ?_ pme
          rw [leafs_app]
          have p1 := leafs_perm pe
          have e1 : leafs (dl[kn] :: dl.eraseIdx kn) = leaf dl[kn] ++ leafs (dl.eraseIdx kn) := rfl
          have e2 : leafs [dl[kn]] = leaf dl[kn] := by
            show leaf dl[kn] ++ [] = _
            rw [List.append_nil]
          rw [e1] at p1
          rw [e2]
          refine List.Perm.trans ?_ (p1.symm.append_right _)
          rw [List.append_assoc]
          refine List.Perm.trans ?_ List.perm_append_comm
          rw [List.append_assoc]
      · rintro H3 ⟨s4, b4, xl, yl, dl, el, hl, hdl, okl, hDD, hel, oke, lel, ldl, pme⟩
        dsimp only [gName]
        have lxl := dpLen hdl
        refine ⟨_, rfl, .inl ⟨rfl, _, SqL.of hl⟩, _, rfl, _, rfl, Lf, _, rfl, .inl (SqL.of hl), _, _, rfl, rfl, B, L, _, rfl, b4, by omega, by omega, fun H5 kx s5 b5 g0 g1 => ?_⟩
        have hl5 := s5 _ _ nfB nfL hl
        have hDD5 := s5 _ _ nDB nDL hDD
        refine ⟨_, rfl, DD, yl, rfl, .inl ⟨SqL.of hDD5, fun tp htp => ?_⟩⟩
        have sP := s4.trans s5
        have sTP : Same H5 (upd H5 tp (.tup yl)) := fun b o e => by
          rw [upd_ne (ne_of_none e htp)]
          exact e
        obtain ⟨s6, b6, _, _⟩ := alX (o := .tup yl) sP hb b5 htp
        have hl6 := sTP _ _ hl5
        refine ⟨Lf, xl, kx, .ref tp, rfl, rfl, hl6, small1000 (by omega), g0, by omega, ?_⟩
        have dl5 := dpAll_same sTP _ (dpAll_x b4 s5 _ (okPs_noL _ okl) hdl)
        have el5 := dpAll_same sTP _ (dpAll_x b4 s5 _ (okPs_noL _ oke) hel)
        obtain ⟨t1, t2⟩ := dpAll_tk dl5 kx.toNat
        have okt : okP m (.tuple el) := ⟨by omega, by omega, oke⟩
        have pq : (dl.take kx.toNat ++ [PyData.tuple el] ++ dl.drop kx.toNat).Perm (dl ++ [PyData.tuple el]) := by
          rw [List.append_assoc]
          have q2 : (dl.take kx.toNat ++ ([PyData.tuple el] ++ dl.drop kx.toNat)).Perm (dl.take kx.toNat ++ (dl.drop kx.toNat ++ [PyData.tuple el])) := List.perm_append_comm.append_left _
          rw [← List.append_assoc (dl.take kx.toNat) (dl.drop kx.toNat), List.take_append_drop] at q2
          exact q2
        have okn : okPs m (dl.take kx.toNat ++ [PyData.tuple el] ++ dl.drop kx.toNat) := okPs_perm pq.symm (okPs_app.mpr ⟨okl, okt, trivial⟩)
        have ln : (dl.take kx.toNat ++ [PyData.tuple el] ++ dl.drop kx.toNat).length = dl.length + 1 := by rw [pq.length_eq, List.length_append, List.length_singleton]
        have hnew : DpAll K (upd (upd H5 tp (.tup yl)) Lf (.lst (xl.take kx.toNat ++ [.ref tp] ++ xl.drop kx.toNat))) (xl.take kx.toNat ++ [.ref tp] ++ xl.drop kx.toNat) (dl.take kx.toNat ++ [PyData.tuple el] ++ dl.drop kx.toNat) :=
          dpAll_upd hl6 _ (okPs_noL _ okn) (dpApp (dpApp t1 (.cons (.tup (SqT.of upd_same) el5) .nil)) t2)
        have lnew := dpLen hnew
        refine ⟨_, ?_, _, _, _, _, rfl, s6.new hLf, b6.upd_ nfB nfL, upd_same, hnew, okn, ?_, ?_, rfl⟩
        · rw [lnew, ln]
          omega
        · have p1 := leafs_perm pq
          rw [leafs_app dl] at p1
          have e2 : leafs [PyData.tuple el] = leafs el := by
            show leafs el ++ [] = _
            rw [List.append_nil]
          rw [e2] at p1
          exact p1.trans pme
        · rw [lnew, ln]
          omega
    · refine iteF' (decide_eq_false (by omega)) ?_
      have lx1 : xs.length = 1 := by omega
      cases hd with
      | nil => simp at lx1
      | cons hv ht =>
        cases ht with
        | cons _ _ => simp at lx1
        | nil =>
          rename_i v d
          have pm' : (leaf d).Perm (List.range n) := by simpa [leafs] using pm
          exact ⟨_, rfl, Lf, _, _, v, rfl, rfl, SqL.of hL, atI_nat (j := 0) rfl, k H1 v d s1 b1 hv ⟨okd.1, pm'⟩⟩
end
end RS
set_option Elab.async false
set_option maxRecDepth 100000
set_option maxHeartbeats 4000000
namespace RS
open PySem PySem.Spec PyProof.Rows L2 GX
/-! ### tables that are empty at the entry, as tables of any size -/
def extOf (T : List Addr) (H : Hp) : Hp := fun b => if b ∈ T then some (.ext (TabE b)) else H b
def tabAt (h : Heap) (b : Addr) : Array Value := match h.get? b with
  | some o => (match o.data with
    | .fields rs => rs
    | _ => #[])
  | none => #[]
def tblOf (T : List Addr) (h : Heap) (H : Hp) : Hp := fun b => if b ∈ T then some (.tbl (tabAt h b)) else H b
/-- a promise that speaks of tables of any size, asked where they are empty -/
def spT (T : List Addr) (sp : Sp) : Sp := fun vs H Q E => (∀ b ∈ T, H b = some (.tbl #[])) ∧ sp vs (extOf T H) (fun v H' => (∀ b ∈ T, Tab H' b) ∧ ∀ H2, Q v H2) E
theorem ext_in {T : List Addr} {H : Hp} {b : Addr} (h : b ∈ T) : extOf T H b = some (.ext (TabE b)) := if_pos h
theorem ext_out {T : List Addr} {H : Hp} {b : Addr} (h : b ∉ T) : extOf T H b = H b := if_neg h
theorem tbl_in {T : List Addr} {g : Heap} {H : Hp} {b : Addr} (h : b ∈ T) : tblOf T g H b = some (.tbl (tabAt g b)) := if_pos h
theorem tbl_out {T : List Addr} {g : Heap} {H : Hp} {b : Addr} (h : b ∉ T) : tblOf T g H b = H b := if_neg h
theorem FnOk.tables {P : Program} {w : World} {K : PySem.W.Frag} {mg : Str → Option Value} {base : Heap} {k : Nat} {f : Addr} {fd : FuncData} {ps : List Str} {sp : Sp} {T : List Addr} (F : FnOk P w K mg base CX0 k f fd ps sp) : FnOk P w K mg base CX0 k f fd ps (spT T sp) := by
  refine ⟨fun vs H Q E h => F.len _ _ _ _ h.2, fun A outer s H args us vs Q E hr e0 hb hv ⟨hT, hs⟩ => ?_⟩
  have nT : ∀ b, H b = none → b ∉ T := fun b e hb => by
    rw [hT b hb] at e
    cases e
  have nT2 : ∀ b o, H b = some o → (∀ ps, o ≠ .tbl ps) → b ∉ T := fun b o e n hb => by
    rw [hT b hb] at e
    exact n #[] (Option.some.inj e).symm
  have e2 : Env0 P w K mg base A outer s (extOf T H) := by
    refine ⟨e0.frames, e0.mod, fun b o e => ⟨(e0.bs b o e).1, by rw [ext_out (nT b (e0.bs b o e).2)]; exact (e0.bs b o e).2⟩, e0.bsz, e0.funs, fun b hb => by rw [ext_out (nT b (e0.frf b hb))]; exact e0.frf b hb, fun b o e => ?_, e0.bare⟩
    by_cases hb : b ∈ T
    · rw [ext_in hb] at e
      cases e
      have q := e0.hok b _ (hT b hb)
      exact ⟨⟨#[], q, trivial⟩, ⟨_, q⟩, tabE_stable⟩
    · rw [ext_out hb] at e
      refine (e0.hok b o e).stay (fun c u _ q => q) (fun c q => ?_) (fun c xs q => ?_)
      · rw [ext_out (nT2 c _ q (fun ps z => by cases z))]
        exact q
      · rw [ext_out (nT2 c _ q (fun ps z => by cases z))]
        exact q
  refine codeAny_mono (F.run A outer s (extOf T H) args us vs _ E hr e2 hb hv hs) fun r s' hq => ?_
  cases r with
  | error e => exact hq
  | ok fl =>
    cases fl with
    | next => exact hq
    | brk => exact hq
    | cont => exact hq
    | ret u =>
      obtain ⟨v, H', os, bare, un, hok', r', hT', q⟩ := hq
      refine ⟨v, tblOf T s'.heap H', os, bare, ⟨fun b o e n => un.keep b o e (by rw [ext_out (nT b n)]; exact n), fun b o e n => un.slot b o e (by rw [ext_out (nT b n)]; exact n), fun b o e n hx => ?_, un.there, fun b xs e => ?_, fun b o u e => ?_, fun b ps e => ?_⟩, fun b o e => ?_, r', q _⟩
      · rw [tbl_out (nT b n)]
        exact un.free b o e (by rw [ext_out (nT b n)]; exact n) hx
      · have hb := nT2 b _ e (fun ps z => by cases z)
        rw [tbl_out hb]
        exact un.tups b xs (by rw [ext_out hb]; exact e)
      · have hb := nT2 b _ e (fun ps z => by cases z)
        rw [tbl_out hb]
        exact un.frzs b o u (by rw [ext_out hb]; exact e)
      · by_cases hb : b ∈ T
        · rw [hT b hb] at e
          cases e
          exact ⟨tabAt s'.heap b, by rw [tbl_in hb, Array.empty_append]⟩
        · rw [tbl_out hb]
          exact un.tbls b ps (by rw [ext_out hb]; exact e)
      · have inT : ∀ c, c ∈ T → ∃ rs : Array Value, s'.heap.get? c = some { cls := .none, data := .fields rs } := fun c hc => by
          obtain ⟨⟨rs, h1, _⟩, _⟩ := hok' c _ (hT' c hc)
          exact ⟨rs, h1⟩
        by_cases hb : b ∈ T
        · rw [tbl_in hb] at e
          cases e
          obtain ⟨rs, h1⟩ := inT b hb
          have e2 : tabAt s'.heap b = rs := by
            unfold tabAt
            rw [h1]
          show s'.heap.get? b = some { cls := .none, data := .fields (tabAt s'.heap b) }
          rw [e2]
          exact h1
        · rw [tbl_out hb] at e
          have nT3 : ∀ c o, H' c = some o → (∀ φ, o ≠ .ext φ) → c ∉ T := fun c o e n hc => by
            have z : H' c = some (.ext (TabE c)) := hT' c hc
            rw [e] at z
            exact n _ (Option.some.inj z)
          refine (hok' b o e).stay (fun c u _ q => q) (fun c q => ?_) (fun c xs q => ?_)
          · rw [tbl_out (nT3 c _ q (fun φ z => by cases z))]
            exact q
          · rw [tbl_out (nT3 c _ q (fun φ z => by cases z))]
            exact q
section
variable {P : Program} {w : World} {K : PySem.W.Frag} {mg : Str → Option Value} {base : Heap}
theorem fn_of0 {f c : Addr} {oc kV doc pm ct : Value} {od an : Option Addr} {osl : Array (Option Value)} {x : Str} {st : Stmt} {N ps : List Str} {k : Nat} {sp : Sp}
    (lk : K.lookup f = some ⟨oc, od, .func (PySem.W.fnOf x x (defArgs st) (defBody st) (defScope st) .none kV doc pm an (.ref c) ct), osl⟩) (hcd : PySem.W.codeIn K (.ref c) x = true) (S : FnScope N ps (defScope st)) (len : ∀ vs H Q E, sp vs H Q E → vs.length = ps.length)
    (hbody : ∀ (f : Addr) (A : Around) (outer : List Env) (s : Shared) (H : Hp) (vs : List V) (Q : VK) (E : XK), Room k (A.deeper (envOfC x (defScope st) s.heap.objs.size f (.ref c))) → sp vs H Q E →
      ∃ t, PSs (cxOf CX0 P w K mg base N x (defScope st) f (.ref c) A outer s H E).nox (defBody st) t ∧ t { nx := fun _ H' => Q .non H', rt := Q } (start N vs) H) :
    FnOk P w K mg base CX0 (k + 1) f (PySem.W.fnOf x x (defArgs st) (defBody st) (defScope st) .none kV doc pm an (.ref c) ct) ps sp :=
  fn_of lk hcd S len fun A outer s H vs Q E hr hsp => by
    obtain ⟨t, ht, q⟩ := hbody f A outer s H vs Q E hr hsp
    exact ⟨t, ht.nox, q⟩
end
end RS
set_option Elab.async false
set_option maxRecDepth 100000
set_option maxHeartbeats 4000000
namespace RS
open PySem PySem.Spec PyProof.Rows L2 GX
/-- the tables put away -/
def noT (H : Hp) : Hp := fun b => match H b with
  | some (.tbl _) => none
  | o => o
theorem noT_at {H : Hp} {b : Addr} {o : HO} (e : H b = some o) (n : ∀ ps, o ≠ .tbl ps) : noT H b = some o := by
  unfold noT
  rw [e]
  cases o <;> first | rfl | exact absurd rfl (n _)
theorem noT_of {H : Hp} {b : Addr} {o : HO} (e : noT H b = some o) : H b = some o ∧ ∀ ps, o ≠ .tbl ps := by
  unfold noT at e
  cases q : H b with
  | none => rw [q] at e; cases e
  | some u =>
    rw [q] at e
    cases u <;> first
      | exact ⟨e, fun ps z => by cases z; cases e⟩
      | (cases e)
theorem noT_none {H : Hp} {b : Addr} (e : H b = none) : noT H b = none := by
  unfold noT
  rw [e]
theorem noT_same (H : Hp) : Same (noT H) H := fun _ _ e => (noT_of e).1
theorem noT_up {H H' : Hp} (s : Same (noT H) H') : Same (noT H) (noT H') := fun b o e => noT_at (s b o e) (noT_of e).2
theorem noT_ext {H H' : Hp} (s : LamX.ExtN H H') : Same (noT H) H' := fun b o e => s b o (noT_of e).1 (noT_of e).2
theorem noT_mono {H H' : Hp} (s : Same H H') : Same (noT H) (noT H') := noT_up ((noT_same H).trans s)
theorem sqT_noT {K : PySem.W.Frag} {H : Hp} {a : Addr} {xs : List V} (h : SqT K H a xs) : SqT K (noT H) a xs := by
  rcases h with (h | ⟨o, h⟩) | h
  · exact .inl (.inl (noT_at h (fun _ z => by cases z)))
  · exact .inl (.inr ⟨o, noT_at h (fun _ z => by cases z)⟩)
  · exact .inr h
theorem sqL_noT {K : PySem.W.Frag} {H : Hp} {a : Addr} {xs : List V} (h : SqL K H a xs) : SqL K (noT H) a xs := by
  rcases h with (h | ⟨o, h⟩) | h
  · exact .inl (.inl (noT_at h (fun _ z => by cases z)))
  · exact .inl (.inr ⟨o, noT_at h (fun _ z => by cases z)⟩)
  · exact .inr h
mutual
theorem dp_noT {K : PySem.W.Frag} {H : Hp} : ∀ (d : PyData) {v : V}, Dp K H v d → Dp K (noT H) v d
  | .none, _, .non => .non
  | .bool b, _, .bl _ => .bl b
  | .int i, _, .int _ => .int i
  | .str x, _, .str _ => .str x
  | .list ds, _, .lst h hs => .lst (sqL_noT h) (dpAll_noT ds hs)
  | .tuple ds, _, .tup h hs => .tup (sqT_noT h) (dpAll_noT ds hs)
  | .dict _, _, h => nomatch h
theorem dpAll_noT {K : PySem.W.Frag} {H : Hp} : ∀ (ds : List PyData) {vs : List V}, DpAll K H vs ds → DpAll K (noT H) vs ds
  | [], _, .nil => .nil
  | d :: ds, _, .cons h hs => .cons (dp_noT d h) (dpAll_noT ds hs)
end
end RS
set_option Elab.async false
set_option maxRecDepth 100000
set_option maxHeartbeats 4000000
set_option pp.maxSteps 400
namespace RS
open PySem PySem.Spec PyProof.Rows L2 GX LM
/-! ### the texts that are written -/
theorem cnt_joinS {S : List Nat} (hS : S.count 40 = 0) : ∀ ps : List (List Nat), (TL.joinL S ps).count 40 = (ps.map (·.count 40)).sum
  | [] => rfl
  | [p] => by simp [TL.joinL]
  | p :: q :: r => by
    have ih := cnt_joinS hS (q :: r)
    show (p ++ (S ++ TL.joinL S (q :: r))).count 40 = _
    rw [List.count_append, List.count_append, ih, hS]
    simp only [List.map_cons, List.sum_cons]
    omega
theorem part_w40 : ∀ c < 4, ∀ b : Bool, w40 (partS (c, b)) = 0 := by decide +kernel
theorem textO_sp {os : List (Nat × Bool)} (l4 : os.length ≤ 4) (h : ∀ p ∈ os, p.1 < 4) : SpT 72 7 (textO os) := by
  refine ⟨Nat.le_trans (order_len l4 h).2 (by decide), ?_⟩
  unfold w40 textO
  rw [TL.join_eq, TL.tl_join, cnt_joinS (by decide +kernel), List.map_map, List.map_map]
  have := sum_le ((fun x => List.count 40 x) ∘ TL.tl ∘ partS) 0 os fun q hq => Nat.le_of_eq (part_w40 q.1 (h q hq) q.2)
  exact Nat.le_trans this (by omega)
theorem num_w40 : ∀ n < 40, w40 (numS n) = 0 := by decide +kernel
mutual
theorem wds_w40 {w : Nat} : ∀ d : PyData, okP w d → ((wds d).map w40).sum + 1 ≤ (leaf d).length
  | .int i, h => by
    unfold okP at h
    simp only [wds, leaf, List.map_cons, List.map_nil, List.sum_cons, List.sum_nil, List.length_singleton]
    have := num_w40 i.toNat (by omega)
    omega
  | .tuple ds, h => by
    unfold okP at h
    have ih := wdss_w40 ds h.2.2
    have h1 : w40 opS = 1 := by decide +kernel
    have h2 : w40 clS = 0 := by decide +kernel
    simp only [wds, leaf, List.map_cons, List.map_append, List.map_nil, List.sum_cons, List.sum_append, List.sum_nil]
    omega
  | .none, h => by simp [okP] at h
  | .bool _, h => by simp [okP] at h
  | .str _, h => by simp [okP] at h
  | .list _, h => by simp [okP] at h
  | .dict _, h => by simp [okP] at h
theorem wdss_w40 {w : Nat} : ∀ ds : List PyData, okPs w ds → ((wdss ds).map w40).sum + ds.length ≤ (leafs ds).length
  | [], _ => by simp [wdss, leafs]
  | d :: ds, h => by
    unfold okPs at h
    have h1 := wds_w40 d h.1
    have h2 := wdss_w40 ds h.2
    simp only [wdss, leafs, List.map_append, List.sum_append, List.length_append, List.length_cons]
    omega
end
theorem textP_sp {m w : Nat} {d : PyData} (h : OkPlan m w d) (h8 : m ≤ 8) : SpT 72 7 (textP d) := by
  have l : (leaf d).length = m := by rw [h.all.length_eq, List.length_range]
  have wl := wds_len d h.ok
  have wc := wds_w40 d h.ok
  rw [text_join h.ok]
  refine ⟨Nat.le_trans (len_join22 _) ?_, ?_⟩
  · have := sum_le (fun x : Str => x.length + 1) 3 (wds d) fun x hx => by
      have := (wds_ok d h.ok x hx).1
      omega
    omega
  · rw [w40_join]
    omega
def oddT : List Str := ["", " ", "0", "( )", "( 0 )", "( 0 1", "0 1", ")", "0 up", "0 up,", ", 0 up", "0 up,0 up", "0  up", "( ( 0 1 ) )"]
theorem oddT_ok : ∀ x ∈ oddT, x.length ≤ 720 ∧ w40 x ≤ 63 := by decide +kernel
theorem oddT_sp {x : Str} (h : x ∈ oddT) : SpT 720 63 x := ⟨(oddT_ok x h).1, (oddT_ok x h).2⟩
/-- the bounds behind i deeds -/
def bL : Nat → Nat
  | 0 => 72
  | i + 1 => 2 * bL i + 20
def bN : Nat → Nat
  | 0 => 7
  | i + 1 => 2 * bN i + 1
theorem bLN : ∀ i ≤ 3, bL i ≤ 720 ∧ bN i ≤ 63 := by decide
/-! ### what is due -/
theorem ordDue_fit {n : Nat} (h4 : n ≤ 4) (t : Str) : few (ordDue n t) ∧ (ordDue n t).depth ≤ 20 := by
  unfold ordDue
  cases readO t with
  | inl i => exact ⟨by simp [few, fews], by simp [PyData.depth, PyData.depthAll]⟩
  | inr os =>
    dsimp only
    split
    · rename_i h
      rw [Bool.and_eq_true, decide_eq_true_eq] at h
      have hl : os.length ≤ n := by
        have := (pigeon n (os.map (·.1)) h.2 fun c hc => by
          obtain ⟨q, hq, rfl⟩ := List.mem_map.mp hc
          exact of_decide_eq_true (List.all_eq_true.mp h.1 q hq)).1
        rwa [List.length_map] at this
      refine ⟨?_, ?_⟩
      · unfold orderD few
        refine ⟨by rw [List.length_map]; omega, fews_iff.mpr fun d hd => ?_⟩
        obtain ⟨q, _, rfl⟩ := List.mem_map.mp hd
        simp [partD, few, fews]
      · unfold orderD
        simp only [PyData.depth]
        have := depthLe7 (n := 2) (ds := os.map partD) fun d hd => by
          obtain ⟨q, _, rfl⟩ := List.mem_map.mp hd
          simp [partD, PyData.depth, PyData.depthAll]
        omega
    · exact ⟨by simp [few, fews], by simp [PyData.depth, PyData.depthAll]⟩
theorem planDue_fit {m n : Nat} {t : Str} (hm : m ≤ 40) (hn : n ≤ 6) (hm8 : m ≤ 8) (tl : t.length ≤ 720) : few (planDue m n t) ∧ (planDue m n t).depth ≤ 20 ∧ noL (planDue m n t) = true := by
  unfold planDue
  cases e : readW (Txt.split t sp1) with
  | inl i => exact ⟨by simp [few, fews], by simp [PyData.depth, PyData.depthAll], by simp [noL, noLs]⟩
  | inr d =>
    dsimp only
    split
    · rename_i h
      obtain ⟨pd, _⟩ := plan_fit tl e
      have ok := okPlan_of pd (okG_iff.mp h) hm
      have dd := ok.depth
      exact ⟨okP_few (by omega) d ok.ok, by omega, (pl_any pd).2⟩
    · exact ⟨by simp [few, fews], by simp [PyData.depth, PyData.depthAll], by simp [noL, noLs]⟩
/-! ### errors as the law looks at them -/
structure Err22 (K : PySem.W.Frag) (SE : Addr) (C15 : Nat → Addr) (C : Addr) (j : Nat) : Prop where
  own : Own15 K C15 C j
  exm : PySem.W.exmOne K (.ref C) (.ref SE) = some true
  pl : ¬ (j = 3 ∨ j = 2 ∨ j = 14)
structure ErrN22 (K : PySem.W.Frag) (SE : Addr) (C15 : Nat → Addr) (C : Addr) : Prop where
  own : Own15 K C15 C 14
  exm : PySem.W.exmOne K (.ref C) (.ref SE) = some true
  xf : XfC K C
  plc : PySem.W.findIn K (.ref C) "place" = some none
theorem err_22 {K : PySem.W.Frag} {SE C : Addr} {C15 : Nat → Addr} {j : Nat} {nm : Str} {cl : List (Str × Addr)} {H1 H2 : Hp} {Q1 : VK} (e : Err22 K SE C15 C j) (hn : nm15.getD j "" = nm) (so : ∀ b o, off cl H1 b = some o → H2 b = some o) (told : ∀ t H', Same H1 H' → H' t = some (.tup [.str nm, .int 0]) → Q1 (.ref t) H') :
    ErrOk K SE C15 Q1 (.ref C) none (back cl H1 H2) :=
  ⟨C, j, 0, rfl, e.own, e.exm, (fun d z => nomatch z), by unfold ErrV; rw [if_neg e.pl], fun H4 t s4 ht4 => by
    rw [hn] at ht4
    exact told _ _ (fun b o z => s4 b o (back_same so b o z)) ht4⟩
theorem err_N22 {K : PySem.W.Frag} {SE C dd : Addr} {C15 : Nat → Addr} {n : Nat} {cl : List (Str × Addr)} {H1 H2 : Hp} {Q1 : VK} (e : ErrN22 K SE C15 C) (so : ∀ b o, off cl H1 b = some o → H2 b = some o) (lo : Loose cl H2) (hdd : H2 dd = some (.xd [("place", .int (n : Nat))])) (told : ∀ t H', Same H1 H' → H' t = some (.tup [.str "BadText", .int (n : Nat)]) → Q1 (.ref t) H') :
    ErrOk K SE C15 Q1 (.ref C) (some dd) (back cl H1 H2) :=
  ⟨C, 14, n, rfl, e.own, e.exm, (fun d z => by cases z; exact ⟨_, back_at lo hdd⟩), by
    unfold ErrV
    rw [if_pos (.inr (.inr rfl))]
    exact ⟨e.xf, e.plc, dd, _, rfl, back_at lo hdd, by simp [List.lookup]⟩, fun H4 t s4 ht4 => told _ _ (fun b o z => s4 b o (back_same so b o z)) ht4⟩
theorem off_back22 {cl : List (Str × Addr)} {G H' : Hp} (lo : Loose cl H') : off cl (back cl G H') = H' := by
  funext b
  by_cases h : Cell cl b
  · rw [off_c h, lo b h]
  · rw [off_n h, back_n h]
theorem tup_off22 {X : Cx} {σ : L2.St} {H G H' : Hp} {t : Addr} {xs : List V} (c : Caught X σ H G) (s : Same G H') (h : H' t = some (.tup xs)) : off X.env.cells H' t = some (.tup xs) := by
  rw [off_n fun z => ?_]
  · exact h
  · obtain ⟨o, v, e, _⟩ := c.held t z
    rw [s _ _ e] at h
    exact pin_tup (Option.some.inj h)
/-! ### what stays -/
theorem dp_ext22 {K : PySem.W.Frag} {H H' : Hp} (s : LamX.ExtN H H') {d : PyData} {v : V} (h : Dp K H v d) : Dp K H' v d := dp_same (noT_ext s) _ (dp_noT d h)
theorem tabS_x22 {H H' : Hp} {B L P : Addr} {q : Str} (b : BoxAt H B L) (s : SameX B L H H') (t : LamX.TabS H P q) : LamX.TabS H' P q := by
  obtain ⟨_, ⟨st, hb'⟩, ⟨ms, hl'⟩⟩ := b
  obtain ⟨ps, h1, h2, h3⟩ := t
  refine ⟨ps, s _ _ (fun z => by rw [z, hb'] at h1; cases h1) (fun z => by rw [z, hl'] at h1; cases h1) h1, h2, fun pos cv hc => ?_⟩
  obtain ⟨c, e1, e2⟩ := h3 pos cv hc
  refine ⟨c, e1, s _ _ (fun z => ?_) (fun z => ?_) e2⟩
  · rw [z, hb'] at e2
    unfold LamX.CodeO at e2
    cases e2
  · rw [z, hl'] at e2
    unfold LamX.CodeO at e2
    cases e2
theorem tab_x22 {H H' : Hp} {B L p : Addr} (b : BoxAt H B L) (s : SameX B L H H') (h : Tab H p) : Tab H' p := by
  obtain ⟨_, ⟨st, hb⟩, ⟨ms, hl⟩⟩ := b
  have h' : H p = some (.ext (TabE p)) := h
  exact s _ _ (fun z => by rw [z, hb] at h'; cases h') (fun z => by rw [z, hl] at h'; cases h') h'
/-- the drawer, the tables, the odd texts -/
structure R22 (B L pK pL pF pZ od : Addr) (q : Str) (H : Hp) : Prop where
  box : BoxAt H B L
  tk : Tab H pK
  tl : Tab H pL
  tf : Tab H pF
  tz : LamX.TabS H pZ q
  nod : od ≠ B ∧ od ≠ L
  od : H od = some (.lst (oddT.map V.str))
section
variable {B L pK pL pF pZ od : Addr} {q : Str} {H H' : Hp}
theorem R22.ext (g : R22 B L pK pL pF pZ od q H) (e : LamX.ExtN H H') (t : LamX.TabS H' pZ q) : R22 B L pK pL pF pZ od q H' := by
  obtain ⟨⟨n, ⟨st, hb⟩, ⟨ms, hl⟩⟩, tk, tl, tf, _, nod, hod⟩ := g
  exact ⟨⟨n, ⟨st, e _ _ hb fun ps z => nomatch z⟩, ⟨ms, e _ _ hl fun ps z => nomatch z⟩⟩, e _ _ tk (fun ps z => nomatch z), e _ _ tl (fun ps z => nomatch z), e _ _ tf (fun ps z => nomatch z), t, nod, e _ _ hod (fun ps z => nomatch z)⟩
theorem R22.same (g : R22 B L pK pL pF pZ od q H) (s : Same H H') : R22 B L pK pL pF pZ od q H' := g.ext (LamX.ExtN.of s) (g.tz.ext s)
theorem R22.x (g : R22 B L pK pL pF pZ od q H) (s : SameX B L H H') (b : BoxAt H' B L) : R22 B L pK pL pF pZ od q H' := ⟨b, tab_x22 g.box s g.tk, tab_x22 g.box s g.tl, tab_x22 g.box s g.tf, tabS_x22 g.box s g.tz, g.nod, s _ _ g.nod.1 g.nod.2 g.od⟩
end
/-- ... and a turn's kinds and lengths -/
structure V22 (K : PySem.W.Frag) (B L pK pL pF pZ od : Addr) (q : Str) (vk : V) (ks : List Bool) (la : Addr) (ls : List Nat) (H : Hp) : Prop where
  r : R22 B L pK pL pF pZ od q H
  k : Dp K H vk (kindsD ks)
  nla : la ≠ B ∧ la ≠ L
  l : H la = some (.lst (ls.map fun n => V.int (n : Nat)))
section
variable {K : PySem.W.Frag} {B L pK pL pF pZ od la : Addr} {q : Str} {vk : V} {ks : List Bool} {ls : List Nat} {H H' : Hp}
theorem V22.ext (g : V22 K B L pK pL pF pZ od q vk ks la ls H) (e : LamX.ExtN H H') (t : LamX.TabS H' pZ q) : V22 K B L pK pL pF pZ od q vk ks la ls H' := ⟨g.r.ext e t, dp_ext22 e g.k, g.nla, e _ _ g.l fun ps z => nomatch z⟩
theorem V22.same (g : V22 K B L pK pL pF pZ od q vk ks la ls H) (s : Same H H') : V22 K B L pK pL pF pZ od q vk ks la ls H' := g.ext (LamX.ExtN.of s) (g.r.tz.ext s)
theorem V22.x (g : V22 K B L pK pL pF pZ od q vk ks la ls H) (s : SameX B L H H') (b : BoxAt H' B L) : V22 K B L pK pL pF pZ od q vk ks la ls H' := ⟨g.r.x s b, dp_x g.r.box s _ (kinds_noL ks) g.k, g.nla, s _ _ g.nla.1 g.nla.2 g.l⟩
theorem V22.dl (g : V22 K B L pK pL pF pZ od q vk ks la ls H) : Dp K H (.ref la) (lensD ls) := .lst (SqL.of g.l) (dpNats ls)
end
theorem tabS_upd22 {H : Hp} {P a : Addr} {q : Str} {xs u : List V} (t : LamX.TabS H P q) (h : H a = some (.lst xs)) : LamX.TabS (upd H a (.lst u)) P q := by
  obtain ⟨ps, h1, h2, h3⟩ := t
  refine ⟨ps, (upd_ne (fun z => by rw [z, h] at h1; cases h1)).trans h1, h2, fun pos cv hc => ?_⟩
  obtain ⟨c, e1, e2⟩ := h3 pos cv hc
  refine ⟨c, e1, (upd_ne (fun z => ?_)).trans e2⟩
  rw [z, h] at e2
  unfold LamX.CodeO at e2
  cases e2
end RS
set_option Elab.async false
set_option maxRecDepth 100000
set_option maxHeartbeats 8000000
set_option pp.maxSteps 400
namespace RS
open PySem PySem.Spec PyProof.Rows L2 GX LM
abbrev qL22 : Str := (envOfC "law" (defScope sLaw) 0 0 (.ref 0)).qual ++ "<lambda>"
abbrev NT22 : List Str := ["_law_script", "_law_box", "_law_odd", "_law_turn", "_law_kinds_here", "_law_order_here", "_law_lengths_here", "_law_ways", "_law_one", "_law_other", "_law_deed", "_law_due", "_law_again", "_law_found"]
structure Parts22 (P : Program) (w : World) (K : PySem.W.Frag) (mg : Str → Option Value) (base : Heap) (pK pL pF C1 C6 CT SE : Addr) (C15 : Nat → Addr) : Prop where
  begun : Cal P w K mg base CX0 1 "_law_begun" ["_law_script"] (spBegun K)
  take : Cal P w K mg base CX0 1 "_law_take" ["_law_box", "_law_many"] spTake
  kinds : Cal P w K mg base CX0 2 "_law_kinds" ["_law_box"] (spKinds K)
  order : Cal P w K mg base CX0 2 "_law_order" ["_law_box", "_law_kinds_here"] (spOrder K)
  alike : Cal P w K mg base CX0 42 "_law_alike" ["_law_found", "_law_due"] (spAlike K 40)
  lens : Cal P w K mg base CX0 2 "_law_lengths" ["_law_box", "_law_most"] spLens
  plan : Cal P w K mg base CX0 2 "_law_plan" ["_law_box", "_law_runs", "_law_ways"] (spLPlan K)
  spoilt : Cal P w K mg base CX0 2 "_law_spoilt" ["_law_box", "_law_text"] spSpoilt
  od : Cal P w K mg base CX0 2 "_law_order_due" ["_law_kinds_here", "_law_text"] (spOD K)
  pd : Cal P w K mg base CX0 66 "_law_plan_due" ["_law_many", "_law_ways", "_law_text"] (spPD K)
  told : Cal P w K mg base CX0 7 "_law_told" ["_law_work"] (spTold P w K mg base SE C15 6)
  wo : Cal P w K mg base CX0 4 "written_order" ["kinds", "order"] (spWO K pK)
  wp : Cal P w K mg base CX0 43 "written_plan" ["lengths", "ways", "plan"] (spWP K pL)
  ro : Cal P w K mg base (L2.CX P w) 4 "read_order" ["kinds", "text"] (spROA K pK pF C1 CT)
  rp : Cal P w K mg base (L2.CX P w) 5 "read_plan" ["lengths", "ways", "text"] (spRPA K pL pF C6 CT)
theorem ordDue_inl {n i : Nat} {t : Str} (h : readO t = .inl i) : ordDue n t = .tuple [.str "BadText", .int (i : Nat)] := by
  unfold ordDue
  rw [h]
theorem readO_ne {t : Str} {os : List (Nat × Bool)} (h : readO t = .inr os) : os ≠ [] := fun z => by
  have := (readO_len h).1
  rw [z] at this
  exact parts_some t (List.eq_nil_of_length_eq_zero this.symm)
theorem ordDue_good {n : Nat} {t : Str} {os : List (Nat × Bool)} (h : readO t = .inr os) (o : OkOrder n os) : ordDue n t = orderD os := by
  unfold ordDue
  rw [h]
  exact if_pos ((ord_good (readO_ne h)).mpr o)
theorem ordDue_bad {n : Nat} {t : Str} {os : List (Nat × Bool)} (h : readO t = .inr os) (o : ¬ OkOrder n os) : ordDue n t = .tuple [.str "BadOrder", .int 0] := by
  unfold ordDue
  rw [h]
  exact if_neg fun z => o ((ord_good (readO_ne h)).mp z)
theorem planDue_good {m n : Nat} {t : Str} {d : PyData} (h : readW (Txt.split t sp1) = .inr d) (o : OkG m n d) : planDue m n t = d := by
  unfold planDue
  rw [h]
  exact if_pos (okG_iff.mpr o)
theorem planDue_bad {m n : Nat} {t : Str} {d : PyData} (h : readW (Txt.split t sp1) = .inr d) (o : ¬ OkG m n d) : planDue m n t = .tuple [.str "BadPlan", .int 0] := by
  unfold planDue
  rw [h]
  exact if_neg fun z => o (okG_iff.mp z)
def spLaw22 (K : PySem.W.Frag) (pK pL pF pZ : Addr) : Sp := fun vs H Q _ => ∃ (a : Addr) (ns : List Int), vs = [.ref a] ∧ SqL K H a (ns.map V.int) ∧ Tab H pK ∧ Tab H pL ∧ Tab H pF ∧ LamX.TabS H pZ qL22 ∧ ∀ H', Tab H' pK → Tab H' pL → Tab H' pF → Q (.bl true) H'
section
variable {P : Program} {w : World} {K : PySem.W.Frag} {mg : Str → Option Value} {base : Heap}
theorem scLaw22 : FnScope NT22 ["_law_script"] (defScope sLaw) := ⟨rfl, rfl, rfl, by decide +kernel, rfl, by decide +kernel, by decide +kernel⟩
theorem law22_fn {f c pK pL pF pZ C1 C6 CT SE : Addr} {C15 : Nat → Addr} {oc kV doc pm ct : Value} {od an : Option Addr} {osl : Array (Option Value)} (lk : K.lookup f = some ⟨oc, od, .func (PySem.W.fnOf "law" "law" (defArgs sLaw) (defBody sLaw) (defScope sLaw) .none kV doc pm an (.ref c) ct), osl⟩) (hcd : PySem.W.codeIn K (.ref c) "law" = true)
    (T : Txt K mg) (TB : LamX.TabB base mg c pZ) (e1 : Err22 K SE C15 C1 1) (e6 : Err22 K SE C15 C6 6) (eT : ErrN22 K SE C15 CT) (C : Parts22 P w K mg base pK pL pF C1 C6 CT SE C15) : FnOk P w K mg base CX0 67 f (PySem.W.fnOf "law" "law" (defArgs sLaw) (defBody sLaw) (defScope sLaw) .none kV doc pm an (.ref c) ct) ["_law_script"] (spLaw22 K pK pL pF pZ) := by
  have sc := scLaw22
  refine fn_of0 lk hcd sc (fun vs H Q E h => ?_) (fun f A outer s H vs Q E hr h => ?_)
  · obtain ⟨a, ns, rfl, _⟩ := h
    rfl
  · obtain ⟨a, ns, rfl, hS, tk, tl, tf, tz, k⟩ := h
    have hu := hr.units
    have big : (1000 : Nat) ≤ sizeLine := by decide
    refine ⟨_, (pss_cons (ps_set (i := 1) sc.nd rfl (Or.inl rfl) (pe_c C.begun hr (by decide) (by rfl) pass0 (pa_cons (pv 0) pa_nil))) (pss_cons (ps_set (i := 2) sc.nd rfl (Or.inl rfl) (pe_lst (pa_cons pe_str (pa_cons pe_str (pa_cons pe_str (pa_cons pe_str (pa_cons pe_str (pa_cons pe_str (pa_cons pe_str (pa_cons pe_str (pa_cons pe_str (pa_cons pe_str (pa_cons pe_str (pa_cons pe_str (pa_cons pe_str pa_nil))))))))))))))) (pss_cons (ps_expr (pe_bm PySem.F.plainAttrs_list PySem.F.slot_list_append PySem.F.type_list_append mt_append (pv 2) (pa_cons pe_str pa_nil))) (pss_cons (ps_for PassesOwn.never rfl (pi_range1 (by rfl) T.range (pa_cons pe_int pa_nil)) (pg_name (i := 3) sc.nd rfl (Or.inl rfl)) (pss_cons (ps_set (i := 4) sc.nd rfl (Or.inr rfl) (pe_c C.kinds hr (by decide) (by rfl) pass0 (pa_cons (pv 1) pa_nil))) (pss_cons (ps_set (i := 5) sc.nd rfl (Or.inl rfl) (pe_c C.order hr (by decide) (by rfl) pass0 (pa_cons (pv 1) (pa_cons (pv 4) pa_nil)))) (pss_cons (ps_set (i := 6) sc.nd rfl (Or.inr rfl) (pe_c C.lens hr (by decide) (by rfl) pass0 (pa_cons (pv 1) (pa_cons pe_int pa_nil)))) (pss_cons (ps_set (i := 7) sc.nd rfl (Or.inr rfl) (pe_op op_add pe_int (pe_c C.take hr (by decide) (by rfl) pass0 (pa_cons (pv 1) (pa_cons pe_int pa_nil))))) (pss_cons (ps_set (i := 8) sc.nd rfl (Or.inr rfl) (pe_c C.wo hr (by decide) (by rfl) pass0 (pa_cons (pv 4) (pa_cons (pv 5) pa_nil)))) (pss_cons (ps_set (i := 9) sc.nd rfl (Or.inr rfl) (pe_c C.wp hr (by decide) (by rfl) pass0 (pa_cons (pv 6) (pa_cons (pv 7) (pa_cons (pe_c C.plan hr (by decide) (by rfl) pass0 (pa_cons (pv 1) (pa_cons (pe_listRg rfl (by rfl) T.list_ (prg_1 (by rfl) T.range (pe_callB call_len_seq (by rfl) T.len PySem.boot_len (pa_cons (pv 6) pa_nil)))) (pa_cons (pv 7) pa_nil)))) pa_nil))))) (pss_cons (ps_for PassesOwn.never rfl (pi_range1 (by rfl) T.range (pa_cons (pe_c C.take hr (by decide) (by rfl) pass0 (pa_cons (pv 1) (pa_cons pe_int pa_nil))) pa_nil)) (pg_name (i := 10) sc.nd rfl (Or.inl rfl)) (pss_one (ps_asg (pe_tup (pa_cons (pe_c C.spoilt hr (by decide) (by rfl) pass0 (pa_cons (pv 1) (pa_cons (pv 8) pa_nil))) (pa_cons (pe_c C.spoilt hr (by decide) (by rfl) pass0 (pa_cons (pv 1) (pa_cons (pv 9) pa_nil))) pa_nil))) (pg_tup (by rfl) (pgs_cons (pg_name (i := 8) sc.nd rfl (Or.inr rfl)) (pgs_cons (pg_name (i := 9) sc.nd rfl (Or.inr rfl)) pgs_nil)))))) (pss_cons (ps_if (pt_cmpR op_eq (pe_c C.take hr (by decide) (by rfl) pass0 (pa_cons (pv 1) (pa_cons pe_int pa_nil))) pe_int (nomark _)) (pss_one (ps_asg (pe_tup (pa_cons (pe_ix ix_list (pv 2) (pe_c C.take hr (by decide) (by rfl) pass0 (pa_cons (pv 1) (pa_cons pe_int pa_nil))) (fun _ _ => rfl)) (pa_cons (pe_ix ix_list (pv 2) (pe_c C.take hr (by decide) (by rfl) pass0 (pa_cons (pv 1) (pa_cons pe_int pa_nil))) (fun _ _ => rfl)) pa_nil))) (pg_tup (by rfl) (pgs_cons (pg_name (i := 8) sc.nd rfl (Or.inr rfl)) (pgs_cons (pg_name (i := 9) sc.nd rfl (Or.inr rfl)) pgs_nil))))) pss_nil) (pss_cons (ps_set (i := 11) sc.nd rfl (Or.inl rfl) (pe_lst (pa_cons (pe_c C.od hr (by decide) (by rfl) pass0 (pa_cons (pv 4) (pa_cons (pv 8) pa_nil))) (pa_cons (pe_c C.pd hr (by decide) (by rfl) pass0 (pa_cons (pe_callB call_len_seq (by rfl) T.len PySem.boot_len (pa_cons (pv 6) pa_nil)) (pa_cons (pv 7) (pa_cons (pv 9) pa_nil)))) pa_nil)))) (pss_one (ps_for PassesOwn.never rfl (pi_range1 (by rfl) T.range (pa_cons pe_int pa_nil)) (pg_name (i := 12) sc.nd rfl (Or.inl rfl)) (pss_cons (ps_set (i := 13) sc.nd rfl (Or.inl rfl) (pe_lst (pa_cons (pe_cP C.told hr (by decide) (fun _ => rfl) (by rfl) (pa_cons (pe_lam TB rfl (LamX.lamS_by (sc := defScope sLaw) (by decide +kernel)) (by rfl)) pa_nil)) pa_nil))) (pss_cons (ps_expr (pe_bm PySem.F.plainAttrs_list PySem.F.slot_list_append PySem.F.type_list_append mt_append (pv 13) (pa_cons (pe_cP C.told hr (by decide) (fun _ => rfl) (by rfl) (pa_cons (pe_lam TB rfl (LamX.lamS_by (sc := defScope sLaw) (by decide +kernel)) (by rfl)) pa_nil)) pa_nil))) (pss_one (ps_if (pt_not (pt_val (pe_c C.alike hr (by decide) (by rfl) pass0 (pa_cons (pv 13) (pa_cons (pv 11) pa_nil))))) (pss_one (ps_ret pe_bl)) pss_nil)))))))))))))))) (pss_one (ps_ret pe_bl)))))), ?_⟩
    refine ⟨_, rfl, a, ns, rfl, hS, fun H0 B L s0 _ _ bx0 => ?_⟩
    refine ⟨by show 13 ≤ sizeLine; decide, fun od nod => ?_⟩
    have nodB := bx0.nb nod
    rw [show (HO.lst [.str (Str.ofString ""), .str (Str.ofString " "), .str (Str.ofString "0"), .str (Str.ofString "( )"), .str (Str.ofString "( 0 )"), .str (Str.ofString "( 0 1"), .str (Str.ofString "0 1"), .str (Str.ofString ")"), .str (Str.ofString "0 up"), .str (Str.ofString "0 up,"), .str (Str.ofString ", 0 up"), .str (Str.ofString "0 up,0 up"), .str (Str.ofString "0  up")]) = HO.lst ((oddT.take 13).map V.str) from rfl]
    have s1 := sameNew (o := .lst ((oddT.take 13).map V.str)) (Same.refl H0) nod
    have hod : upd H0 od (.lst ((oddT.take 13).map V.str)) od = some (.lst ((oddT.take 13).map V.str)) := upd_same
    generalize upd H0 od (.lst ((oddT.take 13).map V.str)) = H1 at s1 hod ⊢
    try dsimp only [gName, List.set, start]
    refine ⟨_, rfl, .inl ⟨rfl, _, SqL.of hod⟩, od, _, _, rfl, rfl, hod, small1000 (by decide), ?_⟩
    rw [show (HO.lst ((oddT.take 13).map V.str ++ [.str (Str.ofString "( ( 0 1 ) )")])) = HO.lst (oddT.map V.str) from rfl]
    have r2 : R22 B L pK pL pF pZ od qL22 (upd H1 od (.lst (oddT.map V.str))) := by
      have sA := s0.trans (sameNew (o := .lst (oddT.map V.str)) (Same.refl H0) nod)
      have e : upd H1 od (.lst (oddT.map V.str)) = upd H1 od (.lst (oddT.map V.str)) := rfl
      have ne : ∀ {b : Addr} {o : HO}, H0 b = some o → upd H1 od (.lst (oddT.map V.str)) b = some o := fun {b o} z => (upd_ne (ne_of_none z nod)).trans (s1 _ _ z)
      have sB : Same H0 (upd H1 od (.lst (oddT.map V.str))) := fun b o z => ne z
      have sC := s0.trans sB
      exact ⟨bx0.same sB, sC _ _ tk, sC _ _ tl, sC _ _ tf, tz.ext sC, nodB, upd_same⟩
    generalize upd H1 od (.lst (oddT.map V.str)) = H2 at r2 ⊢
    refine ⟨_, rfl, by decide, by decide, ?_⟩
    rw [show (6 : Int).toNat = 6 from rfl]
    refine for_range (fun i σ H' => ∃ v3 v4 v5 v6 v7 v8 v9 v10 v11 v12 v13 : Option V, σ = [some (.ref a), some (.ref B), some (.ref od), v3, v4, v5, v6, v7, v8, v9, v10, v11, v12, v13] ∧ R22 B L pK pL pF pZ od qL22 H')
      ⟨none, none, none, none, none, none, none, none, none, none, none, rfl, r2⟩ ?_ ?_
    · rintro i σ H1 hi ⟨v3, v4, v5, v6, v7, v8, v9, v10, v11, v12, v13, rfl, r1⟩
      try dsimp only [gName, List.set]
      refine ⟨_, rfl, B, L, rfl, r1.box, fun H2 vk ks x2 b2 k1 k4 dk2 => ?_⟩
      have r2 := r1.x x2 b2
      try dsimp only [gName, List.set]
      refine ⟨_, rfl, _, rfl, B, L, vk, ks, rfl, b2, dk2, k1, k4, fun H3 O os xs x3 b3 ok l4 fO hO hd => ?_⟩
      have r3 := r2.x x3 b3
      have dk3 := dp_x b2 x3 _ (kinds_noL ks) dk2
      have nOb := b2.nb fO
      try dsimp only [gName, List.set]
      refine ⟨_, rfl, B, L, 8, rfl, b3, by decide, by decide, fun H4 la ls x4 b4 okl l8 fl hl => ?_⟩
      have g4 : V22 K B L pK pL pF pZ od qL22 vk ks la ls H4 := ⟨r3.x x4 b4, dp_x b3 x4 _ (kinds_noL ks) dk3, b3.nb fl, hl⟩
      have hO4 := x4 _ _ nOb.1 nOb.2 hO
      have hd4 := dpAll_x b3 x4 _ (parts_noL os) hd
      have n1 := okl.one
      have o2 := okl.most
      have lm : (ls.map fun n => V.int (n : Nat)).length = ls.length := List.length_map _
      try dsimp only [gName, List.set]
      refine viaA22 (fun v H' => ∃ n : Nat, v = .int (n : Nat) ∧ 2 ≤ n ∧ n ≤ 6 ∧ V22 K B L pK pL pF pZ od qL22 vk ks la ls H' ∧ H' O = some (.lst xs) ∧ DpAll K H' xs (os.map partD)) (fun Q' fin => ?_) ?_
      · refine ⟨_, rfl, B, L, 5, rfl, b4, by decide, by decide, fun H5 x x5 b5 x0 x1 => ⟨_, _, rfl, rfl, ?_⟩⟩
        obtain ⟨n, hn, n2, n6⟩ : ∃ n : Nat, (2 + x : Int) = (n : Nat) ∧ 2 ≤ n ∧ n ≤ 6 := ⟨(2 + x).toNat, by omega, by omega, by omega⟩
        try dsimp only
        rw [hn]
        exact fin _ _ ⟨n, rfl, n2, n6, g4.x x5 b5, x5 _ _ nOb.1 nOb.2 hO4, dpAll_x b4 x5 _ (parts_noL os) hd4⟩
      rintro _ H5 ⟨n, rfl, n2, n6, g5, hO5, hd5⟩
      try dsimp only [gName, List.set]
      have c4 : ∀ q ∈ os, q.1 < 4 := fun q hq => Nat.lt_of_lt_of_le (ok.col q hq) k4
      refine ⟨_, rfl, _, rfl, vk, .ref O, ks, os, rfl, g5.k, k1, k4, .lst (SqL.of hO5) hd5, ok, l4, g5.r.tk, fun H6 s6 => ?_⟩
      have g6 := g5.same s6
      have sp1 := textO_sp l4 c4
      generalize textO os = t1 at sp1 ⊢
      try dsimp only [gName, List.set]
      refine ⟨_, rfl, _, rfl, _, rfl, _, rfl, la, _, rfl, .inl (SqL.of g6.l), _, rfl, .of_le (by decide) (by rw [lm]; omega) (by decide) (by rw [lm]; omega), fun R nR => ?_⟩
      rw [lm]
      have erg : rgV 0 ((ls.length : Nat) : Int) = (List.range ls.length).map fun n => V.int ((n : Nat) : Int) := by simp [rgV]
      rw [erg]
      have s7 := sameNew (o := .lst ((List.range ls.length).map fun n => V.int ((n : Nat) : Int))) (Same.refl H6) nR
      have hR7 : upd H6 R (.lst ((List.range ls.length).map fun n => V.int ((n : Nat) : Int))) R = some (.lst ((List.range ls.length).map fun n => V.int ((n : Nat) : Int))) := upd_same
      generalize upd H6 R (.lst ((List.range ls.length).map fun n => V.int ((n : Nat) : Int))) = H7 at s7 hR7 ⊢
      have g7 := g6.same s7
      refine ⟨_, rfl, B, L, R, ls.length, n, rfl, g7.r.box, n2, n6, n1, o2, hR7, fun H8 vp d x8 b8 hv okp => ?_⟩
      have g8 := g7.x x8 b8
      refine ⟨.ref la, vp, ls, n, d, rfl, g8.dl, okl, n2, n6, hv, okp, g8.r.tl, fun H9 s9 => ?_⟩
      have g9 := g8.same s9
      have sp2 := textP_sp okp l8
      generalize textP d = t2 at sp2 ⊢
      try dsimp only [gName, List.set]
      refine ⟨_, rfl, B, L, 4, rfl, g9.r.box, by decide, by decide, fun H10 x x10 b10 x0 x1 => ⟨_, rfl, by omega, by omega, ?_⟩⟩
      have g10 := g9.x x10 b10
      obtain ⟨cn, ecn, cn4⟩ : ∃ cn : Nat, x.toNat = cn ∧ cn < 4 := ⟨_, rfl, by omega⟩
      rw [ecn]
      refine for_range (fun c σ H' => ∃ (v10 : Option V) (t1 t2 : Str), σ = [some (.ref a), some (.ref B), some (.ref od), some (.int (0 + (i : Nat))), some vk, some (.ref O), some (.ref la), some (.int (n : Nat)), some (.str t1), some (.str t2), v10, v11, v12, v13] ∧ V22 K B L pK pL pF pZ od qL22 vk ks la ls H' ∧ SpT (bL c) (bN c) t1 ∧ SpT (bL c) (bN c) t2)
        ⟨v10, t1, t2, rfl, g10, sp1, sp2⟩ ?_ ?_
      · rintro c σ HA hc ⟨v10, t1, t2, rfl, gA, q1, q2⟩
        try dsimp only [gName, List.set]
        have bb := bLN c (by omega)
        refine ⟨_, rfl, _, rfl, B, L, t1, bL c, bN c, rfl, gA.r.box, q1, bb.1, fun HB u1 xB bB w1 => ?_⟩
        have gB := gA.x xB bB
        refine ⟨_, rfl, _, rfl, B, L, t2, bL c, bN c, rfl, gB.r.box, q2, bb.1, fun HC u2 xC bC w2 => ?_⟩
        have gC := gB.x xC bC
        refine ⟨by show 2 ≤ sizeLine; decide, fun TT nTT => ?_⟩
        have sD := sameNew (o := .tup [.str u1, .str u2]) (Same.refl HC) nTT
        have hT : upd HC TT (.tup [.str u1, .str u2]) TT = some (.tup [.str u1, .str u2]) := upd_same
        generalize upd HC TT (.tup [.str u1, .str u2]) = HD at sD hT ⊢
        exact ⟨TT, _, rfl, SqT.of hT, rfl, _, _, rfl, _, _, rfl, rfl, _, u1, u2, rfl, gC.same sD, w1, w2⟩
      rintro σ HA ⟨v10, t1, t2, rfl, gA, q1, q2⟩
      have bb := bLN cn (by omega)
      have q1 := q1.le bb.1 bb.2
      have q2 := q2.le bb.1 bb.2
      try dsimp only [gName, List.set]
      refine viaS22 (fun σ' H' => ∃ (t1 t2 : Str), σ' = [some (.ref a), some (.ref B), some (.ref od), some (.int (0 + (i : Nat))), some vk, some (.ref O), some (.ref la), some (.int (n : Nat)), some (.str t1), some (.str t2), v10, v11, v12, v13] ∧ V22 K B L pK pL pF pZ od qL22 vk ks la ls H' ∧ SpT 720 63 t1 ∧ SpT 720 63 t2) (fun nx fin => ?_) ?_
      · refine ⟨_, rfl, B, L, 5, rfl, gA.r.box, by decide, by decide, fun HB y xB bB y0 y1 => ⟨rfl, _, rfl, ?_⟩⟩
        have gB := gA.x xB bB
        by_cases yz : y = 0
        · refine iteT' (decide_eq_true (by rw [yz])) ?_
          refine ⟨_, rfl, _, rfl, B, L, 14, rfl, gB.r.box, by decide, by decide, fun HC p1 xC bC p10 p11 => ?_⟩
          have gC := gB.x xC bC
          obtain ⟨m1, rfl⟩ : ∃ q : Nat, p1 = (q : Nat) := ⟨p1.toNat, by omega⟩
          have l14 : oddT.length = 14 := rfl
          obtain ⟨u1, eu1⟩ : ∃ u, oddT[m1]? = some u := ⟨_, List.getElem?_eq_getElem (by omega)⟩
          refine ⟨od, _, m1, .str u1, rfl, rfl, SqL.of gC.r.od, atI_nat (by rw [List.getElem?_map, eu1]; rfl), ?_⟩
          refine ⟨_, rfl, _, rfl, B, L, 14, rfl, gC.r.box, by decide, by decide, fun HD p2 xD bD p20 p21 => ?_⟩
          have gD := gC.x xD bD
          obtain ⟨m2, rfl⟩ : ∃ q : Nat, p2 = (q : Nat) := ⟨p2.toNat, by omega⟩
          obtain ⟨u2, eu2⟩ : ∃ u, oddT[m2]? = some u := ⟨_, List.getElem?_eq_getElem (by omega)⟩
          refine ⟨od, _, m2, .str u2, rfl, rfl, SqL.of gD.r.od, atI_nat (by rw [List.getElem?_map, eu2]; rfl), by show 2 ≤ sizeLine; decide, fun TT nTT => ?_⟩
          have sE := sameNew (o := .tup [.str u1, .str u2]) (Same.refl HD) nTT
          have hT : upd HD TT (.tup [.str u1, .str u2]) TT = some (.tup [.str u1, .str u2]) := upd_same
          generalize upd HD TT (.tup [.str u1, .str u2]) = HE at sE hT ⊢
          refine ⟨TT, _, rfl, SqT.of hT, rfl, _, _, rfl, _, _, rfl, rfl, ?_⟩
          exact fin _ _ ⟨u1, u2, rfl, gD.same sE, oddT_sp (List.mem_of_getElem? eu1), oddT_sp (List.mem_of_getElem? eu2)⟩
        · exact iteF' (decide_eq_false fun z => yz (V.int.inj z)) (fin _ _ ⟨t1, t2, rfl, gB, q1, q2⟩)
      rintro σ HB ⟨t1, t2, rfl, gB, q1, q2⟩
      try dsimp only [gName, List.set]
      obtain ⟨f1, f2⟩ := ordDue_fit k4 t1
      obtain ⟨f3, f4, f5⟩ := planDue_fit (m := ls.length) (n := n) (t := t2) o2 n6 l8 q2.l
      refine viaA22 (fun v H' => ∃ DU, v = .ref DU ∧ Dp K H' (.ref DU) (.list [ordDue ks.length t1, planDue ls.length n t2]) ∧ Same HB H') (fun Q' fin => ?_) ?_
      · refine ⟨_, rfl, _, rfl, vk, ks, t1, rfl, gB.k, k4, q1.l, fun HC u1 sC dC => ?_⟩
        refine ⟨_, rfl, la, _, rfl, .inl (SqL.of (sC _ _ gB.l)), _, rfl, _, rfl, ls.length, n, t2, by rw [lm]; rfl, o2, n6, q2.l, Nat.le_trans (opN_split t2) q2.n, fun HD u2 sD dD => ?_⟩
        refine ⟨by show 2 ≤ sizeLine; decide, fun DU nDU => ?_⟩
        have sE := sameNew (o := .lst [u1, u2]) (Same.refl HD) nDU
        have hDU : upd HD DU (.lst [u1, u2]) DU = some (.lst [u1, u2]) := upd_same
        generalize upd HD DU (.lst [u1, u2]) = HE at sE hDU ⊢
        have dC2 := dp_same (sD.trans sE) _ dC
        have dD2 := dp_same sE _ dD
        exact fin _ _ ⟨DU, rfl, .lst (SqL.of hDU) (.cons dC2 (.cons dD2 .nil)), (sC.trans sD).trans sE⟩
      rintro _ HC ⟨DU, rfl, dDU, sC⟩
      have gC := gB.same sC
      try dsimp only [gName, List.set]
      refine ⟨_, rfl, by decide, by decide, ?_⟩
      rw [show (2 : Int).toNat = 2 from rfl]
      refine for_range (fun c σ H' => ∃ (v12 v13 : Option V), σ = [some (.ref a), some (.ref B), some (.ref od), some (.int (0 + (i : Nat))), some vk, some (.ref O), some (.ref la), some (.int (n : Nat)), some (.str t1), some (.str t2), v10, some (.ref DU), v12, v13] ∧ V22 K B L pK pL pF pZ od qL22 vk ks la ls H' ∧ Dp K H' (.ref DU) (.list [ordDue ks.length t1, planDue ls.length n t2]))
        ⟨v12, v13, rfl, gC, dDU⟩ ?_ ?_
      · rintro c σ HD hc ⟨v12, v13, rfl, gD, dD⟩
        try dsimp only [gName, List.set]
        refine viaA22 (fun v H' => ∃ (F : Addr) (u1 : V) (HZ : Hp), v = .ref F ∧ HZ F = none ∧ H' F = some (.lst [u1]) ∧ Same HZ H' ∧ V22 K B L pK pL pF pZ od qL22 vk ks la ls HZ ∧ Dp K HZ (.ref DU) (.list [ordDue ks.length t1, planDue ls.length n t2]) ∧ Dp K HZ u1 (ordDue ks.length t1)) (fun Q' fin => ?_) ?_
        · refine ⟨gD.r.tz, fun fL HA eN tS isL hfN => ?_⟩
          intro Gp ca
          have gA := gD.ext eN tS
          have dA := dp_ext22 eN dD
          obtain ⟨R, rG, act⟩ := lam_act (k := 5) ca (LamX.lamS_by (sc := defScope sLaw) (by decide +kernel)) (isL.up ca) (fun _ _ _ _ _ => rfl) (fun A outer s H E c' hr' => pe_c C.ro hr' (by decide) (by rfl) (passes_call (takes_of rfl rfl rfl rfl) fun _ _ _ _ h => h) (pa_cons (pv 4) (pa_cons (pv 8) pa_nil)))
          refine ⟨fL, R, _, rfl, act, rG, fun E' hE => ?_⟩
          have up := caught_same ca (Same.refl Gp)
          have fin2 : ∀ (v : V) (HX : Hp), Same HA HX → Dp K HX v (ordDue ks.length t1) → ([v].length ≤ sizeLine ∧ ∀ p, HX p = none → Q' (.ref p) (upd HX p (.lst [v]))) := fun v HX sx dv =>
            ⟨by show 1 ≤ sizeLine; decide, fun F nF => fin _ _ ⟨F, v, HX, rfl, nF, upd_same, sameNew (Same.refl HX) nF, gA.same sx, dp_same sx _ dA, dv⟩⟩
          refine ⟨_, rfl, _, rfl, vk, ks, t1, rfl, dp_same up _ gA.k, k1, k4, q1.l, up _ _ gA.r.tk, up _ _ gA.r.tf, ?_, ?_, ?_⟩
          · intro i' hi' HY dd sY hdd lo
            refine hE _ _ _ (err_N22 eT sY lo hdd fun t HZ sZ ht => fin2 _ _ (caught_same ca sZ) ?_)
            rw [ordDue_inl hi']
            exact .tup (SqT.of (tup_off22 ca sZ ht)) (.cons (.str _) (.cons (.int _) .nil))
          · intro os' hos no HY sY lo
            refine hE _ _ _ (err_22 e1 rfl sY fun t HZ sZ ht => fin2 _ _ (caught_same ca sZ) ?_)
            rw [ordDue_bad hos no]
            exact .tup (SqT.of (tup_off22 ca sZ ht)) (.cons (.str _) (.cons (.int _) .nil))
          · intro os' hos og HY v sY dv lo
            refine fin2 v _ (caught_same ca (back_same sY)) ?_
            rw [ordDue_good hos og, off_back22 lo]
            exact dv
        rintro _ HE ⟨F, u1, HZ, rfl, nF, hF, sZE, gZ, dZ, du1⟩
        try dsimp only [gName, List.set]
        have gE := gZ.same sZE
        refine seq_join7 (fun σ' H' => ∃ u2, σ' = [some (.ref a), some (.ref B), some (.ref od), some (.int (0 + (i : Nat))), some vk, some (.ref O), some (.ref la), some (.int (n : Nat)), some (.str t1), some (.str t2), v10, some (.ref DU), some (.int (0 + (c : Nat))), some (.ref F)] ∧ V22 K B L pK pL pF pZ od qL22 vk ks la ls H' ∧ Dp K H' (.ref DU) (.list [ordDue ks.length t1, planDue ls.length n t2]) ∧ H' F = some (.lst [u1, u2]) ∧ Dp K H' u1 (ordDue ks.length t1) ∧ Dp K H' u2 (planDue ls.length n t2)) ?_ ?_
        · rintro σ HX ⟨u2, rfl, gX, dX, hFX, d1, d2⟩
          have dF : Dp K HX (.ref F) (.list [ordDue ks.length t1, planDue ls.length n t2]) := .lst (SqL.of hFX) (.cons d1 (.cons d2 .nil))
          refine ⟨_, rfl, _, rfl, .ref F, .ref DU, _, rfl, dF, dX, ?_, ?_, _, rfl, iteF ?_⟩
          · unfold few
            exact ⟨by show (2 : Nat) ≤ 1000000; decide, f1, f3, trivial⟩
          · simp only [PyData.depth, PyData.depthAll]
            omega
          · exact ⟨_, _, rfl, gX, dX⟩
        · intro nx hnx
          refine ⟨_, rfl, .inl ⟨rfl, _, SqL.of hF⟩, gE.r.tz, fun fL HA eN tS isL hfN => ?_⟩
          intro Gp ca
          have gA := gE.ext eN tS
          have hFA : HA F = some (.lst [u1]) := eN _ _ hF fun ps z => nomatch z
          obtain ⟨R, rG, act⟩ := lam_act (k := 5) ca (LamX.lamS_by (sc := defScope sLaw) (by decide +kernel)) (isL.up ca) (fun _ _ _ _ _ => rfl) (fun A outer s H E c' hr' => pe_c C.rp hr' (by decide) (by rfl) (passes_call (takes_of rfl rfl rfl rfl) fun _ _ _ _ h => h) (pa_cons (pv 6) (pa_cons (pv 7) (pa_cons (pv 9) pa_nil))))
          refine ⟨fL, R, _, rfl, act, rG, fun E' hE => ?_⟩
          have up := caught_same ca (Same.refl Gp)
          have fin2 : ∀ (v : V) (HX : Hp), Same HA HX → Dp K HX v (planDue ls.length n t2) → rAppend (.ref F) [v] HX (fun _ H' => nx [some (.ref a), some (.ref B), some (.ref od), some (.int (0 + (i : Nat))), some vk, some (.ref O), some (.ref la), some (.int (n : Nat)), some (.str t1), some (.str t2), v10, some (.ref DU), some (.int (0 + (c : Nat))), some (.ref F)] H') := fun v HX sx dv => by
            have hFX := sx _ _ hFA
            refine ⟨F, [u1], v, rfl, rfl, hFX, by show 1 < sizeLine; decide, ?_⟩
            have eZ : LamX.ExtN HZ (upd HX F (.lst [u1, v])) := fun b o z nt => (upd_ne (ne_of_none z nF)).trans (sx _ _ (eN _ _ (sZE _ _ z) nt))
            have tZ : LamX.TabS (upd HX F (.lst [u1, v])) pZ qL22 := tabS_upd22 (tS.ext sx) hFX
            exact hnx _ _ ⟨v, rfl, gZ.ext eZ tZ, dp_ext22 eZ dZ, upd_same, dp_ext22 eZ du1, dp_upd hFX _ f5 dv⟩
          refine ⟨_, rfl, _, rfl, _, rfl, .ref la, ls, n, t2, rfl, dp_same up _ gA.dl, okl, n2, n6, q2.l, up _ _ gA.r.tl, up _ _ gA.r.tf, ?_, ?_, ?_⟩
          · intro i' hi' HY dd sY hdd lo
            refine hE _ _ _ (err_N22 eT sY lo hdd fun t HW sW ht => fin2 _ _ (caught_same ca sW) ?_)
            rw [planDue_inl hi']
            exact .tup (SqT.of (tup_off22 ca sW ht)) (.cons (.str _) (.cons (.int _) .nil))
          · intro d' hd' no HY sY lo
            refine hE _ _ _ (err_22 e6 rfl sY fun t HW sW ht => fin2 _ _ (caught_same ca sW) ?_)
            rw [planDue_bad hd' no]
            exact .tup (SqT.of (tup_off22 ca sW ht)) (.cons (.str _) (.cons (.int _) .nil))
          · intro d' hd' og HY v sY dv lo
            refine fin2 v _ (caught_same ca (back_same sY)) ?_
            rw [planDue_good hd' og, off_back22 lo]
            exact dv
      · rintro σ HD ⟨v12, v13, rfl, gD, dD⟩
        exact ⟨_, _, _, _, _, _, _, _, _, _, _, rfl, gD.r⟩
    · rintro σ H1 ⟨v3, v4, v5, v6, v7, v8, v9, v10, v11, v12, v13, rfl, r1⟩
      exact k H1 r1.tk r1.tl r1.tf
end
end RS
set_option Elab.async false
set_option maxRecDepth 100000
set_option maxHeartbeats 4000000
namespace RS
open PySem PySem.Spec PyProof.Rows L2 GX LM
/-! ### what one reads of the classes of the errors -/
theorem kit_ne {K : PySem.W.Frag} {D C : Addr} {b : Bool} (hne : D ≠ C) (h1 : PySem.W.isClsIn K C = true) (h2 : PySem.W.typeIn K (.ref C) = some (.type "type")) (h3 : PySem.W.subIn K (.ref D) (.ref C) = some b) : PySem.W.kitOne K (.ref D) (.ref C) = some b := by
  have e0 : ((Value.ref D : Value) == .ref C) = false := by
    rw [beq_eq_false_iff_ne]
    exact fun z => hne (Value.ref.inj z)
  have e2 : ((PySem.W.clsIn K C).isSome && PySem.W.typeIn K (.ref C) == some (.type "type")) = true := by
    have h1' : (PySem.W.clsIn K C).isSome = true := h1
    rw [h1', h2] <;> rfl
  unfold PySem.W.kitOne
  rw [if_neg (by rw [e0]; decide)]
  show (if ((PySem.W.clsIn K C).isSome && PySem.W.typeIn K (.ref C) == some (.type "type")) = true then PySem.W.subIn K (.ref D) (.ref C) else none) = some b
  rw [if_pos e2]
  exact h3
theorem kit_same {K : PySem.W.Frag} {D : Addr} : PySem.W.kitOne K (.ref D) (.ref D) = some true := by
  unfold PySem.W.kitOne
  rw [if_pos (beq_self_eq_true _)]
theorem kit_ve {K : PySem.W.Frag} {D : Addr} (h : PySem.W.subIn K (.ref D) (.type "ValueError") = some true) : PySem.W.kitOne K (.ref D) (.type "ValueError") = some true := by
  unfold PySem.W.kitOne
  rw [if_neg (show ¬((Value.ref D : Value) == .type "ValueError") = true from fun z => by have := beq_iff_eq.mp z; cases this)]
  show (if PySem.W.kitMeta "ValueError" = true then PySem.W.subIn K (.ref D) (.type "ValueError") else none) = some true
  rw [if_pos (by decide +kernel)]
  exact h
theorem exm_mk {K : PySem.W.Frag} {D S : Addr} (h1 : PySem.W.subIn K (.ref S) (.type "BaseException") = some true) (h2 : PySem.W.isClsIn K S = true) (h3 : PySem.W.typeIn K (.ref S) = some (.type "type")) (h4 : PySem.W.subIn K (.ref D) (.ref S) = some true) :
    PySem.W.exmOne K (.ref D) (.ref S) = some true := by
  have e1 : (PySem.W.subIn K (.ref S) (.type "BaseException") == some true) = true := by rw [h1] <;> rfl
  have e2 : ((PySem.W.clsIn K S).isSome && PySem.W.typeIn K (.ref S) == some (.type "type")) = true := by
    have h2' : (PySem.W.clsIn K S).isSome = true := h2
    rw [h2', h3] <;> rfl
  show (if (PySem.W.subIn K (.ref S) (.type "BaseException") == some true) = true then (if ((PySem.W.clsIn K S).isSome && PySem.W.typeIn K (.ref S) == some (.type "type")) = true then PySem.W.subIn K (.ref D) (.ref S) else none) else none) = some true
  rw [if_pos e1, if_pos e2]
  exact h4
/-- what one class of an error shows -/
structure OneE (K : PySem.W.Frag) (SE D : Addr) : Prop where
  exc : ExcC K D
  ve : PySem.W.subIn K (.ref D) (.type "ValueError") = some true
  se : PySem.W.exmOne K (.ref D) (.ref SE) = some true
theorem own15_mk {K : PySem.W.Frag} {C : Nat → Addr} {SE : Addr} {j : Nat} (hj : j < 15) (E : OneE K SE (C j)) (cl : ∀ i < 15, PySem.W.isClsIn K (C i) = true ∧ PySem.W.typeIn K (.ref (C i)) = some (.type "type")) (no : ∀ i < 15, i ≠ j → C j ≠ C i ∧ PySem.W.subIn K (.ref (C j)) (.ref (C i)) = some false) : Own15 K C (C j) j := by
  refine ⟨hj, E.exc, fun i hi => ?_, kit_ve E.ve⟩
  by_cases e : i = j
  · subst e
    rw [kit_same, decide_eq_true rfl]
  · obtain ⟨n1, n2⟩ := no i hi e
    rw [kit_ne n1 (cl i hi).1 (cl i hi).2 n2, decide_eq_false e]
def listC (cs : List Addr) : Nat → Addr := fun i => cs.getD i 0
end RS
set_option Elab.async false
set_option maxRecDepth 100000
set_option maxHeartbeats 4000000
namespace RS
open PySem PySem.Spec PyProof.Rows L2 GX
/-- the end: the tables of the defs are empty at the law's entry -/
theorem walk_tabs {l : PySem.W.OpenLaw} {n k : Nat} {q : Program} {loose : List Str} {XP : (Str → Option Value) → Heap → Prop} {YP : World → Heap → Prop} {d : DefRec} {K : Params → PySem.W.Frag} {x : Str}
    (hn : l.most = some n) (hn2 : n ≤ sizeLine) (hdf : d.params.defaults = []) (hr : Room k callerA) (hY : ∀ (w : World) (h : Heap), YP w h → (K w.params).In h)
    (F : ∀ (w : World) (mg : Str → Option Value) (fa : Addr) (h : Heap), (K w.params).In h → h.Ns mainGlobals mg → mg d.name = some (.ref fa) →
      (∀ (y : Str) (d' : DefRec) (c P : Addr), (recsOf q).find? (fun e => e.name == y) = some d' → PySem.W.tabIn (K w.params) y = some (c, P) → PySem.W.CodeHd h c P ∧ h.get? P = some { cls := .none, data := .fields #[] }) →
      LamX.LawAtS l w (K w.params) CX0 k n x mg fa h) :
    PySem.W.WalkO q loose XP YP l.row.toRowW d [] (fun f vs => PySem.call f vs) := by
  refine Att.attach_callB hn hdf fun w s₀ s₁ mg mb fa o pm cd doc a vs ns G Y ho hd hcd hmg hobj hints hlen hbits hg => ?_
  have KX := hY w _ Y
  obtain ⟨fd, cs, sp, hT, nT, C, hb, hsp, hF⟩ := F w mg fa _ KX G.T.g hmg fun y d' c P e1 e2 => PySem.W.tab_of G.T KX e1 e2
  exact LamX.law_callTs KX G.T.g G.T.b G.T.builtins G.T.nolimit hg hT nT C G.T.bmain hobj hints (Nat.le_trans hlen hn2) hr hF hb (fun H hH hS => hsp H a ns hlen hbits hH hS) fun H e s' z => z
end RS
set_option Elab.async false
set_option maxRecDepth 100000
set_option maxHeartbeats 8000000
namespace RS
open PySem PySem.Spec PyProof.Rows L2 GX LM
theorem def_at {K : PySem.W.Frag} {h : Heap} {mg : Str → Option Value} {x : Str} {st : Stmt} {f c : Addr} {oc kV doc pm ct : Value} {od an : Option Addr} {osl : Array (Option Value)} (X : K.In h) (G : h.Ns mainGlobals mg) (a : PySem.W.nsIn K mainGlobals x = some (some (.ref f)))
    (l : K.lookup f = some ⟨oc, od, .func (PySem.W.fnOf x x (defArgs st) (defBody st) (defScope st) .none kV doc pm an (.ref c) ct), osl⟩) (e : PySem.W.codeIn K (.ref c) x = true) (k : PySem.W.keepIn K (.ref f) = true) : DefAt K mg x st c :=
  ⟨f, oc, od, kV, doc, pm, an, ct, osl, PySem.W.mg_of X G a, l, e, k⟩
theorem two_in {K : PySem.W.Frag} {a : Addr} {x y : Str} {t u : Tok} {od : Option Addr} {n : Nat} {sl : Array (Option Value)} (h : K.lookup a = some ⟨.type "tuple", od, .seq #[.str x t, .str y u] n, sl⟩) : ∀ H, SqT K H a [.str x, .str y] :=
  fun _ => .inr ⟨_, #[.str x t, .str y u], n, h, rfl, rfl, by show 2 ≤ sizeLine; decide, .cons ⟨t, rfl⟩ (.cons ⟨u, rfl⟩ .nil)⟩
theorem tabB_of {base : Heap} {mg : Str → Option Value} {c P : Addr} (h : LamX.TabB base mg c P) : GxR.TabB base mg c P := ⟨h.code, h.bm, h.gP⟩
theorem tab_in {K : PySem.W.Frag} {x : Str} {st : Stmt} {f c P : Addr} {oc kV doc pm ct e : Value} {od an dd : Option Addr} {osl sl : Array (Option Value)} {vs : Array Value} (a : PySem.W.nsIn K mainGlobals x = some (some (.ref f)))
    (l : K.lookup f = some ⟨oc, od, .func (PySem.W.fnOf x x (defArgs st) (defBody st) (defScope st) .none kV doc pm an (.ref c) ct), osl⟩) (h1 : K.lookup c = some ⟨e, dd, .fields vs, sl⟩) (h2 : vs[11]? = some (.ref P)) : PySem.W.tabIn K x = some (c, P) := by
  unfold PySem.W.tabIn
  rw [a]
  dsimp only
  rw [l]
  show (match K.lookup c with
    | some ⟨_, _, .fields vs, _⟩ => (match (vs[11]? : Option Value) with
      | some (.ref P) => some (c, P)
      | _ => none)
    | _ => none) = some (c, P)
  rw [h1]
  dsimp only
  rw [h2]
theorem all_mk {l : PySem.W.OpenLaw} {w : World} {K : PySem.W.Frag} {h : Heap} {mg : Str → Option Value} {fa pK pL pF pZ aK aW : Addr} {q : Program} {dK dL dF dZ : DefRec} {eK eL eF eZ : Value} {ddK ddL ddF ddZ : Option Addr} {vsK vsL vsF vsZ : Array Value} {stK stL stF stZ : Array (Option Value)} (tabs : ∀ (y : Str) (d' : DefRec) (c P : Addr), (recsOf q).find? (fun e => e.name == y) = some d' → PySem.W.tabIn K y = some (c, P) → PySem.W.CodeHd h c P ∧ h.get? P = some { cls := .none, data := .fields #[] }) (X : K.In h) (G : h.Ns mainGlobals mg) (hfa : mg "law" = some (.ref fa))
    {f0 c0 : Addr} {oc0 kV0 dc0 pm0 ct0 : Value} {od0 an0 : Option Addr} {sl0 : Array (Option Value)}
    {f1 c1 : Addr} {oc1 kV1 dc1 pm1 ct1 : Value} {od1 an1 : Option Addr} {sl1 : Array (Option Value)}
    {f2 c2 : Addr} {oc2 kV2 dc2 pm2 ct2 : Value} {od2 an2 : Option Addr} {sl2 : Array (Option Value)}
    {f3 c3 : Addr} {oc3 kV3 dc3 pm3 ct3 : Value} {od3 an3 : Option Addr} {sl3 : Array (Option Value)}
    {f4 c4 : Addr} {oc4 kV4 dc4 pm4 ct4 : Value} {od4 an4 : Option Addr} {sl4 : Array (Option Value)}
    {f5 c5 : Addr} {oc5 kV5 dc5 pm5 ct5 : Value} {od5 an5 : Option Addr} {sl5 : Array (Option Value)}
    {f6 c6 : Addr} {oc6 kV6 dc6 pm6 ct6 : Value} {od6 an6 : Option Addr} {sl6 : Array (Option Value)}
    {f7 c7 : Addr} {oc7 kV7 dc7 pm7 ct7 : Value} {od7 an7 : Option Addr} {sl7 : Array (Option Value)}
    {f8 c8 : Addr} {oc8 kV8 dc8 pm8 ct8 : Value} {od8 an8 : Option Addr} {sl8 : Array (Option Value)}
    {f9 c9 : Addr} {oc9 kV9 dc9 pm9 ct9 : Value} {od9 an9 : Option Addr} {sl9 : Array (Option Value)}
    {f10 c10 : Addr} {oc10 kV10 dc10 pm10 ct10 : Value} {od10 an10 : Option Addr} {sl10 : Array (Option Value)}
    {f11 c11 : Addr} {oc11 kV11 dc11 pm11 ct11 : Value} {od11 an11 : Option Addr} {sl11 : Array (Option Value)}
    {f12 c12 : Addr} {oc12 kV12 dc12 pm12 ct12 : Value} {od12 an12 : Option Addr} {sl12 : Array (Option Value)}
    {f13 c13 : Addr} {oc13 kV13 dc13 pm13 ct13 : Value} {od13 an13 : Option Addr} {sl13 : Array (Option Value)}
    {f14 c14 : Addr} {oc14 kV14 dc14 pm14 ct14 : Value} {od14 an14 : Option Addr} {sl14 : Array (Option Value)}
    {f15 c15 : Addr} {oc15 kV15 dc15 pm15 ct15 : Value} {od15 an15 : Option Addr} {sl15 : Array (Option Value)}
    {f16 c16 : Addr} {oc16 kV16 dc16 pm16 ct16 : Value} {od16 an16 : Option Addr} {sl16 : Array (Option Value)}
    {f17 c17 : Addr} {oc17 kV17 dc17 pm17 ct17 : Value} {od17 an17 : Option Addr} {sl17 : Array (Option Value)}
    {f18 c18 : Addr} {oc18 kV18 dc18 pm18 ct18 : Value} {od18 an18 : Option Addr} {sl18 : Array (Option Value)}
    {f19 c19 : Addr} {oc19 kV19 dc19 pm19 ct19 : Value} {od19 an19 : Option Addr} {sl19 : Array (Option Value)}
    {f20 c20 : Addr} {oc20 kV20 dc20 pm20 ct20 : Value} {od20 an20 : Option Addr} {sl20 : Array (Option Value)}
    {f21 c21 : Addr} {oc21 kV21 dc21 pm21 ct21 : Value} {od21 an21 : Option Addr} {sl21 : Array (Option Value)}
    {f22 c22 : Addr} {oc22 kV22 dc22 pm22 ct22 : Value} {od22 an22 : Option Addr} {sl22 : Array (Option Value)}
    {f23 c23 : Addr} {oc23 kV23 dc23 pm23 ct23 : Value} {od23 an23 : Option Addr} {sl23 : Array (Option Value)}
    {f24 c24 : Addr} {oc24 kV24 dc24 pm24 ct24 : Value} {od24 an24 : Option Addr} {sl24 : Array (Option Value)}
    {f25 c25 : Addr} {oc25 kV25 dc25 pm25 ct25 : Value} {od25 an25 : Option Addr} {sl25 : Array (Option Value)}
    {f26 c26 : Addr} {oc26 kV26 dc26 pm26 ct26 : Value} {od26 an26 : Option Addr} {sl26 : Array (Option Value)}
    {f27 c27 : Addr} {oc27 kV27 dc27 pm27 ct27 : Value} {od27 an27 : Option Addr} {sl27 : Array (Option Value)}
    {f28 c28 : Addr} {oc28 kV28 dc28 pm28 ct28 : Value} {od28 an28 : Option Addr} {sl28 : Array (Option Value)}
    {f29 c29 : Addr} {oc29 kV29 dc29 pm29 ct29 : Value} {od29 an29 : Option Addr} {sl29 : Array (Option Value)}
    {f30 c30 : Addr} {oc30 kV30 dc30 pm30 ct30 : Value} {od30 an30 : Option Addr} {sl30 : Array (Option Value)}
    {f31 c31 : Addr} {oc31 kV31 dc31 pm31 ct31 : Value} {od31 an31 : Option Addr} {sl31 : Array (Option Value)}
    {t1 t2 t3 t4 t5 u1 u2 u3 u4 : Tok} {odK : Option Addr} {nK : Nat} {slK : Array (Option Value)} {odW : Option Addr} {nW : Nat} {slW : Array (Option Value)}
    {SE CC0 CC1 CC2 CC3 CC4 CC5 CC6 CC7 CC8 CC9 CC10 CC11 CC12 CC13 CC14 : Addr}
    {enm14 eq14 : Str} {eN14 : Addr} {ebs14 esub14 : List Value} {esn14 : List Str} {eab14 : Bool} {ecol14 : Option Bool} {edd14 : Option Addr} {em014 em114 em214 em314 em514 : Option Value}
    {bf14 : Addr} {boc14 bkV14 bdc14 bpm14 bct14 bcd14 : Value} {bod14 ban14 : Option Addr} {bsl14 : Array (Option Value)}
    (sg : PySem.W.nsIn K mainGlobals "SortError" = some (some (.ref SE)))
    (scl : PySem.W.isClsIn K SE = true)
    (sty : PySem.W.typeIn K (.ref SE) = some (.type "type"))
    (sbe : PySem.W.subIn K (.ref SE) (.type "BaseException") = some true)
    (srd : PySem.W.readsIn K SE (.type "type") = true)
    (sga : PySem.W.specialIn K (.ref SE) "__getattribute__" = some (some (.builtin "type.__getattribute__")))
    (sfi : PySem.W.findCls K (.ref SE) (.type "type") "__init__" = some (.val (.builtin "ValueError.__init__")))
    (ohn : PySem.W.specialIn K (.builtin "object.__class__") "__get__" = some (some (.builtin "getset_descriptor.__get__")))
    (oht : PySem.W.takesIn K (.builtin "object.__class__") = some true)
    (cg0 : PySem.W.nsIn K mainGlobals "BadKinds" = some (some (.ref CC0)))
    (cc0 : PySem.W.isClsIn K CC0 = true)
    (cy0 : PySem.W.typeIn K (.ref CC0) = some (.type "type"))
    (cg1 : PySem.W.nsIn K mainGlobals "BadOrder" = some (some (.ref CC1)))
    (cc1 : PySem.W.isClsIn K CC1 = true)
    (cy1 : PySem.W.typeIn K (.ref CC1) = some (.type "type"))
    (cg2 : PySem.W.nsIn K mainGlobals "BadRows" = some (some (.ref CC2)))
    (cc2 : PySem.W.isClsIn K CC2 = true)
    (cy2 : PySem.W.typeIn K (.ref CC2) = some (.type "type"))
    (cg3 : PySem.W.nsIn K mainGlobals "BadRuns" = some (some (.ref CC3)))
    (cc3 : PySem.W.isClsIn K CC3 = true)
    (cy3 : PySem.W.typeIn K (.ref CC3) = some (.type "type"))
    (cg4 : PySem.W.nsIn K mainGlobals "BadRoom" = some (some (.ref CC4)))
    (cc4 : PySem.W.isClsIn K CC4 = true)
    (cy4 : PySem.W.typeIn K (.ref CC4) = some (.type "type"))
    (cg5 : PySem.W.nsIn K mainGlobals "BadLengths" = some (some (.ref CC5)))
    (cc5 : PySem.W.isClsIn K CC5 = true)
    (cy5 : PySem.W.typeIn K (.ref CC5) = some (.type "type"))
    (cg6 : PySem.W.nsIn K mainGlobals "BadPlan" = some (some (.ref CC6)))
    (cc6 : PySem.W.isClsIn K CC6 = true)
    (cy6 : PySem.W.typeIn K (.ref CC6) = some (.type "type"))
    (cg7 : PySem.W.nsIn K mainGlobals "BadPaper" = some (some (.ref CC7)))
    (cc7 : PySem.W.isClsIn K CC7 = true)
    (cy7 : PySem.W.typeIn K (.ref CC7) = some (.type "type"))
    (cg8 : PySem.W.nsIn K mainGlobals "BadCount" = some (some (.ref CC8)))
    (cc8 : PySem.W.isClsIn K CC8 = true)
    (cy8 : PySem.W.typeIn K (.ref CC8) = some (.type "type"))
    (cg9 : PySem.W.nsIn K mainGlobals "BadBlock" = some (some (.ref CC9)))
    (cc9 : PySem.W.isClsIn K CC9 = true)
    (cy9 : PySem.W.typeIn K (.ref CC9) = some (.type "type"))
    (cg10 : PySem.W.nsIn K mainGlobals "Stopped" = some (some (.ref CC10)))
    (cc10 : PySem.W.isClsIn K CC10 = true)
    (cy10 : PySem.W.typeIn K (.ref CC10) = some (.type "type"))
    (cg11 : PySem.W.nsIn K mainGlobals "Shut" = some (some (.ref CC11)))
    (cc11 : PySem.W.isClsIn K CC11 = true)
    (cy11 : PySem.W.typeIn K (.ref CC11) = some (.type "type"))
    (cg12 : PySem.W.nsIn K mainGlobals "NotYet" = some (some (.ref CC12)))
    (cc12 : PySem.W.isClsIn K CC12 = true)
    (cy12 : PySem.W.typeIn K (.ref CC12) = some (.type "type"))
    (cg13 : PySem.W.nsIn K mainGlobals "Empty" = some (some (.ref CC13)))
    (cc13 : PySem.W.isClsIn K CC13 = true)
    (cy13 : PySem.W.typeIn K (.ref CC13) = some (.type "type"))
    (cg14 : PySem.W.nsIn K mainGlobals "BadText" = some (some (.ref CC14)))
    (cc14 : PySem.W.isClsIn K CC14 = true)
    (cy14 : PySem.W.typeIn K (.ref CC14) = some (.type "type"))
    (hg1 : PySem.W.findIn K (.ref CC1) "__getattribute__" = some (some (.builtin "BaseException.__getattribute__")))
    (hk1 : PySem.W.findIn K (.ref CC1) "__getattr__" = some none)
    (hs1 : PySem.W.subIn K (.ref CC1) (.type "BaseException") = some true)
    (hd1 : PySem.W.hasDictIn K CC1 = true)
    (ha1 : PySem.W.findIn K (.ref CC1) "__class__" = some (some (.builtin "object.__class__")))
    (hm1 : PySem.W.mroIn K CC1 (.type "object") = some true)
    (hv1 : PySem.W.subIn K (.ref CC1) (.type "ValueError") = some true)
    (hS1 : PySem.W.subIn K (.ref CC1) (.ref SE) = some true)
    (kc1 : PySem.W.keepIn K (.ref CC1) = true)
    (no1_0 : PySem.W.subIn K (.ref CC1) (.ref CC0) = some false)
    (ne1_0 : CC1 ≠ CC0)
    (no1_2 : PySem.W.subIn K (.ref CC1) (.ref CC2) = some false)
    (ne1_2 : CC1 ≠ CC2)
    (no1_3 : PySem.W.subIn K (.ref CC1) (.ref CC3) = some false)
    (ne1_3 : CC1 ≠ CC3)
    (no1_4 : PySem.W.subIn K (.ref CC1) (.ref CC4) = some false)
    (ne1_4 : CC1 ≠ CC4)
    (no1_5 : PySem.W.subIn K (.ref CC1) (.ref CC5) = some false)
    (ne1_5 : CC1 ≠ CC5)
    (no1_6 : PySem.W.subIn K (.ref CC1) (.ref CC6) = some false)
    (ne1_6 : CC1 ≠ CC6)
    (no1_7 : PySem.W.subIn K (.ref CC1) (.ref CC7) = some false)
    (ne1_7 : CC1 ≠ CC7)
    (no1_8 : PySem.W.subIn K (.ref CC1) (.ref CC8) = some false)
    (ne1_8 : CC1 ≠ CC8)
    (no1_9 : PySem.W.subIn K (.ref CC1) (.ref CC9) = some false)
    (ne1_9 : CC1 ≠ CC9)
    (no1_10 : PySem.W.subIn K (.ref CC1) (.ref CC10) = some false)
    (ne1_10 : CC1 ≠ CC10)
    (no1_11 : PySem.W.subIn K (.ref CC1) (.ref CC11) = some false)
    (ne1_11 : CC1 ≠ CC11)
    (no1_12 : PySem.W.subIn K (.ref CC1) (.ref CC12) = some false)
    (ne1_12 : CC1 ≠ CC12)
    (no1_13 : PySem.W.subIn K (.ref CC1) (.ref CC13) = some false)
    (ne1_13 : CC1 ≠ CC13)
    (no1_14 : PySem.W.subIn K (.ref CC1) (.ref CC14) = some false)
    (ne1_14 : CC1 ≠ CC14)
    (hg6 : PySem.W.findIn K (.ref CC6) "__getattribute__" = some (some (.builtin "BaseException.__getattribute__")))
    (hk6 : PySem.W.findIn K (.ref CC6) "__getattr__" = some none)
    (hs6 : PySem.W.subIn K (.ref CC6) (.type "BaseException") = some true)
    (hd6 : PySem.W.hasDictIn K CC6 = true)
    (ha6 : PySem.W.findIn K (.ref CC6) "__class__" = some (some (.builtin "object.__class__")))
    (hm6 : PySem.W.mroIn K CC6 (.type "object") = some true)
    (hv6 : PySem.W.subIn K (.ref CC6) (.type "ValueError") = some true)
    (hS6 : PySem.W.subIn K (.ref CC6) (.ref SE) = some true)
    (kc6 : PySem.W.keepIn K (.ref CC6) = true)
    (no6_0 : PySem.W.subIn K (.ref CC6) (.ref CC0) = some false)
    (ne6_0 : CC6 ≠ CC0)
    (no6_1 : PySem.W.subIn K (.ref CC6) (.ref CC1) = some false)
    (ne6_1 : CC6 ≠ CC1)
    (no6_2 : PySem.W.subIn K (.ref CC6) (.ref CC2) = some false)
    (ne6_2 : CC6 ≠ CC2)
    (no6_3 : PySem.W.subIn K (.ref CC6) (.ref CC3) = some false)
    (ne6_3 : CC6 ≠ CC3)
    (no6_4 : PySem.W.subIn K (.ref CC6) (.ref CC4) = some false)
    (ne6_4 : CC6 ≠ CC4)
    (no6_5 : PySem.W.subIn K (.ref CC6) (.ref CC5) = some false)
    (ne6_5 : CC6 ≠ CC5)
    (no6_7 : PySem.W.subIn K (.ref CC6) (.ref CC7) = some false)
    (ne6_7 : CC6 ≠ CC7)
    (no6_8 : PySem.W.subIn K (.ref CC6) (.ref CC8) = some false)
    (ne6_8 : CC6 ≠ CC8)
    (no6_9 : PySem.W.subIn K (.ref CC6) (.ref CC9) = some false)
    (ne6_9 : CC6 ≠ CC9)
    (no6_10 : PySem.W.subIn K (.ref CC6) (.ref CC10) = some false)
    (ne6_10 : CC6 ≠ CC10)
    (no6_11 : PySem.W.subIn K (.ref CC6) (.ref CC11) = some false)
    (ne6_11 : CC6 ≠ CC11)
    (no6_12 : PySem.W.subIn K (.ref CC6) (.ref CC12) = some false)
    (ne6_12 : CC6 ≠ CC12)
    (no6_13 : PySem.W.subIn K (.ref CC6) (.ref CC13) = some false)
    (ne6_13 : CC6 ≠ CC13)
    (no6_14 : PySem.W.subIn K (.ref CC6) (.ref CC14) = some false)
    (ne6_14 : CC6 ≠ CC14)
    (hg14 : PySem.W.findIn K (.ref CC14) "__getattribute__" = some (some (.builtin "BaseException.__getattribute__")))
    (hk14 : PySem.W.findIn K (.ref CC14) "__getattr__" = some none)
    (hs14 : PySem.W.subIn K (.ref CC14) (.type "BaseException") = some true)
    (hd14 : PySem.W.hasDictIn K CC14 = true)
    (ha14 : PySem.W.findIn K (.ref CC14) "__class__" = some (some (.builtin "object.__class__")))
    (hm14 : PySem.W.mroIn K CC14 (.type "object") = some true)
    (hv14 : PySem.W.subIn K (.ref CC14) (.type "ValueError") = some true)
    (hS14 : PySem.W.subIn K (.ref CC14) (.ref SE) = some true)
    (kc14 : PySem.W.keepIn K (.ref CC14) = true)
    (no14_0 : PySem.W.subIn K (.ref CC14) (.ref CC0) = some false)
    (ne14_0 : CC14 ≠ CC0)
    (no14_1 : PySem.W.subIn K (.ref CC14) (.ref CC1) = some false)
    (ne14_1 : CC14 ≠ CC1)
    (no14_2 : PySem.W.subIn K (.ref CC14) (.ref CC2) = some false)
    (ne14_2 : CC14 ≠ CC2)
    (no14_3 : PySem.W.subIn K (.ref CC14) (.ref CC3) = some false)
    (ne14_3 : CC14 ≠ CC3)
    (no14_4 : PySem.W.subIn K (.ref CC14) (.ref CC4) = some false)
    (ne14_4 : CC14 ≠ CC4)
    (no14_5 : PySem.W.subIn K (.ref CC14) (.ref CC5) = some false)
    (ne14_5 : CC14 ≠ CC5)
    (no14_6 : PySem.W.subIn K (.ref CC14) (.ref CC6) = some false)
    (ne14_6 : CC14 ≠ CC6)
    (no14_7 : PySem.W.subIn K (.ref CC14) (.ref CC7) = some false)
    (ne14_7 : CC14 ≠ CC7)
    (no14_8 : PySem.W.subIn K (.ref CC14) (.ref CC8) = some false)
    (ne14_8 : CC14 ≠ CC8)
    (no14_9 : PySem.W.subIn K (.ref CC14) (.ref CC9) = some false)
    (ne14_9 : CC14 ≠ CC9)
    (no14_10 : PySem.W.subIn K (.ref CC14) (.ref CC10) = some false)
    (ne14_10 : CC14 ≠ CC10)
    (no14_11 : PySem.W.subIn K (.ref CC14) (.ref CC11) = some false)
    (ne14_11 : CC14 ≠ CC11)
    (no14_12 : PySem.W.subIn K (.ref CC14) (.ref CC12) = some false)
    (ne14_12 : CC14 ≠ CC12)
    (no14_13 : PySem.W.subIn K (.ref CC14) (.ref CC13) = some false)
    (ne14_13 : CC14 ≠ CC13)
    (xl14 : K.lookup CC14 = some (excClassObj enm14 eq14 CC14 eN14 ebs14 [.ref SE, .type "ValueError", .type "Exception", .type "BaseException", .type "object"] true esn14 esub14 eab14 ecol14 edd14 em014 em114 em214 em314 em514 "ValueError.__new__"))
    (sa14 : PySem.W.findIn K (.ref CC14) "__setattr__" = some (some (.builtin "object.__setattr__")))
    (bi14 : PySem.W.findIn K (.ref CC14) "__init__" = some (some (.ref bf14)))
    (bt14 : PySem.W.typeIn K (.ref bf14) = some (.type "function"))
    (bl14 : K.lookup bf14 = some ⟨boc14, bod14, .func (PySem.W.fnOf "__init__" "BadText.__init__" (defArgs s_BadText_init) (defBody s_BadText_init) (defScope s_BadText_init) .none bkV14 bdc14 bpm14 ban14 bcd14 bct14), bsl14⟩)
    (bc14 : PySem.W.codeIn K bcd14 "BadText.__init__" = true)
    (bk14 : PySem.W.keepIn K (.ref bf14) = true)
    (bp14 : PySem.W.findIn K (.ref CC14) "place" = some none)
    (xE1 : PySem.W.excIn K CC1 [.type "ValueError", .type "Exception", .type "BaseException", .type "object"] "ValueError.__new__" = true)
    (xE6 : PySem.W.excIn K CC6 [.type "ValueError", .type "Exception", .type "BaseException", .type "object"] "ValueError.__new__" = true)
    (a0 : PySem.W.nsIn K mainGlobals "is_number" = some (some (.ref f0))) (l0 : K.lookup f0 = some ⟨oc0, od0, .func (PySem.W.fnOf "is_number" "is_number" (defArgs sIsNumber) (defBody sIsNumber) (defScope sIsNumber) .none kV0 dc0 pm0 an0 (.ref c0) ct0), sl0⟩) (e0 : PySem.W.codeIn K (.ref c0) "is_number" = true) (k0 : PySem.W.keepIn K (.ref f0) = true)
    (a1 : PySem.W.nsIn K mainGlobals "is_part" = some (some (.ref f1))) (l1 : K.lookup f1 = some ⟨oc1, od1, .func (PySem.W.fnOf "is_part" "is_part" (defArgs sIsPart) (defBody sIsPart) (defScope sIsPart) .none kV1 dc1 pm1 an1 (.ref c1) ct1), sl1⟩) (e1 : PySem.W.codeIn K (.ref c1) "is_part" = true) (k1 : PySem.W.keepIn K (.ref f1) = true)
    (a2 : PySem.W.nsIn K mainGlobals "check_kinds" = some (some (.ref f2))) (l2 : K.lookup f2 = some ⟨oc2, od2, .func (PySem.W.fnOf "check_kinds" "check_kinds" (defArgs sCheckKinds) (defBody sCheckKinds) (defScope sCheckKinds) .none kV2 dc2 pm2 an2 (.ref c2) ct2), sl2⟩) (e2 : PySem.W.codeIn K (.ref c2) "check_kinds" = true) (k2 : PySem.W.keepIn K (.ref f2) = true)
    (a3 : PySem.W.nsIn K mainGlobals "check_order" = some (some (.ref f3))) (l3 : K.lookup f3 = some ⟨oc3, od3, .func (PySem.W.fnOf "check_order" "check_order" (defArgs sCheckOrder) (defBody sCheckOrder) (defScope sCheckOrder) .none kV3 dc3 pm3 an3 (.ref c3) ct3), sl3⟩) (e3 : PySem.W.codeIn K (.ref c3) "check_order" = true) (k3 : PySem.W.keepIn K (.ref f3) = true)
    (a4 : PySem.W.nsIn K mainGlobals "check_lengths" = some (some (.ref f4))) (l4 : K.lookup f4 = some ⟨oc4, od4, .func (PySem.W.fnOf "check_lengths" "check_lengths" (defArgs s_check_lengths) (defBody s_check_lengths) (defScope s_check_lengths) .none kV4 dc4 pm4 an4 (.ref c4) ct4), sl4⟩) (e4 : PySem.W.codeIn K (.ref c4) "check_lengths" = true) (k4 : PySem.W.keepIn K (.ref f4) = true)
    (a5 : PySem.W.nsIn K mainGlobals "check_ways" = some (some (.ref f5))) (l5 : K.lookup f5 = some ⟨oc5, od5, .func (PySem.W.fnOf "check_ways" "check_ways" (defArgs s_check_ways) (defBody s_check_ways) (defScope s_check_ways) .none kV5 dc5 pm5 an5 (.ref c5) ct5), sl5⟩) (e5 : PySem.W.codeIn K (.ref c5) "check_ways" = true) (k5 : PySem.W.keepIn K (.ref f5) = true)
    (a6 : PySem.W.nsIn K mainGlobals "check_plan" = some (some (.ref f6))) (l6 : K.lookup f6 = some ⟨oc6, od6, .func (PySem.W.fnOf "check_plan" "check_plan" (defArgs s_check_plan) (defBody s_check_plan) (defScope s_check_plan) .none kV6 dc6 pm6 an6 (.ref c6) ct6), sl6⟩) (e6 : PySem.W.codeIn K (.ref c6) "check_plan" = true) (k6 : PySem.W.keepIn K (.ref f6) = true)
    (a7 : PySem.W.nsIn K mainGlobals "check_merging" = some (some (.ref f7))) (l7 : K.lookup f7 = some ⟨oc7, od7, .func (PySem.W.fnOf "check_merging" "check_merging" (defArgs s_check_merging) (defBody s_check_merging) (defScope s_check_merging) .none kV7 dc7 pm7 an7 (.ref c7) ct7), sl7⟩) (e7 : PySem.W.codeIn K (.ref c7) "check_merging" = true) (k7 : PySem.W.keepIn K (.ref f7) = true)
    (a8 : PySem.W.nsIn K mainGlobals "written_order" = some (some (.ref f8))) (l8 : K.lookup f8 = some ⟨oc8, od8, .func (PySem.W.fnOf "written_order" "written_order" (defArgs s_written_order) (defBody s_written_order) (defScope s_written_order) .none kV8 dc8 pm8 an8 (.ref c8) ct8), sl8⟩) (e8 : PySem.W.codeIn K (.ref c8) "written_order" = true) (k8 : PySem.W.keepIn K (.ref f8) = true)
    (a9 : PySem.W.nsIn K mainGlobals "read_order" = some (some (.ref f9))) (l9 : K.lookup f9 = some ⟨oc9, od9, .func (PySem.W.fnOf "read_order" "read_order" (defArgs s_read_order) (defBody s_read_order) (defScope s_read_order) .none kV9 dc9 pm9 an9 (.ref c9) ct9), sl9⟩) (e9 : PySem.W.codeIn K (.ref c9) "read_order" = true) (k9 : PySem.W.keepIn K (.ref f9) = true)
    (a10 : PySem.W.nsIn K mainGlobals "written_plan" = some (some (.ref f10))) (l10 : K.lookup f10 = some ⟨oc10, od10, .func (PySem.W.fnOf "written_plan" "written_plan" (defArgs s_written_plan) (defBody s_written_plan) (defScope s_written_plan) .none kV10 dc10 pm10 an10 (.ref c10) ct10), sl10⟩) (e10 : PySem.W.codeIn K (.ref c10) "written_plan" = true) (k10 : PySem.W.keepIn K (.ref f10) = true)
    (a11 : PySem.W.nsIn K mainGlobals "plan_text" = some (some (.ref f11))) (l11 : K.lookup f11 = some ⟨oc11, od11, .func (PySem.W.fnOf "plan_text" "plan_text" (defArgs s_plan_text) (defBody s_plan_text) (defScope s_plan_text) .none kV11 dc11 pm11 an11 (.ref c11) ct11), sl11⟩) (e11 : PySem.W.codeIn K (.ref c11) "plan_text" = true) (k11 : PySem.W.keepIn K (.ref f11) = true)
    (a12 : PySem.W.nsIn K mainGlobals "read_plan" = some (some (.ref f12))) (l12 : K.lookup f12 = some ⟨oc12, od12, .func (PySem.W.fnOf "read_plan" "read_plan" (defArgs s_read_plan) (defBody s_read_plan) (defScope s_read_plan) .none kV12 dc12 pm12 an12 (.ref c12) ct12), sl12⟩) (e12 : PySem.W.codeIn K (.ref c12) "read_plan" = true) (k12 : PySem.W.keepIn K (.ref f12) = true)
    (a13 : PySem.W.nsIn K mainGlobals "put_together" = some (some (.ref f13))) (l13 : K.lookup f13 = some ⟨oc13, od13, .func (PySem.W.fnOf "put_together" "put_together" (defArgs s_put_together) (defBody s_put_together) (defScope s_put_together) .none kV13 dc13 pm13 an13 (.ref c13) ct13), sl13⟩) (e13 : PySem.W.codeIn K (.ref c13) "put_together" = true) (k13 : PySem.W.keepIn K (.ref f13) = true)
    (a14 : PySem.W.nsIn K mainGlobals "may_stand" = some (some (.ref f14))) (l14 : K.lookup f14 = some ⟨oc14, od14, .func (PySem.W.fnOf "may_stand" "may_stand" (defArgs s_may_stand) (defBody s_may_stand) (defScope s_may_stand) .none kV14 dc14 pm14 an14 (.ref c14) ct14), sl14⟩) (e14 : PySem.W.codeIn K (.ref c14) "may_stand" = true) (k14 : PySem.W.keepIn K (.ref f14) = true)
    (a15 : PySem.W.nsIn K mainGlobals "is_figures" = some (some (.ref f15))) (l15 : K.lookup f15 = some ⟨oc15, od15, .func (PySem.W.fnOf "is_figures" "is_figures" (defArgs s_is_figures) (defBody s_is_figures) (defScope s_is_figures) .none kV15 dc15 pm15 an15 (.ref c15) ct15), sl15⟩) (e15 : PySem.W.codeIn K (.ref c15) "is_figures" = true) (k15 : PySem.W.keepIn K (.ref f15) = true)
    (a16 : PySem.W.nsIn K mainGlobals "_law_begun" = some (some (.ref f16))) (l16 : K.lookup f16 = some ⟨oc16, od16, .func (PySem.W.fnOf "_law_begun" "_law_begun" (defArgs sBegun) (defBody sBegun) (defScope sBegun) .none kV16 dc16 pm16 an16 (.ref c16) ct16), sl16⟩) (e16 : PySem.W.codeIn K (.ref c16) "_law_begun" = true) (k16 : PySem.W.keepIn K (.ref f16) = true)
    (a17 : PySem.W.nsIn K mainGlobals "_law_take" = some (some (.ref f17))) (l17 : K.lookup f17 = some ⟨oc17, od17, .func (PySem.W.fnOf "_law_take" "_law_take" (defArgs sTake) (defBody sTake) (defScope sTake) .none kV17 dc17 pm17 an17 (.ref c17) ct17), sl17⟩) (e17 : PySem.W.codeIn K (.ref c17) "_law_take" = true) (k17 : PySem.W.keepIn K (.ref f17) = true)
    (a18 : PySem.W.nsIn K mainGlobals "_law_alike" = some (some (.ref f18))) (l18 : K.lookup f18 = some ⟨oc18, od18, .func (PySem.W.fnOf "_law_alike" "_law_alike" (defArgs sAlike) (defBody sAlike) (defScope sAlike) .none kV18 dc18 pm18 an18 (.ref c18) ct18), sl18⟩) (e18 : PySem.W.codeIn K (.ref c18) "_law_alike" = true) (k18 : PySem.W.keepIn K (.ref f18) = true)
    (a19 : PySem.W.nsIn K mainGlobals "_law_class" = some (some (.ref f19))) (l19 : K.lookup f19 = some ⟨oc19, od19, .func (PySem.W.fnOf "_law_class" "_law_class" (defArgs sClass) (defBody sClass) (defScope sClass) .none kV19 dc19 pm19 an19 (.ref c19) ct19), sl19⟩) (e19 : PySem.W.codeIn K (.ref c19) "_law_class" = true) (k19 : PySem.W.keepIn K (.ref f19) = true)
    (a20 : PySem.W.nsIn K mainGlobals "_law_told" = some (some (.ref f20))) (l20 : K.lookup f20 = some ⟨oc20, od20, .func (PySem.W.fnOf "_law_told" "_law_told" (defArgs sTold) (defBody sTold) (defScope sTold) .none kV20 dc20 pm20 an20 (.ref c20) ct20), sl20⟩) (e20 : PySem.W.codeIn K (.ref c20) "_law_told" = true) (k20 : PySem.W.keepIn K (.ref f20) = true)
    (a21 : PySem.W.nsIn K mainGlobals "_law_kinds" = some (some (.ref f21))) (l21 : K.lookup f21 = some ⟨oc21, od21, .func (PySem.W.fnOf "_law_kinds" "_law_kinds" (defArgs sKinds) (defBody sKinds) (defScope sKinds) .none kV21 dc21 pm21 an21 (.ref c21) ct21), sl21⟩) (e21 : PySem.W.codeIn K (.ref c21) "_law_kinds" = true) (k21 : PySem.W.keepIn K (.ref f21) = true)
    (a22 : PySem.W.nsIn K mainGlobals "_law_order" = some (some (.ref f22))) (l22 : K.lookup f22 = some ⟨oc22, od22, .func (PySem.W.fnOf "_law_order" "_law_order" (defArgs sOrder) (defBody sOrder) (defScope sOrder) .none kV22 dc22 pm22 an22 (.ref c22) ct22), sl22⟩) (e22 : PySem.W.codeIn K (.ref c22) "_law_order" = true) (k22 : PySem.W.keepIn K (.ref f22) = true)
    (a23 : PySem.W.nsIn K mainGlobals "_law_lengths" = some (some (.ref f23))) (l23 : K.lookup f23 = some ⟨oc23, od23, .func (PySem.W.fnOf "_law_lengths" "_law_lengths" (defArgs s__law_lengths) (defBody s__law_lengths) (defScope s__law_lengths) .none kV23 dc23 pm23 an23 (.ref c23) ct23), sl23⟩) (e23 : PySem.W.codeIn K (.ref c23) "_law_lengths" = true) (k23 : PySem.W.keepIn K (.ref f23) = true)
    (a24 : PySem.W.nsIn K mainGlobals "_law_plan" = some (some (.ref f24))) (l24 : K.lookup f24 = some ⟨oc24, od24, .func (PySem.W.fnOf "_law_plan" "_law_plan" (defArgs s__law_plan) (defBody s__law_plan) (defScope s__law_plan) .none kV24 dc24 pm24 an24 (.ref c24) ct24), sl24⟩) (e24 : PySem.W.codeIn K (.ref c24) "_law_plan" = true) (k24 : PySem.W.keepIn K (.ref f24) = true)
    (a25 : PySem.W.nsIn K mainGlobals "_law_in" = some (some (.ref f25))) (l25 : K.lookup f25 = some ⟨oc25, od25, .func (PySem.W.fnOf "_law_in" "_law_in" (defArgs s__law_in) (defBody s__law_in) (defScope s__law_in) .none kV25 dc25 pm25 an25 (.ref c25) ct25), sl25⟩) (e25 : PySem.W.codeIn K (.ref c25) "_law_in" = true) (k25 : PySem.W.keepIn K (.ref f25) = true)
    (a26 : PySem.W.nsIn K mainGlobals "_law_fits" = some (some (.ref f26))) (l26 : K.lookup f26 = some ⟨oc26, od26, .func (PySem.W.fnOf "_law_fits" "_law_fits" (defArgs s__law_fits) (defBody s__law_fits) (defScope s__law_fits) .none kV26 dc26 pm26 an26 (.ref c26) ct26), sl26⟩) (e26 : PySem.W.codeIn K (.ref c26) "_law_fits" = true) (k26 : PySem.W.keepIn K (.ref f26) = true)
    (a27 : PySem.W.nsIn K mainGlobals "_law_number" = some (some (.ref f27))) (l27 : K.lookup f27 = some ⟨oc27, od27, .func (PySem.W.fnOf "_law_number" "_law_number" (defArgs s__law_number) (defBody s__law_number) (defScope s__law_number) .none kV27 dc27 pm27 an27 (.ref c27) ct27), sl27⟩) (e27 : PySem.W.codeIn K (.ref c27) "_law_number" = true) (k27 : PySem.W.keepIn K (.ref f27) = true)
    (a28 : PySem.W.nsIn K mainGlobals "_law_order_due" = some (some (.ref f28))) (l28 : K.lookup f28 = some ⟨oc28, od28, .func (PySem.W.fnOf "_law_order_due" "_law_order_due" (defArgs s__law_order_due) (defBody s__law_order_due) (defScope s__law_order_due) .none kV28 dc28 pm28 an28 (.ref c28) ct28), sl28⟩) (e28 : PySem.W.codeIn K (.ref c28) "_law_order_due" = true) (k28 : PySem.W.keepIn K (.ref f28) = true)
    (a29 : PySem.W.nsIn K mainGlobals "_law_plan_due" = some (some (.ref f29))) (l29 : K.lookup f29 = some ⟨oc29, od29, .func (PySem.W.fnOf "_law_plan_due" "_law_plan_due" (defArgs s__law_plan_due) (defBody s__law_plan_due) (defScope s__law_plan_due) .none kV29 dc29 pm29 an29 (.ref c29) ct29), sl29⟩) (e29 : PySem.W.codeIn K (.ref c29) "_law_plan_due" = true) (k29 : PySem.W.keepIn K (.ref f29) = true)
    (a30 : PySem.W.nsIn K mainGlobals "_law_spoilt" = some (some (.ref f30))) (l30 : K.lookup f30 = some ⟨oc30, od30, .func (PySem.W.fnOf "_law_spoilt" "_law_spoilt" (defArgs s__law_spoilt) (defBody s__law_spoilt) (defScope s__law_spoilt) .none kV30 dc30 pm30 an30 (.ref c30) ct30), sl30⟩) (e30 : PySem.W.codeIn K (.ref c30) "_law_spoilt" = true) (k30 : PySem.W.keepIn K (.ref f30) = true)
    (a31 : PySem.W.nsIn K mainGlobals "law" = some (some (.ref f31))) (l31 : K.lookup f31 = some ⟨oc31, od31, .func (PySem.W.fnOf "law" "law" (defArgs sLaw) (defBody sLaw) (defScope sLaw) .none kV31 dc31 pm31 an31 (.ref c31) ct31), sl31⟩) (e31 : PySem.W.codeIn K (.ref c31) "law" = true) (k31 : PySem.W.keepIn K (.ref f31) = true)
    (z0 : PySem.W.nsIn K mainGlobals "isinstance" = some none)
    (z1 : PySem.W.nsIn K mainGlobals "int" = some none)
    (z2 : PySem.W.nsIn K mainGlobals "bool" = some none)
    (z3 : PySem.W.nsIn K mainGlobals "str" = some none)
    (z4 : PySem.W.nsIn K mainGlobals "list" = some none)
    (z5 : PySem.W.nsIn K mainGlobals "tuple" = some none)
    (z6 : PySem.W.nsIn K mainGlobals "len" = some none)
    (z7 : PySem.W.nsIn K mainGlobals "all" = some none)
    (z8 : PySem.W.nsIn K mainGlobals "zip" = some none)
    (z9 : PySem.W.nsIn K mainGlobals "enumerate" = some none)
    (z10 : PySem.W.nsIn K mainGlobals "ord" = some none)
    (z11 : PySem.W.nsIn K mainGlobals "range" = some none)
    (z12 : PySem.W.nsIn K mainGlobals "sorted" = some none)
    (z13 : PySem.W.nsIn K mainGlobals "max" = some none)
    (z14 : PySem.W.nsIn K mainGlobals "min" = some none)
    (y0 : PySem.W.nsIn K mainGlobals "MOST_COLUMNS" = some (some (.int 4 t1)))
    (y1 : PySem.W.nsIn K mainGlobals "MOST_LENGTHS" = some (some (.int 40 t2)))
    (y2 : PySem.W.nsIn K mainGlobals "MOST_LENGTH" = some (some (.int 1000000 t3)))
    (y3 : PySem.W.nsIn K mainGlobals "LEAST_WAYS" = some (some (.int 2 t4)))
    (y4 : PySem.W.nsIn K mainGlobals "MOST_WAYS" = some (some (.int 6 t5)))
    (ak : PySem.W.nsIn K mainGlobals "KINDS" = some (some (.ref aK))) (lk : K.lookup aK = some ⟨.type "tuple", odK, .seq #[.str "number" u1, .str "word" u2] nK, slK⟩)
    (aw : PySem.W.nsIn K mainGlobals "WAYS" = some (some (.ref aW))) (lw : K.lookup aW = some ⟨.type "tuple", odW, .seq #[.str "up" u3, .str "down" u4] nW, slW⟩)
    (zzValueError : PySem.W.nsIn K mainGlobals "ValueError" = some none)
    (zzset : PySem.W.nsIn K mainGlobals "set" = some none)
    (rK : (recsOf q).find? (fun e => e.name == ("check_kinds" : Str)) = some dK) (hK : K.lookup c2 = some ⟨eK, ddK, .fields vsK, stK⟩) (iK : vsK[11]? = some (.ref pK)) (nK' : K.lookup pK = none)
    (rL : (recsOf q).find? (fun e => e.name == ("check_lengths" : Str)) = some dL) (hL : K.lookup c4 = some ⟨eL, ddL, .fields vsL, stL⟩) (iL : vsL[11]? = some (.ref pL)) (nL' : K.lookup pL = none)
    (rF : (recsOf q).find? (fun e => e.name == ("is_figures" : Str)) = some dF) (hF : K.lookup c15 = some ⟨eF, ddF, .fields vsF, stF⟩) (iF : vsF[11]? = some (.ref pF)) (nF' : K.lookup pF = none)
    (rZ : (recsOf q).find? (fun e => e.name == ("law" : Str)) = some dZ) (hZ : K.lookup c31 = some ⟨eZ, ddZ, .fields vsZ, stZ⟩) (iZ : vsZ[11]? = some (.ref pZ)) (nZ' : K.lookup pZ = none)
    (dZK' : pZ ≠ pK)
    (dZL' : pZ ≠ pL)
    (dZF' : pZ ≠ pF)
    : LamX.LawAtS l w K CX0 67 63 "_law_script" mg fa h := by
  have efa := hfa.symm.trans (PySem.W.mg_of X G a31)
  cases efa
  have gK := tabs "check_kinds" dK c2 pK rK (tab_in (st := sCheckKinds) a2 l2 hK iK)
  have gL := tabs "check_lengths" dL c4 pL rL (tab_in (st := s_check_lengths) a4 l4 hL iL)
  have gF := tabs "is_figures" dF c15 pF rF (tab_in (st := s_is_figures) a15 l15 hF iF)
  have gZ := tabs "law" dZ c31 pZ rZ (tab_in (st := sLaw) a31 l31 hZ iZ)
  have T : Txt K mg := ⟨PySem.W.mg_none_of X G z0, PySem.W.mg_none_of X G z1, PySem.W.mg_none_of X G z2, PySem.W.mg_none_of X G z3, PySem.W.mg_none_of X G z4, PySem.W.mg_none_of X G z5, PySem.W.mg_none_of X G z6, PySem.W.mg_none_of X G z7, PySem.W.mg_none_of X G z8, PySem.W.mg_none_of X G z9, PySem.W.mg_none_of X G z10, PySem.W.mg_none_of X G z11, PySem.W.mg_none_of X G z12, PySem.W.mg_none_of X G z13, PySem.W.mg_none_of X G z14, ⟨t1, PySem.W.mg_of X G y0⟩, ⟨t2, PySem.W.mg_of X G y1⟩, ⟨t3, PySem.W.mg_of X G y2⟩, ⟨t4, PySem.W.mg_of X G y3⟩, ⟨t5, PySem.W.mg_of X G y4⟩, ⟨aK, PySem.W.mg_of X G ak, two_in lk⟩, ⟨aW, PySem.W.mg_of X G aw, two_in lw⟩⟩
  have ZValueError : mg "ValueError" = none := PySem.W.mg_none_of X G zzValueError
  have Zset : mg "set" = none := PySem.W.mg_none_of X G zzset
  have D0 := def_at (st := sIsNumber) X G a0 l0 e0 k0
  have D1 := def_at (st := sIsPart) X G a1 l1 e1 k1
  have D2 := def_at (st := sCheckKinds) X G a2 l2 e2 k2
  have D3 := def_at (st := sCheckOrder) X G a3 l3 e3 k3
  have D4 := def_at (st := s_check_lengths) X G a4 l4 e4 k4
  have D5 := def_at (st := s_check_ways) X G a5 l5 e5 k5
  have D6 := def_at (st := s_check_plan) X G a6 l6 e6 k6
  have D7 := def_at (st := s_check_merging) X G a7 l7 e7 k7
  have D8 := def_at (st := s_written_order) X G a8 l8 e8 k8
  have D9 := def_at (st := s_read_order) X G a9 l9 e9 k9
  have D10 := def_at (st := s_written_plan) X G a10 l10 e10 k10
  have D11 := def_at (st := s_plan_text) X G a11 l11 e11 k11
  have D12 := def_at (st := s_read_plan) X G a12 l12 e12 k12
  have D13 := def_at (st := s_put_together) X G a13 l13 e13 k13
  have D14 := def_at (st := s_may_stand) X G a14 l14 e14 k14
  have D15 := def_at (st := s_is_figures) X G a15 l15 e15 k15
  have D16 := def_at (st := sBegun) X G a16 l16 e16 k16
  have D17 := def_at (st := sTake) X G a17 l17 e17 k17
  have D18 := def_at (st := sAlike) X G a18 l18 e18 k18
  have D19 := def_at (st := sClass) X G a19 l19 e19 k19
  have D20 := def_at (st := sTold) X G a20 l20 e20 k20
  have D21 := def_at (st := sKinds) X G a21 l21 e21 k21
  have D22 := def_at (st := sOrder) X G a22 l22 e22 k22
  have D23 := def_at (st := s__law_lengths) X G a23 l23 e23 k23
  have D24 := def_at (st := s__law_plan) X G a24 l24 e24 k24
  have D25 := def_at (st := s__law_in) X G a25 l25 e25 k25
  have D26 := def_at (st := s__law_fits) X G a26 l26 e26 k26
  have D27 := def_at (st := s__law_number) X G a27 l27 e27 k27
  have D28 := def_at (st := s__law_order_due) X G a28 l28 e28 k28
  have D29 := def_at (st := s__law_plan_due) X G a29 l29 e29 k29
  have D30 := def_at (st := s__law_spoilt) X G a30 l30 e30 k30
  have D31 := def_at (st := sLaw) X G a31 l31 e31 k31
  refine ⟨PySem.W.fnOf "law" "law" (defArgs sLaw) (defBody sLaw) (defScope sLaw) .none kV31 dc31 pm31 an31 (.ref c31) ct31, [(c2, pK), (c4, pL), (c15, pF), (c31, pZ)], spT [pK, pL, pF] (spLaw22 K pK pL pF pZ), ?_, ?_, ?_, fun s v => .of_eq rfl, ?_, fun base KB GB TB => ?_⟩
  · intro p hp
    simp only [List.mem_cons, List.not_mem_nil, or_false] at hp
    rcases hp with rfl | rfl | rfl | rfl
    · exact gK.2
    · exact gL.2
    · exact gF.2
    · exact gZ.2
  · intro p hp
    simp only [List.mem_cons, List.not_mem_nil, or_false] at hp
    rcases hp with rfl | rfl | rfl | rfl
    · exact nK'
    · exact nL'
    · exact nF'
    · exact nZ'
  · intro p hp
    simp only [List.mem_cons, List.not_mem_nil, or_false] at hp
    rcases hp with rfl | rfl | rfl | rfl
    · exact gK.1
    · exact gL.1
    · exact gF.1
    · exact gZ.1
  · intro H a ns hl hb hT hS
    have hT2 : ∀ b ∈ [pK, pL, pF], H b = some (.tbl #[]) := fun b hb => by
      simp only [List.mem_cons, List.not_mem_nil, or_false] at hb
      rcases hb with rfl | rfl | rfl
      · exact hT (c2, b) (by simp)
      · exact hT (c4, b) (by simp)
      · exact hT (c15, b) (by simp)
    have hFZ : H pZ = some (.tbl #[]) := hT (c31, pZ) (by simp)
    refine ⟨hT2, a, ns, rfl, ?_, ext_in (by simp), ext_in (by simp), ext_in (by simp), .nil ((ext_out (by simp [dZK', dZL', dZF'])).trans hFZ), fun H' tK tL tF => ⟨fun b hb => ?_, fun _ => rfl⟩⟩
    · rcases hS with (hS | ⟨o, hS⟩) | hS
      · refine .inl (.inl ?_)
        rw [ext_out fun hb => by rw [hT2 a hb] at hS; cases hS]
        exact hS
      · refine .inl (.inr ⟨o, ?_⟩)
        rw [ext_out fun hb => by rw [hT2 a hb] at hS; cases hS]
        exact hS
      · exact .inr hS
    · simp only [List.mem_cons, List.not_mem_nil, or_false] at hb
      rcases hb with rfl | rfl | rfl
      · exact tK
      · exact tL
      · exact tF
  · have bK := TB (c2, pK) (by simp)
    have bL := TB (c4, pL) (by simp)
    have bF := TB (c15, pF) (by simp)
    have bZ := TB (c31, pZ) (by simp)
    let CC : Nat → Addr := listC [CC0, CC1, CC2, CC3, CC4, CC5, CC6, CC7, CC8, CC9, CC10, CC11, CC12, CC13, CC14]
    have gSE := PySem.W.mg_of X G sg
    have G15 : Cls15 mg CC := ⟨PySem.W.mg_of X G cg0, PySem.W.mg_of X G cg1, PySem.W.mg_of X G cg2, PySem.W.mg_of X G cg3, PySem.W.mg_of X G cg4, PySem.W.mg_of X G cg5, PySem.W.mg_of X G cg6, PySem.W.mg_of X G cg7, PySem.W.mg_of X G cg8, PySem.W.mg_of X G cg9, PySem.W.mg_of X G cg10, PySem.W.mg_of X G cg11, PySem.W.mg_of X G cg12, PySem.W.mg_of X G cg13, PySem.W.mg_of X G cg14⟩
    have cl15 : ∀ i < 15, PySem.W.isClsIn K (CC i) = true ∧ PySem.W.typeIn K (.ref (CC i)) = some (.type "type") := fun i hi => match i, hi with
      | 0, _ => ⟨cc0, cy0⟩
      | 1, _ => ⟨cc1, cy1⟩
      | 2, _ => ⟨cc2, cy2⟩
      | 3, _ => ⟨cc3, cy3⟩
      | 4, _ => ⟨cc4, cy4⟩
      | 5, _ => ⟨cc5, cy5⟩
      | 6, _ => ⟨cc6, cy6⟩
      | 7, _ => ⟨cc7, cy7⟩
      | 8, _ => ⟨cc8, cy8⟩
      | 9, _ => ⟨cc9, cy9⟩
      | 10, _ => ⟨cc10, cy10⟩
      | 11, _ => ⟨cc11, cy11⟩
      | 12, _ => ⟨cc12, cy12⟩
      | 13, _ => ⟨cc13, cy13⟩
      | 14, _ => ⟨cc14, cy14⟩
    have oe1 : OneE K SE CC1 := ⟨⟨hg1, hk1, hs1, hd1, ha1, ohn, oht, hm1⟩, hv1, exm_mk sbe scl sty hS1⟩
    have o15_1 : Own15 K CC CC1 1 := own15_mk (C := CC) (j := 1) (by decide) oe1 cl15 fun i hi n => match i, hi, n with
      | 0, _, _ => ⟨ne1_0, no1_0⟩
      | 1, _, n => absurd rfl n
      | 2, _, _ => ⟨ne1_2, no1_2⟩
      | 3, _, _ => ⟨ne1_3, no1_3⟩
      | 4, _, _ => ⟨ne1_4, no1_4⟩
      | 5, _, _ => ⟨ne1_5, no1_5⟩
      | 6, _, _ => ⟨ne1_6, no1_6⟩
      | 7, _, _ => ⟨ne1_7, no1_7⟩
      | 8, _, _ => ⟨ne1_8, no1_8⟩
      | 9, _, _ => ⟨ne1_9, no1_9⟩
      | 10, _, _ => ⟨ne1_10, no1_10⟩
      | 11, _, _ => ⟨ne1_11, no1_11⟩
      | 12, _, _ => ⟨ne1_12, no1_12⟩
      | 13, _, _ => ⟨ne1_13, no1_13⟩
      | 14, _, _ => ⟨ne1_14, no1_14⟩
    have oe6 : OneE K SE CC6 := ⟨⟨hg6, hk6, hs6, hd6, ha6, ohn, oht, hm6⟩, hv6, exm_mk sbe scl sty hS6⟩
    have o15_6 : Own15 K CC CC6 6 := own15_mk (C := CC) (j := 6) (by decide) oe6 cl15 fun i hi n => match i, hi, n with
      | 0, _, _ => ⟨ne6_0, no6_0⟩
      | 1, _, _ => ⟨ne6_1, no6_1⟩
      | 2, _, _ => ⟨ne6_2, no6_2⟩
      | 3, _, _ => ⟨ne6_3, no6_3⟩
      | 4, _, _ => ⟨ne6_4, no6_4⟩
      | 5, _, _ => ⟨ne6_5, no6_5⟩
      | 6, _, n => absurd rfl n
      | 7, _, _ => ⟨ne6_7, no6_7⟩
      | 8, _, _ => ⟨ne6_8, no6_8⟩
      | 9, _, _ => ⟨ne6_9, no6_9⟩
      | 10, _, _ => ⟨ne6_10, no6_10⟩
      | 11, _, _ => ⟨ne6_11, no6_11⟩
      | 12, _, _ => ⟨ne6_12, no6_12⟩
      | 13, _, _ => ⟨ne6_13, no6_13⟩
      | 14, _, _ => ⟨ne6_14, no6_14⟩
    have oe14 : OneE K SE CC14 := ⟨⟨hg14, hk14, hs14, hd14, ha14, ohn, oht, hm14⟩, hv14, exm_mk sbe scl sty hS14⟩
    have o15_14 : Own15 K CC CC14 14 := own15_mk (C := CC) (j := 14) (by decide) oe14 cl15 fun i hi n => match i, hi, n with
      | 0, _, _ => ⟨ne14_0, no14_0⟩
      | 1, _, _ => ⟨ne14_1, no14_1⟩
      | 2, _, _ => ⟨ne14_2, no14_2⟩
      | 3, _, _ => ⟨ne14_3, no14_3⟩
      | 4, _, _ => ⟨ne14_4, no14_4⟩
      | 5, _, _ => ⟨ne14_5, no14_5⟩
      | 6, _, _ => ⟨ne14_6, no14_6⟩
      | 7, _, _ => ⟨ne14_7, no14_7⟩
      | 8, _, _ => ⟨ne14_8, no14_8⟩
      | 9, _, _ => ⟨ne14_9, no14_9⟩
      | 10, _, _ => ⟨ne14_10, no14_10⟩
      | 11, _, _ => ⟨ne14_11, no14_11⟩
      | 12, _, _ => ⟨ne14_12, no14_12⟩
      | 13, _, _ => ⟨ne14_13, no14_13⟩
      | 14, _, n => absurd rfl n
    have oxc14 : OexC K CC14 := ⟨⟨_, _, _, _, _, _, _, _, _, _, _, _, _, _, _, xl14, by rfl⟩, sa14, hs14, cy14, kc14⟩
    have NE : NumE l.prog w K mg base "BadText" "place" CC14 := init_text (fun_mk bl14 bc14 bk14) oxc14 bi14 bt14 (PySem.W.mg_of X G cg14) bp14 gSE ⟨srd, sga⟩ sfi
    have X1 : PlE K mg "BadOrder" CC1 := ⟨xE1, PySem.W.mg_of X G cg1, kc1, hs1, cy1⟩
    have X6 : PlE K mg "BadPlan" CC6 := ⟨xE6, PySem.W.mg_of X G cg6, kc6, hs6, cy6⟩
    have er1 : Err22 K SE CC CC1 1 := ⟨o15_1, oe1.se, by decide⟩
    have er6 : Err22 K SE CC CC6 6 := ⟨o15_6, oe6.se, by decide⟩
    have erT : ErrN22 K SE CC CC14 := ⟨o15_14, oe14.se, ⟨hg14, hk14, hs14, hd14⟩, bp14⟩
    have P0 : Cal l.prog w K mg base CX0 1 "is_number" ["value"] (spNum K) := is_number_ok D0 T
    have P1 : Cal l.prog w K mg base CX0 2 "is_part" ["kinds", "part"] (spPart K) := is_part_ok D1 T P0
    have P2 : Cal l.prog w K mg base CX0 2 "check_kinds" ["kinds"] (spCheckKinds K pK) := check_kinds_ok D2 T (tabB_of bK)
    have P3 : Cal l.prog w K mg base CX0 3 "check_order" ["kinds", "order"] (spCheckOrder K) := check_order_ok D3 T P1
    have P4 : Cal l.prog w K mg base CX0 3 "check_lengths" ["lengths"] (spCheckLengths K pL) := check_lengths_ok D4 T (tabB_of bL) P0
    have P5 : Cal l.prog w K mg base CX0 2 "check_ways" ["ways"] (spCheckWays) := check_ways_ok D5 T P0
    have P6 : Cal l.prog w K mg base CX0 2 "check_plan" ["lengths", "ways", "plan"] (spCheckPlan K) := check_plan_ok D6 T P0
    have P7 : Cal l.prog w K mg base CX0 4 "check_merging" ["lengths", "ways"] (spCheckMerging K pL) := check_merging_ok D7 P4 P5
    have P8 : Cal l.prog w K mg base CX0 4 "written_order" ["kinds", "order"] (spWO K pK) := written_order_ok D8 T P2 P3
    have PpartG : Cal l.prog w K mg base CX0 2 "is_part" ["kinds", "part"] (spPartG K) := is_partG_ok D1 T P0
    have Poe : Cal l.prog w K mg base (L2.CX l.prog w) 3 "check_order" ["kinds", "order"] (spOrderE K CC1) := check_orderE_ok D3 T X1 PpartG
    have P15 : Cal l.prog w K mg base CX0 2 "is_figures" ["word"] (spFigA pF) := is_figA_ok D15 T (tabB_of bF)
    have P9 : Cal l.prog w K mg base (L2.CX l.prog w) 4 "read_order" ["kinds", "text"] (spROA K pK pF CC1 CC14) := read_orderA_ok D9 T NE P2 P3 Poe P15
    have P11 : Cal l.prog w K mg base CX0 42 "plan_text" ["plan"] (spPT K 40) := pt_ok D11 T 40
    have P10 : Cal l.prog w K mg base CX0 43 "written_plan" ["lengths", "ways", "plan"] (spWP K pL) := written_plan_ok D10 P7 P6 P11
    have PplanE : Cal l.prog w K mg base (L2.CX l.prog w) 2 "check_plan" ["lengths", "ways", "plan"] (spPlanE K CC6) := check_planE_ok D6 T X6 P0
    have P14 : Cal l.prog w K mg base CX0 3 "may_stand" ["levels", "word"] (spMayA pF) := may_A_ok D14 T P15
    have P13 : Cal l.prog w K mg base (L2.CX l.prog w) 4 "put_together" ["words"] (spPutA K pF CC14) := put_A_ok D13 T NE P14
    have P12 : Cal l.prog w K mg base (L2.CX l.prog w) 5 "read_plan" ["lengths", "ways", "text"] (spRPA K pL pF CC6 CC14) := read_planA_ok D12 P7 P6 PplanE P13
    have P16 : Cal l.prog w K mg base CX0 1 "_law_begun" ["_law_script"] (spBegun K) := begun_ok D16 T
    have P17 : Cal l.prog w K mg base CX0 1 "_law_take" ["_law_box", "_law_many"] (spTake) := take_ok D17
    have P18 : Cal l.prog w K mg base CX0 42 "_law_alike" ["_law_found", "_law_due"] (spAlike K 40) := alike_ok D18 T 40
    have P19 : CalW l.prog w K mg base 1 "_law_class" ["_law_e"] (spClass K CC) := class_ok D19 T G15 ZValueError
    have P20 : Cal l.prog w K mg base CX0 7 "_law_told" ["_law_work"] (spTold l.prog w K mg base SE CC 6) := told_ok D20 6 (by decide) gSE P19
    have P21 : Cal l.prog w K mg base CX0 2 "_law_kinds" ["_law_box"] (spKinds K) := kinds_ok D21 T P17
    have P22 : Cal l.prog w K mg base CX0 2 "_law_order" ["_law_box", "_law_kinds_here"] (spOrder K) := order_ok D22 T P17
    have P23 : Cal l.prog w K mg base CX0 2 "_law_lengths" ["_law_box", "_law_most"] (spLens) := lens_ok D23 T P17
    have P24 : Cal l.prog w K mg base CX0 2 "_law_plan" ["_law_box", "_law_runs", "_law_ways"] (spLPlan K) := lplan_ok D24 T P17
    have P27 : Cal l.prog w K mg base CX0 1 "_law_number" ["_law_word"] (spNumL) := number_ok D27 T
    have P28 : Cal l.prog w K mg base CX0 2 "_law_order_due" ["_law_kinds_here", "_law_text"] (spOD K) := order_due_ok D28 T Zset P27
    have PinG : Cal l.prog w K mg base CX0 65 "_law_in" ["_law_plan_here"] (spInG K 63) := inG_ok D25 T 63
    have PfitG : Cal l.prog w K mg base CX0 65 "_law_fits" ["_law_plan_here", "_law_ways"] (spFitG K 63) := fitG_ok D26 T 63 (by decide)
    have P29 : Cal l.prog w K mg base CX0 66 "_law_plan_due" ["_law_many", "_law_ways", "_law_text"] (spPD K) := plan_due_ok D29 T P27 PinG PfitG
    have P30 : Cal l.prog w K mg base CX0 2 "_law_spoilt" ["_law_box", "_law_text"] (spSpoilt) := spoilt_ok D30 T P17
    exact FnOk.tables (law22_fn l31 e31 T bZ er1 er6 erT ⟨P16, P17, P21, P22, P18, P23, P24, P30, P28, P29, P20, P8, P10, P9, P12⟩)
end RS
set_option Elab.async false
open PySem PySem.W PyProof.Rows in
set_option maxRecDepth 100000 in
set_option maxHeartbeats 0 in
theorem PySem.Challenge.cw_runsorts_k22_texts_refused_holds : PySem.Challenge.rw_runsorts_k22_texts_refused.Holds := by
  w_on; o_law; k_head; (case hw => w_witness2)
  k_fill
  refine RS.walk_tabs (l := PySem.Challenge.rw_runsorts_k22_texts_refused) (n := 63) (k := 67) (x := "_law_script") rfl (by decide) rfl ⟨rfl, by decide, by decide⟩ (fun w h Y => PySem.W.km_in_of Y) ?F
  case F =>
    intro w mg fa h KX G hmg tabs
    refine' RS.all_mk tabs KX G hmg ?sg ?scl ?sty ?sbe ?srd ?sga ?sfi ?ohn ?oht ?cg0 ?cc0 ?cy0 ?cg1 ?cc1 ?cy1 ?cg2 ?cc2 ?cy2 ?cg3 ?cc3 ?cy3 ?cg4 ?cc4 ?cy4 ?cg5 ?cc5 ?cy5 ?cg6 ?cc6 ?cy6 ?cg7 ?cc7 ?cy7 ?cg8 ?cc8 ?cy8 ?cg9 ?cc9 ?cy9 ?cg10 ?cc10 ?cy10 ?cg11 ?cc11 ?cy11 ?cg12 ?cc12 ?cy12 ?cg13 ?cc13 ?cy13 ?cg14 ?cc14 ?cy14 ?hg1 ?hk1 ?hs1 ?hd1 ?ha1 ?hm1 ?hv1 ?hS1 ?kc1 ?no1_0 ?ne1_0 ?no1_2 ?ne1_2 ?no1_3 ?ne1_3 ?no1_4 ?ne1_4 ?no1_5 ?ne1_5 ?no1_6 ?ne1_6 ?no1_7 ?ne1_7 ?no1_8 ?ne1_8 ?no1_9 ?ne1_9 ?no1_10 ?ne1_10 ?no1_11 ?ne1_11 ?no1_12 ?ne1_12 ?no1_13 ?ne1_13 ?no1_14 ?ne1_14 ?hg6 ?hk6 ?hs6 ?hd6 ?ha6 ?hm6 ?hv6 ?hS6 ?kc6 ?no6_0 ?ne6_0 ?no6_1 ?ne6_1 ?no6_2 ?ne6_2 ?no6_3 ?ne6_3 ?no6_4 ?ne6_4 ?no6_5 ?ne6_5 ?no6_7 ?ne6_7 ?no6_8 ?ne6_8 ?no6_9 ?ne6_9 ?no6_10 ?ne6_10 ?no6_11 ?ne6_11 ?no6_12 ?ne6_12 ?no6_13 ?ne6_13 ?no6_14 ?ne6_14 ?hg14 ?hk14 ?hs14 ?hd14 ?ha14 ?hm14 ?hv14 ?hS14 ?kc14 ?no14_0 ?ne14_0 ?no14_1 ?ne14_1 ?no14_2 ?ne14_2 ?no14_3 ?ne14_3 ?no14_4 ?ne14_4 ?no14_5 ?ne14_5 ?no14_6 ?ne14_6 ?no14_7 ?ne14_7 ?no14_8 ?ne14_8 ?no14_9 ?ne14_9 ?no14_10 ?ne14_10 ?no14_11 ?ne14_11 ?no14_12 ?ne14_12 ?no14_13 ?ne14_13 ?xl14 ?sa14 ?bi14 ?bt14 ?bl14 ?bc14 ?bk14 ?bp14 ?xE1 ?xE6 ?a0 ?l0 ?e0 ?k0 ?a1 ?l1 ?e1 ?k1 ?a2 ?l2 ?e2 ?k2 ?a3 ?l3 ?e3 ?k3 ?a4 ?l4 ?e4 ?k4 ?a5 ?l5 ?e5 ?k5 ?a6 ?l6 ?e6 ?k6 ?a7 ?l7 ?e7 ?k7 ?a8 ?l8 ?e8 ?k8 ?a9 ?l9 ?e9 ?k9 ?a10 ?l10 ?e10 ?k10 ?a11 ?l11 ?e11 ?k11 ?a12 ?l12 ?e12 ?k12 ?a13 ?l13 ?e13 ?k13 ?a14 ?l14 ?e14 ?k14 ?a15 ?l15 ?e15 ?k15 ?a16 ?l16 ?e16 ?k16 ?a17 ?l17 ?e17 ?k17 ?a18 ?l18 ?e18 ?k18 ?a19 ?l19 ?e19 ?k19 ?a20 ?l20 ?e20 ?k20 ?a21 ?l21 ?e21 ?k21 ?a22 ?l22 ?e22 ?k22 ?a23 ?l23 ?e23 ?k23 ?a24 ?l24 ?e24 ?k24 ?a25 ?l25 ?e25 ?k25 ?a26 ?l26 ?e26 ?k26 ?a27 ?l27 ?e27 ?k27 ?a28 ?l28 ?e28 ?k28 ?a29 ?l29 ?e29 ?k29 ?a30 ?l30 ?e30 ?k30 ?a31 ?l31 ?e31 ?k31 ?z0 ?z1 ?z2 ?z3 ?z4 ?z5 ?z6 ?z7 ?z8 ?z9 ?z10 ?z11 ?z12 ?z13 ?z14 ?y0 ?y1 ?y2 ?y3 ?y4 ?ak ?lk ?aw ?lw ?zzValueError ?zzset ?rK ?hK ?iK ?nK2 ?rL ?hL ?iL ?nL2 ?rF ?hF ?iF ?nF2 ?rZ ?hZ ?iZ ?nZ2 ?dZK2 ?dZL2 ?dZF2
    (case sg => k_is)
    (case scl => k_is)
    (case sty => k_is)
    (case sbe => k_is)
    (case srd => k_is)
    (case sga => k_is)
    (case sfi => k_is)
    (case ohn => k_is)
    (case oht => k_is)
    (case cg0 => k_is)
    (case cc0 => k_is)
    (case cy0 => k_is)
    (case cg1 => k_is)
    (case cc1 => k_is)
    (case cy1 => k_is)
    (case cg2 => k_is)
    (case cc2 => k_is)
    (case cy2 => k_is)
    (case cg3 => k_is)
    (case cc3 => k_is)
    (case cy3 => k_is)
    (case cg4 => k_is)
    (case cc4 => k_is)
    (case cy4 => k_is)
    (case cg5 => k_is)
    (case cc5 => k_is)
    (case cy5 => k_is)
    (case cg6 => k_is)
    (case cc6 => k_is)
    (case cy6 => k_is)
    (case cg7 => k_is)
    (case cc7 => k_is)
    (case cy7 => k_is)
    (case cg8 => k_is)
    (case cc8 => k_is)
    (case cy8 => k_is)
    (case cg9 => k_is)
    (case cc9 => k_is)
    (case cy9 => k_is)
    (case cg10 => k_is)
    (case cc10 => k_is)
    (case cy10 => k_is)
    (case cg11 => k_is)
    (case cc11 => k_is)
    (case cy11 => k_is)
    (case cg12 => k_is)
    (case cc12 => k_is)
    (case cy12 => k_is)
    (case cg13 => k_is)
    (case cc13 => k_is)
    (case cy13 => k_is)
    (case cg14 => k_is)
    (case cc14 => k_is)
    (case cy14 => k_is)
    (case hg1 => k_is)
    (case hk1 => k_is)
    (case hs1 => k_is)
    (case hd1 => k_is)
    (case ha1 => k_is)
    (case hm1 => k_is)
    (case hv1 => k_is)
    (case hS1 => k_is)
    (case kc1 => k_is)
    (case no1_0 => k_is)
    (case ne1_0 => decide)
    (case no1_2 => k_is)
    (case ne1_2 => decide)
    (case no1_3 => k_is)
    (case ne1_3 => decide)
    (case no1_4 => k_is)
    (case ne1_4 => decide)
    (case no1_5 => k_is)
    (case ne1_5 => decide)
    (case no1_6 => k_is)
    (case ne1_6 => decide)
    (case no1_7 => k_is)
    (case ne1_7 => decide)
    (case no1_8 => k_is)
    (case ne1_8 => decide)
    (case no1_9 => k_is)
    (case ne1_9 => decide)
    (case no1_10 => k_is)
    (case ne1_10 => decide)
    (case no1_11 => k_is)
    (case ne1_11 => decide)
    (case no1_12 => k_is)
    (case ne1_12 => decide)
    (case no1_13 => k_is)
    (case ne1_13 => decide)
    (case no1_14 => k_is)
    (case ne1_14 => decide)
    (case hg6 => k_is)
    (case hk6 => k_is)
    (case hs6 => k_is)
    (case hd6 => k_is)
    (case ha6 => k_is)
    (case hm6 => k_is)
    (case hv6 => k_is)
    (case hS6 => k_is)
    (case kc6 => k_is)
    (case no6_0 => k_is)
    (case ne6_0 => decide)
    (case no6_1 => k_is)
    (case ne6_1 => decide)
    (case no6_2 => k_is)
    (case ne6_2 => decide)
    (case no6_3 => k_is)
    (case ne6_3 => decide)
    (case no6_4 => k_is)
    (case ne6_4 => decide)
    (case no6_5 => k_is)
    (case ne6_5 => decide)
    (case no6_7 => k_is)
    (case ne6_7 => decide)
    (case no6_8 => k_is)
    (case ne6_8 => decide)
    (case no6_9 => k_is)
    (case ne6_9 => decide)
    (case no6_10 => k_is)
    (case ne6_10 => decide)
    (case no6_11 => k_is)
    (case ne6_11 => decide)
    (case no6_12 => k_is)
    (case ne6_12 => decide)
    (case no6_13 => k_is)
    (case ne6_13 => decide)
    (case no6_14 => k_is)
    (case ne6_14 => decide)
    (case hg14 => k_is)
    (case hk14 => k_is)
    (case hs14 => k_is)
    (case hd14 => k_is)
    (case ha14 => k_is)
    (case hm14 => k_is)
    (case hv14 => k_is)
    (case hS14 => k_is)
    (case kc14 => k_is)
    (case no14_0 => k_is)
    (case ne14_0 => decide)
    (case no14_1 => k_is)
    (case ne14_1 => decide)
    (case no14_2 => k_is)
    (case ne14_2 => decide)
    (case no14_3 => k_is)
    (case ne14_3 => decide)
    (case no14_4 => k_is)
    (case ne14_4 => decide)
    (case no14_5 => k_is)
    (case ne14_5 => decide)
    (case no14_6 => k_is)
    (case ne14_6 => decide)
    (case no14_7 => k_is)
    (case ne14_7 => decide)
    (case no14_8 => k_is)
    (case ne14_8 => decide)
    (case no14_9 => k_is)
    (case ne14_9 => decide)
    (case no14_10 => k_is)
    (case ne14_10 => decide)
    (case no14_11 => k_is)
    (case ne14_11 => decide)
    (case no14_12 => k_is)
    (case ne14_12 => decide)
    (case no14_13 => k_is)
    (case ne14_13 => decide)
    (case xl14 => k_is)
    (case sa14 => k_is)
    (case bi14 => k_is)
    (case bt14 => k_is)
    (case bl14 => k_is)
    (case bc14 => k_is)
    (case bk14 => k_is)
    (case bp14 => k_is)
    (case xE1 => k_exc)
    (case xE6 => k_exc)
    (case a0 => k_is)
    (case l0 => k_is)
    (case e0 => k_is)
    (case k0 => k_is)
    (case a1 => k_is)
    (case l1 => k_is)
    (case e1 => k_is)
    (case k1 => k_is)
    (case a2 => k_is)
    (case l2 => k_is)
    (case e2 => k_is)
    (case k2 => k_is)
    (case a3 => k_is)
    (case l3 => k_is)
    (case e3 => k_is)
    (case k3 => k_is)
    (case a4 => k_is)
    (case l4 => k_is)
    (case e4 => k_is)
    (case k4 => k_is)
    (case a5 => k_is)
    (case l5 => k_is)
    (case e5 => k_is)
    (case k5 => k_is)
    (case a6 => k_is)
    (case l6 => k_is)
    (case e6 => k_is)
    (case k6 => k_is)
    (case a7 => k_is)
    (case l7 => k_is)
    (case e7 => k_is)
    (case k7 => k_is)
    (case a8 => k_is)
    (case l8 => k_is)
    (case e8 => k_is)
    (case k8 => k_is)
    (case a9 => k_is)
    (case l9 => k_is)
    (case e9 => k_is)
    (case k9 => k_is)
    (case a10 => k_is)
    (case l10 => k_is)
    (case e10 => k_is)
    (case k10 => k_is)
    (case a11 => k_is)
    (case l11 => k_is)
    (case e11 => k_is)
    (case k11 => k_is)
    (case a12 => k_is)
    (case l12 => k_is)
    (case e12 => k_is)
    (case k12 => k_is)
    (case a13 => k_is)
    (case l13 => k_is)
    (case e13 => k_is)
    (case k13 => k_is)
    (case a14 => k_is)
    (case l14 => k_is)
    (case e14 => k_is)
    (case k14 => k_is)
    (case a15 => k_is)
    (case l15 => k_is)
    (case e15 => k_is)
    (case k15 => k_is)
    (case a16 => k_is)
    (case l16 => k_is)
    (case e16 => k_is)
    (case k16 => k_is)
    (case a17 => k_is)
    (case l17 => k_is)
    (case e17 => k_is)
    (case k17 => k_is)
    (case a18 => k_is)
    (case l18 => k_is)
    (case e18 => k_is)
    (case k18 => k_is)
    (case a19 => k_is)
    (case l19 => k_is)
    (case e19 => k_is)
    (case k19 => k_is)
    (case a20 => k_is)
    (case l20 => k_is)
    (case e20 => k_is)
    (case k20 => k_is)
    (case a21 => k_is)
    (case l21 => k_is)
    (case e21 => k_is)
    (case k21 => k_is)
    (case a22 => k_is)
    (case l22 => k_is)
    (case e22 => k_is)
    (case k22 => k_is)
    (case a23 => k_is)
    (case l23 => k_is)
    (case e23 => k_is)
    (case k23 => k_is)
    (case a24 => k_is)
    (case l24 => k_is)
    (case e24 => k_is)
    (case k24 => k_is)
    (case a25 => k_is)
    (case l25 => k_is)
    (case e25 => k_is)
    (case k25 => k_is)
    (case a26 => k_is)
    (case l26 => k_is)
    (case e26 => k_is)
    (case k26 => k_is)
    (case a27 => k_is)
    (case l27 => k_is)
    (case e27 => k_is)
    (case k27 => k_is)
    (case a28 => k_is)
    (case l28 => k_is)
    (case e28 => k_is)
    (case k28 => k_is)
    (case a29 => k_is)
    (case l29 => k_is)
    (case e29 => k_is)
    (case k29 => k_is)
    (case a30 => k_is)
    (case l30 => k_is)
    (case e30 => k_is)
    (case k30 => k_is)
    (case a31 => k_is)
    (case l31 => k_is)
    (case e31 => k_is)
    (case k31 => k_is)
    (case z0 => k_is)
    (case z1 => k_is)
    (case z2 => k_is)
    (case z3 => k_is)
    (case z4 => k_is)
    (case z5 => k_is)
    (case z6 => k_is)
    (case z7 => k_is)
    (case z8 => k_is)
    (case z9 => k_is)
    (case z10 => k_is)
    (case z11 => k_is)
    (case z12 => k_is)
    (case z13 => k_is)
    (case z14 => k_is)
    (case y0 => k_is)
    (case y1 => k_is)
    (case y2 => k_is)
    (case y3 => k_is)
    (case y4 => k_is)
    (case ak => k_is)
    (case lk => k_is)
    (case aw => k_is)
    (case lw => k_is)
    (case zzValueError => k_is)
    (case zzset => k_is)
    (case rK => rfl)
    (case hK => k_is)
    (case iK => rfl)
    (case nK2 => first | kernel_rfl | rfl)
    (case rL => rfl)
    (case hL => k_is)
    (case iL => rfl)
    (case nL2 => first | kernel_rfl | rfl)
    (case rF => rfl)
    (case hF => k_is)
    (case iF => rfl)
    (case nF2 => first | kernel_rfl | rfl)
    (case rZ => rfl)
    (case hZ => k_is)
    (case iZ => rfl)
    (case nZ2 => first | kernel_rfl | rfl)
    (case dZK2 => decide)
    (case dZL2 => decide)
    (case dZF2 => decide)
