import PyProof.Rows.All
import Wide.All
import OpenK.AllK
import Wide.FinOn
import HandS.ForMost
import HandS.AnyAll
import HandS.GenList
import HandS.IsInst
import HandS.Zip
import HandS.Deep
import HandS.StrMore
import HandS.Codes
import HandS.FStr
import KE.KDictZip
import HandS.Gcd
import HandS.More
import HandS.Lambda
import HandS.ExcOwn
import HandS.TupAny
import PyProof.AutoSeq1
import HandS.WordsExc
import HandS.Dict
import KE.KDictPairs
import HandS.Wide
import HandS.Iter
import HandS.HotCalls
import HandS.ExcIs
import HandS.ExcField
import KE.KExcIs
import KE.KDflt
import HandS.EndTab
import HandS.ExcInit
import HandS.ClsMeth
import PySem.Challenge.RW_runsorts_k11_disks
set_option Elab.async false
set_option maxRecDepth 100000
set_option maxHeartbeats 4000000
namespace GX
open PySem PySem.Spec PyProof.Rows L2

/-- the table of a def's code objects, whatever has come into it -/
def TabE (P : Addr) : Heap → Prop := fun g =>
  ∃ rs : Array Value, g.get? P = some { cls := .none, data := .fields rs } ∧ TriplesOk rs.toList
def Tab (H : Hp) (P : Addr) : Prop := H P = some (.ext (TabE P))
theorem tabE_stable {P : Addr} : ∀ g1 g2 : Heap, TabE P g1 → (∀ o, g1.get? P = some o → g2.get? P = some o) → TabE P g2 :=
  fun _ _ ⟨rs, e, t⟩ k => ⟨rs, k _ e, t⟩

section
variable {X : Cx} {pins : List (Addr × Obj)} {σ : L2.St} {H : Hp} {s : Shared}

/-- the table has grown; what else stood is kept -/
theorem tab_grown {P : Addr} {rs : Array Value} {g : Heap} {G : Array GenState} {dd : Drawn} {tk : Nat}
    (I : Inv X pins σ H s) (hP : Tab H P)
    (kp : ∀ b o, b ≠ P → s.heap.get? b = some o → g.get? b = some o)
    (at_ : g.get? P = some { cls := .none, data := .fields rs }) (ht : TriplesOk rs.toList) (hG : AllBare G) :
    Inv X pins σ H { s with heap := g, gens := G, drawn := dd, toks := tk } := by
  have free_ne : ∀ b, H b = none → b ≠ P := fun b e z => by
    subst z
    have q : H b = some (.ext (TabE b)) := hP
    rw [q] at e
    cases e
  have own_ne : ∀ b c, H b = some (.own c) → b ≠ P := fun b c e z => by
    subst z
    have q : H b = some (.ext (TabE b)) := hP
    rw [q] at e
    cases e
  refine I.step (g' := G) (d' := dd) (ch := []) (fun b hb => by cases hb) (fun b o _ _ _ e n => kp b o (free_ne b n) e)
    (fun b o _ _ _ e n => ⟨o.slots, kp b o (free_ne b n) e⟩) (fun _ _ _ _ n => n) (fun b o _ e => ?_)
    (fun _ _ e => e) (fun _ _ _ e => e) (fun b qs e => ⟨#[], by rw [e, Array.append_empty]⟩) (fun m hm => ?_) (fun b u e => ?_) hG
  · by_cases z : b = P
    · subst z
      exact ⟨_, at_⟩
    · exact ⟨o, kp b o z e⟩
  · obtain ⟨o, es, ep, ho, r⟩ := hm
    exact ⟨o, es, ep, kp _ o (free_ne _ I.free) ho, r⟩
  · by_cases z : b = P
    · subst z
      have q : H b = some (.ext (TabE b)) := hP
      rw [q] at e
      cases e
      exact ⟨⟨rs, at_, ht⟩, ⟨_, at_⟩, tabE_stable⟩
    · refine (I.hok b u e).stay (fun c o hc q => kp c o ?_ q) (fun _ q => q) (fun _ _ q => q)
      rcases hc with y | y
      · rw [y]
        exact z
      · exact own_ne c b y

/-- the context of a generator expression's element -/
abbrev genCx (X : Cx) (B : Around) (s0 : Shared) (H0 : Hp) (ce : Env) (fp : List Addr) (pn : List (Addr × Obj)) : Cx :=
  { X with A := B, s_0 := s0, H_0 := H0, env := ce, outer := X.stack, stack := ce :: X.stack, ex := fp, fn := fun _ => false, pn := pn, xe := fun _ _ => False }
/-- its environment -/
abbrev gEnv (X : Cx) (sc : Scope) (C : Addr) (cv : Value) : Env :=
  genEnv sc (cloFrom X.env.cells sc.names []) C cv builtinsNs X.env

theorem gen_start {B : Around} {sc : Scope} {own : List (Str × Nat)} {fp : List Addr} {cv : Value} {g : Heap} {go fo : Obj} {m : Str → Option Value} {gs : GenState} {tk : Nat}
    (I : Inv X pins σ H s) (ok : BlkOk X.N X.env.scope sc own) (nocell : ∀ y ∈ sc.names, y.2 ≠ .cell) (hN : X.N.Nodup)
    (hfp : ∀ b ∈ fp, FpOk X pins H b ∧ b < s.heap.objs.size) (hB : X.calm = true → B.handled = none)
    (hF : B.frames = some (gEnv X sc s.heap.objs.size cv :: X.stack))
    (hn : g.Ns s.heap.objs.size m) (hs : Heap.SameBut s.heap.objs.size (s.heap.push fo) g)
    (hgo : ∀ v, go.data ≠ .cell v) (hgp : (g.push go).get? g.objs.size = some go) (hgs : gs.bare = true) :
    Inv (genCx X B s H (gEnv X sc s.heap.objs.size cv) fp [(g.objs.size, go)]) [] (wipe σ (own.map (·.2))) H
      { s with gens := s.gens.push gs, toks := tk, heap := g.push go } := by
  have caught : ∀ y ∈ sc.names, y.2 = .free → ∃ c, X.env.cells.lookup y.1 = some c := fun y hy e =>
    (ok.free y hy e).elim (fun z => I.ok.has _ (.inl z)) (fun z => I.ok.has _ (.inr z))
  have gsz : g.objs.size = s.heap.objs.size + 1 := by rw [hs.1, Heap.size_push]
  have kp1 : ∀ b o, s.heap.get? b = some o → g.get? b = some o := fun b o e =>
    hs.extBut b o (Nat.ne_of_lt (Heap.lt_size e)) (Heap.get?_push_of_some _ e)
  have kp : ∀ b o, s.heap.get? b = some o → (g.push go).get? b = some o := fun b o e => Heap.get?_push_of_some _ (kp1 b o e)
  have down : ∀ {y c}, (gEnv X sc s.heap.objs.size cv).cells.lookup y = some c → X.env.cells.lookup y = some c ∧ c < s.heap.objs.size := fun {y c} e => by
    have e' : (cloFrom X.env.cells sc.names []).lookup y = some c := e
    rcases cloFrom_mem (PySem.mem_of_lookup e') with q | ⟨q1, q2⟩
    · cases q
    · obtain ⟨c', hc'⟩ := caught _ q1 rfl
      have hc2 : X.env.cells.lookup y = some c' := hc'
      rw [hc2] at q2
      have q3 : c = c' := q2
      subst q3
      obtain ⟨v, z⟩ := I.cell _ _ hc2
      exact ⟨hc2, z.lt⟩
  have up : ∀ {y}, sc.names.lookup y = some .free → ∃ c, (gEnv X sc s.heap.objs.size cv).cells.lookup y = some c ∧ X.env.cells.lookup y = some c := fun {y} hl => by
    obtain ⟨c, e⟩ := mem_lookup (cloFrom_has (cells := X.env.cells) (acc := []) (PySem.mem_of_lookup hl))
    exact ⟨c, e, (down e).1⟩
  have young : ∀ b, b < s.heap.objs.size → b ≠ s.heap.objs.size := fun b hb => Nat.ne_of_lt hb
  have okG : (genCx X B s H (gEnv X sc s.heap.objs.size cv) fp [(g.objs.size, go)]).Ok := by
    refine ⟨I.ok.mod, ok.kind, I.ok.glob, rfl, Nat.le_refl _, fun y z c e1 e2 => I.ok.inj y z c (down e1).1 (down e2).1, fun y hy => ?_,
      (fun y c z _ => nomatch z), hB, hF, .inr ⟨rfl, rfl⟩, fun b hb => ⟨young b (hfp b hb).2, fun y c e z => ?_⟩, I.bs, Nat.le_trans I.ok.bsz I.sz,
      fun b o e hb => ?_, fun b hb z => ?_, I.stack, I.stkFree⟩
    · rcases hy with z | z
      · exact absurd rfl (nocell _ (PySem.mem_of_lookup z))
      · obtain ⟨c, e, _⟩ := up z
        exact ⟨c, e⟩
    · exact (hfp b hb).1.2.2.2.2.1 y c (down e).1 z
    · rcases (hfp b hb).1.2.2.2.1 with z | z
      · exact I.ok.noex b o e z
      · exact Nat.lt_irrefl _ (Nat.lt_of_lt_of_le (Heap.lt_size e) (Nat.le_trans I.ok.bsz z))
    · rcases List.mem_cons.mp (I.stkSub b z) with y | y
      · exact (hfp b hb).1.2.1 y
      · exact (hfp b hb).1.2.2.1 y
  refine ⟨okG, rfl, I.bare.push hgs, Un.kept kp, ⟨m, ?_, fun i y av e1 e2 e3 => ?_⟩, fun y c e => ?_, I.hok.fresh (Nat.le_refl _), fun y c e => I.freeC y c (down e).1, fun p hp => ?_, I.hok.kept kp, by rw [wipe_length]; exact I.len⟩
  · exact hn.push _
  · obtain ⟨e2, ne⟩ := wipe_some e2
    have notOwn : ∀ k, sc.names.lookup y = some k → k = .local ∨ k = .cell → False := fun k hk hk' => by
      rcases ok.own _ (PySem.mem_of_lookup hk) hk' with q | q
      · obtain ⟨p, hp, hpy⟩ := List.mem_map.mp q
        have e4 := ok.ix p hp
        have hpy' : p.1 = y := hpy
        rw [hpy'] at e4
        exact ne (List.mem_map.mpr ⟨p, hp, nodup_ix hN e4 e1⟩)
      · exact q (List.mem_of_getElem? e1)
    have hfree : sc.names.lookup y = some .free := by
      rcases e3 with z | z | z
      · exact (notOwn _ z (.inl rfl)).elim
      · exact (notOwn _ z (.inr rfl)).elim
      · exact z
    obtain ⟨m', _, hl⟩ := I.loc
    have q0 := ok.free _ (PySem.mem_of_lookup hfree) rfl
    have hv : Vis X.env.scope y := q0.elim (fun z => .inr (.inl z)) (fun z => .inr (.inr z))
    obtain ⟨u, r, q⟩ := hl i y av e1 e2 hv
    obtain ⟨c, h1, h2⟩ := up hfree
    refine ⟨u, r, .inr ⟨.inr hfree, c, h1, ?_⟩⟩
    rcases q with ⟨k, _⟩ | ⟨_, c', e', z⟩
    · have k' : X.env.scope.names.lookup y = some .local := k
      rcases q0 with z | z
      · have z' : X.env.scope.names.lookup y = some .cell := z
        rw [z'] at k'
        cases k'
      · have z' : X.env.scope.names.lookup y = some .free := z
        rw [z'] at k'
        cases k'
    · rw [h2] at e'
      cases e'
      exact z.keeps kp
  · obtain ⟨v, z⟩ := I.cell y c (down e).1
    exact ⟨v, z.keeps kp⟩
  · have e : p = (g.objs.size, go) := by simpa using hp
    subst e
    refine ⟨hgp, I.hok.fresh (by rw [gsz]; exact Nat.le_succ _), ?_, fun z => ?_, hgo⟩
    · show g.objs.size ≠ s.heap.objs.size
      rw [gsz]
      exact Nat.succ_ne_self _
    · have z' : g.objs.size ∈ frs X.stack := z
      obtain ⟨_, o, ho, _⟩ := I.stack.mem z'
      have q := Heap.lt_size ho
      rw [gsz] at q
      exact absurd q (Nat.not_lt.mpr (Nat.le_succ _))
end
end GX
set_option Elab.async false
set_option maxRecDepth 100000
set_option maxHeartbeats 4000000
namespace GX
open PySem PySem.Spec PyProof.Rows L2

/-- what is known when an element has been handed out: a truth; where it is true, the generator goes on at any state with the same heap -/
def YAll (Y : Cx) (τ : L2.St) (Qf : Hp → Prop) : Protocol := fun _ _ v s kap =>
  ∃ (b : Bool) (H : Hp), v = .bool b ∧ Inv Y [] τ H s ∧ (b = false → Qf H) ∧
    (b = true → ∀ s2 : Shared, s2.heap = s.heap → s2.os = s.os → AllBare s2.gens → kap (.send .none) s2)
abbrev RAll (Y : Cx) (τ : L2.St) (Qt : Hp → Prop) : Nat → Shared → Shared → Prop := fun _ _ s =>
  ∃ H : Hp, Inv Y [] τ H s ∧ Qt H
theorem inv_samehp {Y : Cx} {pins : List (Addr × Obj)} {τ : L2.St} {H : Hp} {s s2 : Shared} (I : Inv Y pins τ H s) (h : s2.heap = s.heap) (ho : s2.os = s.os) (hb : AllBare s2.gens) : Inv Y pins τ H s2 := by
  have J := I.call' (s' := s2) (H' := H) (ch := []) ho (by rw [h]; exact Un.refl) (by rw [h]; exact I.hok) hb (fun b z => by cases z)
  exact J

section
variable {Y : Cx} {B : Around} {elt tg iter : Expr} {sc : Scope} {gpos : Pos} {it : Addr} {fp : List Addr} {tn : Nat → Heap → Prop} {J : It} {g : TG} {te : TE} {vs : List Nat}

/-- one turn of the walk that a generator expression's elements pass -/
def Step (J : It) (g : TG) (te : TE) (vs : List Nat) (τ : L2.St) (Qt Qf : Hp → Prop) (W : Nat → Nat → Hp → Prop) : Prop :=
  ∀ i m H, W i m H → (J.stop i H ∧ Qt H) ∨ (J.go i H ∧ ∀ x H', J.yld i H x H' → g x τ H' fun τ2 H2 => wipe τ2 vs = τ ∧
    te τ2 H2 fun y H3 => ∃ b, y = V.bl b ∧ (b = true → ∃ m', m' < m ∧ W (i + 1) m' H3) ∧ (b = false → Qf H3))

theorem seg_all {τ : L2.St} {Qt Qf : Hp → Prop} {W : Nat → Nat → Hp → Prop}
    (hA : Y.A = B.over (.compLoop (.GeneratorExp elt [⟨tg, iter, [], 0⟩] sc gpos) 0 (.ref it) .none Y.env) [])
    (hc : Y.calm = true) (hco : Y.env.scope.isCoroutine = false) (hfp : ∀ b ∈ fp, b ∈ Y.ex) (hpn : ∀ p ∈ Y.pn, p.1 ∉ fp)
    (xe : Y.xe = fun _ _ => False)
    (pg : PG Y tg g) (pe : PE Y elt te) (T : Turn Y.prog Y.w Y.K tg J fp it tn) (turn : Step J g te vs τ Qt Qf W) (hτ : ∀ τ2, wipe τ2 vs = τ → ∀ (k : Nat) v, τ[k]? = some (some v) → τ2[k]? = some (some v)) :
    ∀ (n i m : Nat) (s0 s : Shared) (H : Hp), m < n → Inv Y [] τ H s → tn i s.heap → (∀ b ∈ fp, H b = none) → W i m H →
      Seg (model Y.prog Y.w) B (fun n s₀ r s₁ => r = .ok .next ∧ RAll Y τ Qt n s₀ s₁) (YAll Y τ Qf) n s0
        (.compLoop (.GeneratorExp elt [⟨tg, iter, [], 0⟩] sc gpos) 0 (.ref it) .none Y.env)
        ((model Y.prog Y.w).den (.compLoop (.GeneratorExp elt [⟨tg, iter, [], 0⟩] sc gpos) 0 (.ref it) .none Y.env)) [] s := by
  intro n
  induction n with
  | zero => intro i m s0 s H hm; exact absurd hm (Nat.not_lt_zero _)
  | succ n ih =>
    intro i m s0 s H hm I st nf w0
    have fpo : ∀ {pins' : List (Addr × Obj)} {τ' : L2.St} {H' : Hp} {s' : Shared}, Inv Y pins' τ' H' s' → (∀ p ∈ pins', p.1 ∉ fp) → (∀ b ∈ fp, H' b = none) → ∀ b ∈ fp, FpOk Y pins' H' b := fun {pins' τ' H' s'} I' hp hn b hb =>
      ⟨hn b hb, (I'.ok.exf b (hfp b hb)).1, I'.ok.exfs b (hfp b hb), .inl (hfp b hb), fun x c e => (I'.ok.exf b (hfp b hb)).2 x c e, fun p q z => by
        rcases List.mem_append.mp q with q | q
        · exact hpn p q (by rw [z]; exact hb)
        · exact hp p q (by rw [z]; exact hb)⟩
    show Seg _ B _ _ _ s0 _ ((compTurn (.GeneratorExp elt [⟨tg, iter, [], 0⟩] sc gpos) 0 (.ref it) .none Y.env).onRaise (leaving Y.env)) [] s
    rw [compTurn_gen, Sem.onRaise_eq_wrap]
    apply seg_bind_wrap
    apply wpAny_standAt
    apply seg_bind_wrap
    rw [← hA]
    rcases turn i m H w0 with ⟨stop, q⟩ | ⟨go, step⟩
    · refine wpAny_mono (T.done Y rfl rfl rfl hc i [] s τ H (fun _ _ => False) I (fpo I (fun _ z => by cases z) nf) st stop) (fun r s1 h1 => ?_) (fun _ _ z => z.elim)
      obtain ⟨hr, I1⟩ := h1
      subst hr
      exact seg_end (.ok .next) ⟨rfl, H, I1, q⟩
    · refine wpAny_mono (T.item Y rfl rfl rfl hc i [] s τ H (fun _ _ => False) I (fpo I (fun _ z => by cases z) nf) st go) (fun r s1 h1 => ?_) (fun _ _ z => z.elim)
      obtain ⟨u, hr, h1⟩ := h1
      subst hr
      apply seg_bind_wrap
      rw [← hA]
      refine wpAny_mono h1 (fun _ s2 h2 => ?_) (fun _ _ z => z.elim)
      obtain ⟨x, H2, I2, r2, y2, st2, n2⟩ := h2
      have I2' := I2.pinned (fpo I2 (fun _ z => by cases z) n2) (T.obj _ _ st2)
      apply seg_bind_wrap
      rw [← hA]
      refine wpAny_mono (pg.run _ s2 τ H2 x u _ I2' r2 (step x H2 y2)) (fun _ s3 h3 => ?_) (fun e s3 z => by rw [xe] at z; exact z.elim)
      obtain ⟨τ3, H3, I3, hw3, q3⟩ := h3
      have hy : ∀ v, yieldOut Y.env v = yieldValue v := fun v => by simp only [yieldOut, hco, Bool.false_eq_true, if_false]
      simp only [List.forIn_nil, pure_bind, if_true, hy]
      rw [Sem.bind_eq_wrap', Sem.bind_eq_wrap', Sem.wrap_wrap, Sem.wrap_wrap]
      apply seg_wrap
      rw [← hA]
      refine wpAny_mono (pe.run _ s3 τ3 H3 _ I3 q3) (fun v s4 h4 => ?_) (fun e s4 z => by rw [xe] at z; exact z.elim)
      obtain ⟨yv, H4, I4, r4, b, rfl, ht, hf⟩ := h4
      have hv : v = .bool b := r4
      subst hv
      have kp : ∀ b' ∈ fp, ∀ o, s2.heap.get? b' = some o → s4.heap.get? b' = some o ∧ H4 b' = none := fun b' hb o e => by
        have z := I4.pin (b', o) (List.mem_append_right _ (List.mem_append_right _ (mem_pinsAt hb e)))
        exact ⟨z.1, z.2.1⟩
      have J4 : Inv Y [] τ H4 s4 := (I4.unpinned (pins := [])).weak (by rw [← hw3, wipe_length]) fun k v e => hτ τ3 hw3 k v e
      refine seg_at (seg_yield rfl rfl rfl ⟨b, H4, rfl, J4, hf, fun hb s5 e5 o5 b5 => ?_⟩)
      obtain ⟨m', hm', w'⟩ := ht hb
      refine seg_again rfl (ih (i + 1) m' s5 s5 H4 (by omega) (inv_samehp J4 e5 o5 b5) ?_ (fun b' hb' => ?_) w')
      · rw [e5]
        exact T.keep _ _ _ st2 fun b' hb' o e => (kp b' hb' o e).1
      · obtain ⟨o, e, _⟩ := T.obj _ _ st2 b' hb'
        exact (kp b' hb' o e).2
end
end GX
set_option Elab.async false
set_option maxRecDepth 100000
set_option maxHeartbeats 4000000
namespace GX
open PySem PySem.Spec PyProof.Rows L2

theorem seg_all_start {P : Program} {w : World} {K : PySem.W.Frag} {B : Around} {R : GenEnd} {Yp : Protocol} {n : Nat} {s0 s : Shared} {elt tg iter : Expr} {sc : Scope} {gpos : Pos} {it : Addr} {fp : List Addr} {tn : Nat → Heap → Prop} {J : It} {ce : Env}
    (T : Turn P w K tg J fp it tn) (st : tn 0 s.heap)
    (loop : Seg (model P w) B R Yp n s0 (.compLoop (.GeneratorExp elt [⟨tg, iter, [], 0⟩] sc gpos) 0 (.ref it) .none ce)
      ((model P w).den (.compLoop (.GeneratorExp elt [⟨tg, iter, [], 0⟩] sc gpos) 0 (.ref it) .none ce)) [] s) :
    Seg (model P w) B R Yp n s0 (.compStart (.GeneratorExp elt [⟨tg, iter, [], 0⟩] sc gpos) 0 (.ref it) .none ce)
      ((model P w).den (.compStart (.GeneratorExp elt [⟨tg, iter, [], 0⟩] sc gpos) 0 (.ref it) .none ce)) [] s := by
  show Seg _ B _ _ _ s0 _ ((compStart (.GeneratorExp elt [⟨tg, iter, [], 0⟩] sc gpos) 0 (.ref it) .none ce).onRaise (leaving ce)) [] s
  unfold compStart
  rw [Sem.onRaise_eq_wrap]
  show Seg _ B _ _ _ s0 _ ((ask >>= _).wrap _ _ _ _) [] s
  apply seg_bind_wrap
  apply wpAny_askSetting
  split
  · exact seg_again rfl loop
  · apply seg_bind_wrap
    apply wpAny_rule
    show Seg _ B _ _ _ s0 _ ((standAt iter.pos >>= _).wrap _ _ _ _) [] s
    apply seg_bind_wrap
    apply wpAny_standAt
    apply seg_bind_wrap
    exact T.self _ 0 s _ _ st (seg_again rfl loop)

section
variable {Y : Cx} {A : Around} {a : Addr} {g : Nat} {go : Obj} {τ : L2.St} {Qt Qf : Hp → Prop}
theorem code_all {R : Result → Shared → Prop} (hh : A.handled = none) (hroom : A.depth < recursionLimit) (hpin : (a, go) ∈ Y.pn) (hgen : ∀ h : Heap, h.get? a = some go → h.IsGen a g)
    (hT : ∀ s H, Inv Y [] τ H s → Qt H → R (.ok (.ret (.bool true))) s) (hF : ∀ s H, Inv Y [] τ H s → Qf H → R (.ok (.ret (.bool false))) s) :
    ∀ (n : Nat) (s : Shared) (gs : GenState), s.heap.IsGen a g → s.heap.NoLimit → AllBare s.gens → s.gens[g]? = some gs →
      (∀ s2 : Shared, s2.heap = s.heap → s2.os = s.os → AllBare s2.gens →
        gs.Goes (model Y.prog Y.w) A.in1.in1 (fun n s₀ r s₁ => r = .ok .next ∧ RAll Y τ Qt n s₀ s₁) (YAll Y τ Qf) n (.send .none) s2) →
      codeAny (model Y.prog Y.w) A (.builtin "all.loop" ⟨[.ref a], []⟩) R s := by
  intro n
  induction n with
  | zero =>
    intro s gs hg hl hb hgs hgo
    refine codeAny_builtin F.entry_all_loop ?_
    rw [Around.under_plainId F.plain_all_loop _]
    show wpAny _ A.in1 (pyNext (.ref a) >>= _) _ _ s
    refine wpAny_bind (GenW.wpAny_gsz (n := g + 1) (Array.getElem?_eq_some_iff.mp hgs).1 (wpAny_pyNext_genexpQ (A := A.in1) (P := RAll Y τ Qt) hh hl hroom hg hgs (hgo _ rfl rfl (allBare_setGen hb rfl)) (fun v s1 gs' hb' hv hsz => ?_) (fun s1 hp h' hk hsz => ?_)))
    · obtain ⟨b, H, rfl, I, hf, ht⟩ := hv
      apply wpAny_bind
      apply wpAny_holding
      apply wpAny_truthy_bool
      apply wpAny_bind
      apply wpAny_letGo
      cases b with
      | true => exact (ht rfl s1 rfl rfl I.bare).elim
      | false =>
        simp only [Bool.false_eq_true, if_false]
        apply wpAny_bind
        apply wpAny_rule
        apply wpAny_pure
        exact hF _ H (inv_samehp I rfl rfl (allBare_setGen I.bare hb')) (hf rfl)
    · obtain ⟨H, I, q⟩ := hp
      apply wpAny_bind
      apply wpAny_rule
      apply wpAny_pure
      have I2 := inv_samehp (s2 := s1.setGen g .finished) I rfl rfl (allBare_setGen I.bare rfl)
      exact hT _ H (I2.kept (t' := (s1.setGen g .finished).toks) hk) q
  | succ n ih =>
    intro s gs hg hl hb hgs hgo
    refine codeAny_builtin F.entry_all_loop ?_
    rw [Around.under_plainId F.plain_all_loop _]
    show wpAny _ A.in1 (pyNext (.ref a) >>= _) _ _ s
    refine wpAny_bind (GenW.wpAny_gsz (n := g + 1) (Array.getElem?_eq_some_iff.mp hgs).1 (wpAny_pyNext_genexpQ (A := A.in1) (P := RAll Y τ Qt) hh hl hroom hg hgs (hgo _ rfl rfl (allBare_setGen hb rfl)) (fun v s1 gs' hb' hv hsz => ?_) (fun s1 hp h' hk hsz => ?_)))
    · obtain ⟨b, H, rfl, I, hf, ht⟩ := hv
      apply wpAny_bind
      apply wpAny_holding
      apply wpAny_truthy_bool
      apply wpAny_bind
      apply wpAny_letGo
      cases b with
      | true =>
        simp only [if_true]
        apply wpAny_pure
        refine ⟨plainId_quiet F.plain_all_loop _, ih _ gs' (hgen _ (I.pin (a, go) (List.mem_append_left _ hpin)).1) I.nolimit (allBare_setGen I.bare hb') (setGen_at ?_) fun s2 e1 e2 e3 => ht rfl s2 e1 e2 e3⟩
        rw [GenW.setGen_size] at hsz
        exact hsz
      | false =>
        simp only [Bool.false_eq_true, if_false]
        apply wpAny_bind
        apply wpAny_rule
        apply wpAny_pure
        exact hF _ H (inv_samehp I rfl rfl (allBare_setGen I.bare hb')) (hf rfl)
    · obtain ⟨H, I, q⟩ := hp
      apply wpAny_bind
      apply wpAny_rule
      apply wpAny_pure
      have I2 := inv_samehp (s2 := s1.setGen g .finished) I rfl rfl (allBare_setGen I.bare rfl)
      exact hT _ H (I2.kept (t' := (s1.setGen g .finished).toks) hk) q
end
end GX
set_option Elab.async false
set_option maxRecDepth 100000
set_option maxHeartbeats 4000000
namespace GX
open PySem PySem.Spec PyProof.Rows L2

section
variable {X : Cx} {pins : List (Addr × Obj)} {σ : L2.St} {H : Hp} {s : Shared}

/-- a generator expression has been made, ready to be walked, in the state s5; what stood ahead of its frame: s4 -/
structure Ready (X : Cx) (pins : List (Addr × Obj)) (σ : L2.St) (own : List (Str × Nat)) (sc : Scope) (elt tg iter : Expr) (gpos : Pos) (J : It) (H1 : Hp) (a : Addr) (s5 : Shared)
    (s4 : Shared) (cv : Value) (g : Nat) (go : Obj) (it : Addr) (fp : List Addr) (tn : Nat → Heap → Prop) : Prop where
  outer : Inv X pins σ H1 s4
  fps : ∀ b ∈ fp, FpOk X pins H1 b ∧ b < s4.heap.objs.size
  turn : Turn X.prog X.w X.K tg J fp it tn
  st : tn 0 s5.heap
  inner : ∀ B : Around, (X.calm = true → B.handled = none) → B.frames = some (gEnv X sc s4.heap.objs.size cv :: X.stack) →
    Inv (genCx X B s4 H1 (gEnv X sc s4.heap.objs.size cv) fp [(a, go)]) [] (wipe σ (own.map (·.2))) H1 s5
  gen : ∀ h : Heap, h.get? a = some go → h.IsGen a g
  at_ : s5.heap.get? a = some go
  old : a ∉ fp
  gs : s5.gens[g]? = some (.fresh (.compStart (.GeneratorExp elt [⟨tg, iter, [], 0⟩] sc gpos) 0 (.ref it) .none (gEnv X sc s4.heap.objs.size cv)))
  lim : s5.heap.NoLimit
  bare : AllBare s5.gens

theorem gx_make {c P : Addr} {own : List (Str × Nat)} {sc : Scope} {elt tg iter : Expr} {gpos : Pos} {wi : TI} {k : Nat} {R : It → Hp → Prop} {Q' : Value → Shared → Prop}
    (hr : Room k X.A) (TB : GxR.TabB X.base X.mg c P) (hcode : X.env.code = .ref c) (hN : X.N.Nodup)
    (ok : BlkOk X.N X.env.scope sc own) (nocell : ∀ y ∈ sc.names, y.2 ≠ .cell) (dot : sc.names.lookup (".0" : Str) = some NameKind.local) (hco : sc.isCoroutine = false)
    (hi : PI X tg iter wi) (hs : ∀ v, genFold iter X.env v = pure v)
    (I : Inv X pins σ H s) (h : wi σ H fun J H1 => Tab H1 P ∧ R J H1)
    (hQ : ∀ J H1 a s5 s4 cv g go it fp tn, R J H1 → Ready X pins σ own sc elt tg iter gpos J H1 a s5 s4 cv g go it fp tn → Q' (.ref a) s5) :
    wpAny (model X.prog X.w) X.A (eval (.GeneratorExp elt [⟨tg, iter, [], 0⟩] sc gpos) X.env) Q' X.xe s := by
  have caught : ∀ y ∈ sc.names, y.2 = .free → ∃ c, X.env.cells.lookup y.1 = some c := fun y hy e =>
    (ok.free y hy e).elim (fun z => I.ok.has _ (.inl z)) (fun z => I.ok.has _ (.inr z))
  refine wpAny_GeneratorExp_make hco (closure_ok caught) nocell dot ok.kind (by have := hr.dp; omega) ?_ hs
  refine thn (hi.run pins s σ H _ I h) fun xv s1 h1 => thn h1 fun itv s2 h2 => ?_
  obtain ⟨it, fp, tn, J, H2, rfl, I2, T, st2, f2, hT, hR⟩ := h2
  obtain ⟨⟨rs, hPs, ht⟩, _, _⟩ := I2.hok P _ hT
  have cd : PySem.W.CodeHd s2.heap c P := TB.code.keeps I2.bk
  refine ⟨I2.nolimit, ?_⟩
  have fsz : ∀ b ∈ fp, b < s2.heap.objs.size := fun b hb => by
    obtain ⟨o, e, _⟩ := T.obj _ _ st2 b hb
    exact Heap.lt_size e
  have neP : ∀ b ∈ fp, b ≠ P := fun b hb z => by
    have q := (f2 b hb).1
    have q2 : H2 P = some (.ext (TabE P)) := hT
    rw [z, q2] at q
    cases q
  have cont : ∀ (cv : Value) (s4 : Shared), Inv X pins σ H2 s4 → (∀ b o, b ≠ P → s2.heap.get? b = some o → s4.heap.get? b = some o) → s2.heap.objs.size ≤ s4.heap.objs.size →
      wpAny (model X.prog X.w) X.A (builtinsFor X.env.globals X.env.builtins) (fun bi s₄ => ∀ h', h'.Ns s₄.heap.objs.size (fun y => if y = ".0" then some (Value.ref it) else none) →
        Heap.SameBut s₄.heap.objs.size (s₄.heap.push { cls := .type "frame", data := .dict #[] }) h' →
          Q' (.ref h'.objs.size) { s₄ with
            gens := s₄.gens.push (.fresh (.compStart (.GeneratorExp elt [⟨tg, iter, [], 0⟩] sc gpos) 0 (.ref it) .none (genEnv sc (cloFrom X.env.cells sc.names []) s₄.heap.objs.size cv bi X.env))),
            toks := s₄.toks + 1 + 1 + 1,
            heap := h'.push { cls := .type "generator", data := .fields #[.int s₄.gens.size 0, .str "<genexpr>" (s₄.toks + 1), .str (X.env.qual ++ "<genexpr>") (s₄.toks + 1 + 1)] } }) X.xe s4 := by
    intro cv s4 I4 kp sz
    obtain ⟨bm, ob, e1, e2, e3, e4, e5, e6, e7, e8⟩ := TB.bm
    refine wpAny_builtinsFor (m := X.mg) (by rw [I4.ok.glob]; exact I4.mod.glob.keeps I4.bk) e1 e2 (I4.bk _ _ e5) e6 e7 e8 ?_
    intro h' hn' hs'
    have hsz : h'.objs.size = s4.heap.objs.size + 1 := by rw [hs'.1, Heap.size_push]
    have kp4 : ∀ b o, s4.heap.get? b = some o → (h'.push { cls := .type "generator", data := .fields #[.int s4.gens.size 0, .str "<genexpr>" (s4.toks + 1), .str (X.env.qual ++ "<genexpr>") (s4.toks + 1 + 1)] }).get? b = some o := fun b o e =>
      Heap.get?_push_of_some _ (hs'.extBut b o (Nat.ne_of_lt (Heap.lt_size e)) (Heap.get?_push_of_some _ e))
    have fok : ∀ b ∈ fp, FpOk X pins H2 b ∧ b < s4.heap.objs.size := fun b hb => ⟨f2 b hb, Nat.lt_of_lt_of_le (fsz b hb) sz⟩
    refine hQ J H2 h'.objs.size _ s4 cv s4.gens.size { cls := .type "generator", data := .fields #[.int s4.gens.size 0, .str "<genexpr>" (s4.toks + 1), .str (X.env.qual ++ "<genexpr>") (s4.toks + 1 + 1)] } it fp tn hR
      ⟨I4, fok, T, ?_, fun B hB hF => gen_start I4 ok nocell hN fok hB hF hn' hs' (fun v z => by cases z) (Heap.get?_push_size _ rfl) rfl, fun h e => ⟨_, _, _, e, rfl, rfl, rfl⟩, Heap.get?_push_size _ rfl, fun z => ?_, Array.getElem?_push_size .., I4.nolimit.keeps kp4, I4.bare.push rfl⟩
    · refine T.keep _ _ _ st2 fun b hb o e => kp4 b o (kp b o (neP b hb) e)
    · have q := (fok _ z).2
      rw [hsz] at q
      exact absurd q (Nat.not_lt.mpr (Nat.le_succ _))
  cases hf : codeAmong gpos rs.toList with
  | none =>
    refine wpAny_genexprCodeX hcode (cd.code hPs ht) (cd.tab hPs) hf fun c' h' tk hx hge hlt hco' _ htab' _ => ?_
    obtain ⟨o1, vs, f1, tf, fl, tg', inF, tx, tt, op, _, _, _, _, _, _, _, _, _, htr, _⟩ := hco'
    exact cont _ { s2 with heap := h', toks := tk } (tab_grown (tk := tk) (dd := s2.drawn) (G := s2.gens) I2 hT (fun b o hb e => hx b o hb e) htab'.2 htr I2.bare) (fun b o hb e => hx b o hb e) (Nat.le_trans hge (Nat.le_of_lt hlt))
  | some cv =>
    refine wpAny_genexprCode_hit hcode (cd.code hPs ht) hf ?_
    exact cont cv s2 I2 (fun b o _ e => e) (Nat.le_refl _)

/-- all(e for x in xs): J what is walked; W by the turn and a measure -/
def tAll (P : Addr) (wi : TI) (g : TG) (te : TE) (vs : List Nat) : TE := fun σ H Q => wi σ H fun J H1 => Tab H1 P ∧
  ∃ W : Nat → Nat → Hp → Prop, (∃ m, W 0 m H1) ∧ Step J g te vs (wipe σ vs) (Q (.bl true)) (Q (.bl false)) W

theorem over_gx {A : Around} {elt tg iter : Expr} {sc : Scope} {gpos : Pos} {it : Addr} {ce : Env} :
    (A.over (.compLoop (.GeneratorExp elt [⟨tg, iter, [], 0⟩] sc gpos) 0 (.ref it) .none ce) []).frames = A.frames.map (ce :: ·) := by
  show pushEnvs [ce] (pushEnvs [] A.frames) = _
  cases A.frames <;> rfl
theorem room_gx {A : Around} {k : Nat} {elt tg iter : Expr} {sc : Scope} {gpos : Pos} {it : Addr} {ce : Env} (r : Room (k + 1) A) :
    Room k (A.in1.in1.over (.compLoop (.GeneratorExp elt [⟨tg, iter, [], 0⟩] sc gpos) 0 (.ref it) .none ce) []) := by
  refine ⟨r.hd, ?_, ?_⟩
  · have := r.dp
    show A.depth + 0 + 1 + 3 * k + 5 < _
    omega
  · have := r.un
    show A.units + 1 + 1 + 0 + 3 + 16 * k + 200 < _
    omega

theorem pe_all {c P : Addr} {own : List (Str × Nat)} {sc : Scope} {elt tg iter : Expr} {p pos gpos : Pos} {wi : TI} {g : TG} {te : TE} {k : Nat}
    (hr : Room (k + 1) X.A) (hg : Gl X "all") (hm : X.mg "all" = none) (TB : GxR.TabB X.base X.mg c P) (hcode : X.env.code = .ref c) (hc : X.calm = true) (hN : X.N.Nodup)
    (ok : BlkOk X.N X.env.scope sc own) (nocell : ∀ y ∈ sc.names, y.2 ≠ .cell) (dot : sc.names.lookup (".0" : Str) = some NameKind.local) (hco : sc.isCoroutine = false)
    (hi : PI X tg iter wi) (pg : ∀ (B : Around) (s0 : Shared) (H0 : Hp) (C : Addr) (cv : Value) (fp : List Addr) (pn : List (Addr × Obj)), PG (genCx X B s0 H0 (gEnv X sc C cv) fp pn) tg g)
    (pe : ∀ (B : Around) (s0 : Shared) (H0 : Hp) (C : Addr) (cv : Value) (fp : List Addr) (pn : List (Addr × Obj)), Room k B → PE (genCx X B s0 H0 (gEnv X sc C cv) fp pn) elt te)
    (hs : ∀ v, genFold iter X.env v = pure v := by intro _; rfl)
    (he : starEach [.GeneratorExp elt [⟨tg, iter, [], 0⟩] sc gpos] X.env = (false, eval (.GeneratorExp elt [⟨tg, iter, [], 0⟩] sc gpos) X.env) :: starEach [] X.env := by rfl) :
    PE X (.Call (.Name "all" p) [.GeneratorExp elt [⟨tg, iter, [], 0⟩] sc gpos] [] pos) (tAll P wi g te (own.map (·.2))) := by
  refine ⟨fun pins s σ H Q I h => ?_⟩
  refine wpAny_Call_Name_kw (ld_blt I hg hm (show bootBuiltins "all" = some (.builtin "all") by decide +kernel) ?_)
  refine PyProof.Rows.callWith_builtin1 ?_ he (by rfl)
  rw [he]
  show wpAny _ _ (spliced ((false, eval (.GeneratorExp elt [⟨tg, iter, [], 0⟩] sc gpos) X.env) :: backTo pos (starEach [] X.env))) _ _ s
  refine Calls.spliced_cons (gx_make (own := own) (R := fun J H1 => ∃ W : Nat → Nat → Hp → Prop, (∃ m, W 0 m H1) ∧ Step J g te (List.map Prod.snd own) (wipe σ (List.map Prod.snd own)) (Q (.bl true)) (Q (.bl false)) W)
    hr TB hcode hN ok nocell dot hco hi hs I h fun J H1 a s5 s4 cv gn go it fp tn hR rd => ?_)
  obtain ⟨W, ⟨m0, w0⟩, step⟩ := hR
  refine Calls.spliced_nil ?_
  refine call_function_tree F.kind_all F.plain_all F.entry_all (F.args_all1 _) ?_
  unfold Builtin.«all»
  apply wpAny_bind (m := oneArg "all" _)
  apply wpAny_pure
  apply wpAny_bind
  refine wpAny_pyIter_gen (rd.gen _ rd.at_) ?_
  apply wpAny_pure
  refine ⟨plainId_quiet F.plain_all_loop _, ?_⟩
  -- the element's context
  have hB : X.calm = true → (X.A.in1.in1.over (.compLoop (.GeneratorExp elt [⟨tg, iter, [], 0⟩] sc gpos) 0 (.ref it) .none (gEnv X sc s4.heap.objs.size cv)) []).handled = none := fun z => I.ok.hd z
  have hF : (X.A.in1.in1.over (.compLoop (.GeneratorExp elt [⟨tg, iter, [], 0⟩] sc gpos) 0 (.ref it) .none (gEnv X sc s4.heap.objs.size cv)) []).frames = some (gEnv X sc s4.heap.objs.size cv :: X.stack) := by
    rw [over_gx]
    show X.A.frames.map _ = _
    rw [I.ok.frames]
    rfl
  have J5 := rd.inner _ hB hF
  have back : ∀ (s6 : Shared) (H6 : Hp), Inv (genCx X (X.A.in1.in1.over (.compLoop (.GeneratorExp elt [⟨tg, iter, [], 0⟩] sc gpos) 0 (.ref it) .none (gEnv X sc s4.heap.objs.size cv)) []) s4 H1 (gEnv X sc s4.heap.objs.size cv) fp [(a, go)]) [] (wipe σ (own.map (·.2))) H6 s6 →
      Inv X pins σ H6 s6 := fun s6 H6 I6 => by
    exact rd.outer.call' (ch := fp) I6.os I6.base I6.hok I6.bare fun b hb => ⟨(rd.fps b hb).1.2.2.2.1, (rd.fps b hb).1.2.1, (rd.fps b hb).1.2.2.2.2.1, (rd.fps b hb).1.2.2.2.2.2⟩
  refine code_all (Y := genCx X (X.A.in1.in1.over (.compLoop (.GeneratorExp elt [⟨tg, iter, [], 0⟩] sc gpos) 0 (.ref it) .none (gEnv X sc s4.heap.objs.size cv)) []) s4 H1 (gEnv X sc s4.heap.objs.size cv) fp [(a, go)])
    (A := X.A) (go := go) (g := gn) (τ := wipe σ (own.map (·.2))) (Qt := Q (.bl true)) (Qf := Q (.bl false)) hr.hd hr.depth (by simp) rd.gen
    (fun s6 H6 I6 q6 => ⟨.bl true, H6, back s6 H6 I6, rfl, q6⟩) (fun s6 H6 I6 q6 => ⟨.bl false, H6, back s6 H6 I6, rfl, q6⟩) (m0 + 1) s5 _ (rd.gen _ rd.at_) rd.lim rd.bare rd.gs (fun s7 e7 o7 b7 => ?_)
  have J7 := inv_samehp J5 e7 o7 b7
  have st7 : tn 0 s7.heap := by
    rw [e7]
    exact rd.st
  refine ⟨rfl, seg_all_start rd.turn st7 ?_⟩
  refine seg_all (Y := genCx X (X.A.in1.in1.over (.compLoop (.GeneratorExp elt [⟨tg, iter, [], 0⟩] sc gpos) 0 (.ref it) .none (gEnv X sc s4.heap.objs.size cv)) []) s4 H1 (gEnv X sc s4.heap.objs.size cv) fp [(a, go)])
    rfl hc hco (fun b hb => hb) (fun q hq => ?_) rfl (pg _ _ _ _ _ _ _) (pe _ _ _ _ _ _ _ (room_gx hr)) rd.turn step (fun τ2 hw k v e => ?_) (m0 + 1) 0 m0 s7 s7 H1 (Nat.lt_succ_self _) J7 st7 (fun b hb => (rd.fps b hb).1.1) w0
  · have e : q = (a, go) := by simpa using hq
    subst e
    exact rd.old
  · rw [← hw] at e
    exact (wipe_some e).1
end
end GX
set_option Elab.async false
set_option maxRecDepth 100000
set_option maxHeartbeats 4000000
namespace GX
open PySem PySem.Spec PyProof.Rows L2

/-- a walk of n turns by a word of its own: the next turn is reached -/
def AllNx (n : Nat) (Pv : Nat → Hp → Prop) (i : Nat) (H : Hp) : Prop := ∃ m', m' < n - i ∧ (m' = n - (i + 1) ∧ i + 1 ≤ n ∧ Pv (i + 1) H)
theorem AllNx.mk {n : Nat} {Pv : Nat → Hp → Prop} {i : Nat} {H : Hp} (hi : i < n) (p : Pv (i + 1) H) : AllNx n Pv i H := ⟨n - (i + 1), by omega, rfl, hi, p⟩
theorem all_by {J : It} {g : TG} {te : TE} {vs : List Nat} {τ : L2.St} {Qt Qf : Hp → Prop} {H1 : Hp} (n : Nat) (Pv : Nat → Hp → Prop) (h0 : Pv 0 H1)
    (turn : ∀ i H, i < n → Pv i H → J.go i H ∧ ∀ x H', J.yld i H x H' → g x τ H' fun τ2 H2 => wipe τ2 vs = τ ∧ te τ2 H2 fun y H3 => ∃ b, y = V.bl b ∧ (b = true → AllNx n Pv i H3) ∧ (b = false → Qf H3))
    (stop : ∀ H, Pv n H → J.stop n H ∧ Qt H) :
    ∃ W : Nat → Nat → Hp → Prop, (∃ m, W 0 m H1) ∧ Step J g te vs τ Qt Qf W := by
  refine ⟨fun i m H => m = n - i ∧ i ≤ n ∧ Pv i H, ⟨n, rfl, Nat.zero_le _, h0⟩, ?_⟩
  rintro i m H ⟨rfl, hi, p⟩
  by_cases hlt : i < n
  · obtain ⟨go, nx⟩ := turn i H hlt p
    exact .inr ⟨go, nx⟩
  · have e : i = n := by omega
    subst e
    exact .inl (stop H p)
theorem bf {b : Bool} (h : ¬ b = true) : b = false := by
  cases b with
  | true => exact absurd rfl h
  | false => rfl
end GX

namespace RS
open PySem PySem.Spec PyProof.Rows L2 GX
/-! ### defs as constants of the module -/
/-- the def st stands as the module's x; c: its code object -/
structure DefAt (K : PySem.W.Frag) (mg : Str → Option Value) (x : Str) (st : Stmt) (c : Addr) : Prop where
  ex : ∃ (f : Addr) (oc : Value) (od : Option Addr) (kV doc pm : Value) (an : Option Addr) (ct : Value) (osl : Array (Option Value)),
    mg x = some (.ref f) ∧ K.lookup f = some ⟨oc, od, .func (PySem.W.fnOf x x (defArgs st) (defBody st) (defScope st) .none kV doc pm an (.ref c) ct), osl⟩ ∧
    PySem.W.codeIn K (.ref c) x = true ∧ PySem.W.keepIn K (.ref f) = true
/-- what a caller needs of a def: its promise -/
structure Cal (P : Program) (w : World) (K : PySem.W.Frag) (mg : Str → Option Value) (base : Heap) (CX : CXT) (k : Nat) (x : Str) (ps : List Str) (sp : Sp) : Prop where
  ex : ∃ (f : Addr) (fd : FuncData), FnOk P w K mg base CX k f fd ps sp ∧ mg x = some (.ref f) ∧ PySem.W.keepIn K (.ref f) = true ∧ Binds K fd ps []
section
variable {P : Program} {w : World} {K : PySem.W.Frag} {mg : Str → Option Value} {base : Heap}
theorem def_ok {CX : CXT} {x : Str} {st : Stmt} {c : Addr} {N ps : List Str} {k : Nat} {sp : Sp} (D : DefAt K mg x st c) (S : FnScope N ps (defScope st)) (len : ∀ vs H Q E, sp vs H Q E → vs.length = ps.length)
    (hb : ∀ (kV doc pm : Value) (an : Option Addr) (cdv ct : Value) (us : List Value), us.length = ps.length → bindArgs (PySem.W.fnOf x x (defArgs st) (defBody st) (defScope st) .none kV doc pm an cdv ct) ⟨us, []⟩ = pure (ps.zip us))
    (hbody : ∀ (f : Addr) (A : Around) (outer : List Env) (s : Shared) (H : Hp) (vs : List V) (Q : VK) (E : XK), Room k (A.deeper (envOfC x (defScope st) s.heap.objs.size f (.ref c))) → sp vs H Q E →
      ∃ t, PSs (cxOf CX P w K mg base N x (defScope st) f (.ref c) A outer s H E) (defBody st) t ∧ t { nx := fun _ H' => Q .non H', rt := Q } (start N vs) H) :
    Cal P w K mg base CX (k + 1) x ps sp := by
  obtain ⟨f, oc, od, kV, doc, pm, an, ct, osl, hm, lk, hcd, kp⟩ := D.ex
  exact ⟨f, _, fn_of lk hcd S len fun A outer s H vs Q E hr hsp => hbody f A outer s H vs Q E hr hsp, hm, kp, .all (hb kV doc pm an (.ref c) ct)⟩
/-- .. that no exception leaves -/
theorem def_ok0 {x : Str} {st : Stmt} {c : Addr} {N ps : List Str} {k : Nat} {sp : Sp} (D : DefAt K mg x st c) (S : FnScope N ps (defScope st)) (len : ∀ vs H Q E, sp vs H Q E → vs.length = ps.length)
    (hb : ∀ (kV doc pm : Value) (an : Option Addr) (cdv ct : Value) (us : List Value), us.length = ps.length → bindArgs (PySem.W.fnOf x x (defArgs st) (defBody st) (defScope st) .none kV doc pm an cdv ct) ⟨us, []⟩ = pure (ps.zip us))
    (hbody : ∀ (f : Addr) (A : Around) (outer : List Env) (s : Shared) (H : Hp) (vs : List V) (Q : VK) (E : XK), Room k (A.deeper (envOfC x (defScope st) s.heap.objs.size f (.ref c))) → sp vs H Q E →
      ∃ t, PSs (cxOf CX0 P w K mg base N x (defScope st) f (.ref c) A outer s H E).nox (defBody st) t ∧ t { nx := fun _ H' => Q .non H', rt := Q } (start N vs) H) :
    Cal P w K mg base CX0 (k + 1) x ps sp :=
  def_ok D S len hb fun f A outer s H vs Q E hr hsp => by
    obtain ⟨t, ht, q⟩ := hbody f A outer s H vs Q E hr hsp
    exact ⟨t, ht.nox, q⟩
end
section
variable {X : Cx} {CX : CXT} {k j : Nat} {ps : List Str} {sp : Sp} {E : XK} {x : Str} {p pos : Pos} {e : Expr} {es : List Expr} {t : TA}
theorem pe_c (c : Cal X.prog X.w X.K X.mg X.base CX k x ps sp) (hr : Room j X.A) (hk : k ≤ j) (hg : Gl X x) (hx : Passes CX X E) (ha : PA X (e :: es) t) (hdb : (x == ("__debug__" : Str)) = false := by decide)
    (he : starEach (e :: es) X.env = (false, eval e X.env) :: starEach es X.env := by rfl) (hpl : (backTo pos (starEach es X.env)).any (·.1) = false := by rfl) :
    PE X (.Call (.Name x p) (e :: es) [] pos) (tCall sp [] E t) := by
  obtain ⟨f, fd, F, hm, kp, hb⟩ := c.ex
  exact pe_call F (hr.mono hk) hg hm kp hb .nil hx ha hdb he hpl
end

/-! ### data -/
theorem sqT_same {K : PySem.W.Frag} {H H' : Hp} {a : Addr} {xs : List V} (e : Same H H') (h : SqT K H a xs) : SqT K H' a xs := by
  rcases h with (h | ⟨o, h⟩) | h
  · exact .inl (.inl (e _ _ h))
  · exact .inl (.inr ⟨o, e _ _ h⟩)
  · exact .inr h
mutual
theorem dp_same {K : PySem.W.Frag} {H H' : Hp} (e : Same H H') : ∀ (d : PyData) {v : V}, Dp K H v d → Dp K H' v d
  | .none, _, .non => .non
  | .bool b, _, .bl _ => .bl b
  | .int i, _, .int _ => .int i
  | .str x, _, .str _ => .str x
  | .list ds, _, .lst h hs => .lst (e.seq h) (dpAll_same e ds hs)
  | .tuple ds, _, .tup h hs => .tup (sqT_same e h) (dpAll_same e ds hs)
  | .dict _, _, h => nomatch h
theorem dpAll_same {K : PySem.W.Frag} {H H' : Hp} (e : Same H H') : ∀ (ds : List PyData) {vs : List V}, DpAll K H vs ds → DpAll K H' vs ds
  | [], _, .nil => .nil
  | d :: ds, _, .cons h hs => .cons (dp_same e d h) (dpAll_same e ds hs)
end
theorem dpLen {K : PySem.W.Frag} {H : Hp} : ∀ {vs : List V} {ds : List PyData}, DpAll K H vs ds → vs.length = ds.length
  | _, _, .nil => rfl
  | _, _, .cons _ t => congrArg (· + 1) (dpLen t)
theorem dpGet {K : PySem.W.Frag} {H : Hp} : ∀ {vs : List V} {ds : List PyData} {i : Nat} {v : V}, DpAll K H vs ds → vs[i]? = some v → ∃ d, ds[i]? = some d ∧ Dp K H v d
  | _, _, _, _, .nil, e => by simp at e
  | _, _, 0, _, .cons h _, e => by
    simp at e
    subst e
    exact ⟨_, rfl, h⟩
  | _, _, i + 1, v, .cons _ t, e => by
    obtain ⟨d, h1, h2⟩ := dpGet (i := i) (v := v) t (by simpa using e)
    exact ⟨d, by simpa using h1, h2⟩
theorem dpGet' {K : PySem.W.Frag} {H : Hp} {vs : List V} {ds : List PyData} {i : Nat} {d : PyData} (h : DpAll K H vs ds) (e : ds[i]? = some d) : ∃ v, vs[i]? = some v ∧ Dp K H v d := by
  have hl := dpLen h
  have hi : i < vs.length := by
    rw [hl]
    exact (List.getElem?_eq_some_iff.mp e).1
  obtain ⟨d', e', h'⟩ := dpGet h (List.getElem?_eq_getElem hi)
  rw [e] at e'
  cases e'
  exact ⟨_, List.getElem?_eq_getElem hi, h'⟩
theorem dpApp {K : PySem.W.Frag} {H : Hp} : ∀ {vs ws : List V} {ds es : List PyData}, DpAll K H vs ds → DpAll K H ws es → DpAll K H (vs ++ ws) (ds ++ es)
  | _, _, _, _, .nil, h => h
  | _, _, _, _, .cons h t, q => .cons h (dpApp t q)

/-- the name of a datum's type -/
def tyN : PyData → String
  | .none => "NoneType"
  | .bool _ => "bool"
  | .int _ => "int"
  | .str _ => "str"
  | .list _ => "list"
  | .tuple _ => "tuple"
  | .dict _ => "dict"
/-- isinstance(d, T), d's type being n -/
def isT (T n : String) : Bool := T == n || (T == "int" && n == "bool")
def isI (T : String) (d : PyData) : Bool := isT T (tyN d)
theorem kit_names : ∀ n ∈ ["NoneType", "bool", "int", "str", "list", "tuple"], ∀ T ∈ ["int", "bool", "str", "list", "tuple"], kitB n T = some (isT T n) := by decide +kernel
theorem dp_ty {K : PySem.W.Frag} {H : Hp} {v : V} {d : PyData} (h : Dp K H v d) : TyX K H v (.type (tyN d)) := by
  cases h with
  | non => exact .base .non
  | bl b => exact .base (.bl b)
  | int i => exact .base (.int i)
  | str x => exact .base (.str x)
  | lst q _ =>
    rcases q with (q | ⟨o, q⟩) | ⟨o, its, n, q, c, _⟩
    · exact .base (.lst q)
    · exact .base (.frz q)
    · exact .kList q c
  | tup q _ =>
    rcases q with (q | ⟨o, q⟩) | ⟨o, its, n, q, c, _⟩
    · exact .base (.tup q)
    · exact .fTuple q
    · exact .kTuple q c
theorem kit_isI {K : PySem.W.Frag} {T : String} (hT : T ∈ ["int", "bool", "str", "list", "tuple"]) {H : Hp} {v : V} {d : PyData} (h : Dp K H v d) : PySem.W.kitOne K (.type (tyN d)) (.type T) = some (isI T d) := by
  refine kit_ty (kit_names _ ?_ _ hT)
  cases h <;> simp [tyN]
theorem isi_at {K : PySem.W.Frag} {H : Hp} {v : V} {d : PyData} {T : String} {Q : VK} (h : Dp K H v d) (q : Q (.bl (isI T d)) H) (hT : T ∈ ["int", "bool", "str", "list", "tuple"] := by simp) : rIsi K [v, .ty T] H Q :=
  ⟨v, .ty T, _, _, isI T d, rfl, .ty T, dp_ty h, kit_isI hT h, q⟩
end RS
set_option Elab.async false
set_option maxRecDepth 100000
set_option maxHeartbeats 4000000
namespace RS
open PySem PySem.Spec PyProof.Rows L2 GX
section
variable {X : Cx}
/-! ### rules whose readings speak of data -/
/-- isinstance(x, T) -/
theorem call_isiD : CallR X (.builtin "isinstance") (fun xs H Q => ∃ x T d, xs = [x, .ty T] ∧ T ∈ ["int", "bool", "str", "list", "tuple"] ∧ Dp X.K H x d ∧ Q (.bl (isI T d)) H) := by
  intro pins s σ H xs us Q I r ⟨x, T, d, e, hT, hd, q⟩
  subst e
  exact call_isi pins s σ H _ us Q I r ⟨x, .ty T, _, _, isI T d, rfl, .ty T, dp_ty hd, kit_isI hT hd, q⟩
/-- how many items -/
def lenD : PyData → Option Nat
  | .list ds => some ds.length
  | .tuple ds => some ds.length
  | .str x => if x.length ≤ sizeLine then some x.length else none
  | _ => none
/-- len(x) of a list, a tuple, a text -/
theorem call_lenD : CallR X (.builtin "len") (fun xs H Q => ∃ x d n, xs = [x] ∧ Dp X.K H x d ∧ lenD d = some n ∧ Q (.int n) H) := by
  intro pins s σ H xs us Q I r ⟨x, d, n, e, hd, hn, q⟩
  subst e
  cases hd with
  | non => cases hn
  | bl _ => cases hn
  | int _ => cases hn
  | str y =>
    simp only [lenD] at hn
    split at hn
    · rename_i hz
      cases hn
      exact call_len_str pins s σ H _ us Q I r ⟨y, rfl, hz, q⟩
    · cases hn
  | @lst a ys ds h hs =>
    cases hn
    rw [← dpLen hs] at q
    exact call_len_seq pins s σ H _ us Q I r ⟨a, ys, rfl, .inl h, q⟩
  | @tup a ys ds h hs =>
    cases hn
    rw [← dpLen hs] at q
    exact call_len_seq pins s σ H _ us Q I r ⟨a, ys, rfl, .inr h, q⟩
/-- the items of a list or tuple -/
def itemsD : PyData → Option (List PyData)
  | .list ds => some ds
  | .tuple ds => some ds
  | _ => none
/-- x[i] of a list or a tuple -/
theorem ixD : IxR X (fun x y H Q => ∃ d ds i d', Dp X.K H x d ∧ itemsD d = some ds ∧ y = .int i ∧ atI ds i = some d' ∧ ∀ v, Dp X.K H v d' → Q v H) := by
  intro value slice pins s σ H x y v u Q I rx ry ⟨d, ds, i, d', hd, hi, ey, ha, q⟩ hs
  have at_ : ∀ {vs : List V}, DpAll X.K H vs ds → ∃ v, atI vs i = some v ∧ Dp X.K H v d' := fun {vs} hv => by
    unfold atI at ha ⊢
    rw [← dpLen hv] at ha
    cases hx : ixN vs.length i with
    | none => rw [hx] at ha; cases ha
    | some j =>
      rw [hx] at ha
      exact dpGet' hv ha
  cases hd with
  | non => cases hi
  | bl _ => cases hi
  | int _ => cases hi
  | str _ => cases hi
  | @lst a ys es h hes =>
    cases hi
    obtain ⟨z, hz, hzd⟩ := at_ hes
    exact ix_list value slice pins s σ H _ y v u Q I rx ry ⟨a, ys, i, z, rfl, ey, h, hz, q z hzd⟩ hs
  | @tup a ys es h hes =>
    cases hi
    obtain ⟨z, hz, hzd⟩ := at_ hes
    exact ix_tup value slice pins s σ H _ y v u Q I rx ry ⟨a, ys, i, z, rfl, ey, h, hz, q z hzd⟩ hs
end
end RS
set_option Elab.async false
set_option maxRecDepth 100000
set_option maxHeartbeats 4000000
namespace RS
open PySem L2
def top (i : Nat) : Stmt := PySem.Challenge.pw_runsorts_k11_disks.main.body.getD i (.Pass ⟨0, 0, 0, 0⟩)

abbrev s_BadRows_init : Stmt := inClass (top 4) 0
abbrev s_BadRuns_init : Stmt := inClass (top 5) 0
abbrev s_BadText_init : Stmt := inClass (top 16) 0
abbrev sIsNumber : Stmt := top 18
abbrev s_check_block : Stmt := top 22
abbrev s_check_weight : Stmt := top 23
abbrev s_Disk_init : Stmt := inClass (top 24) 0
abbrev s_Disk_write : Stmt := inClass (top 24) 1
abbrev s_Disk_settle : Stmt := inClass (top 24) 2
abbrev s_Disk_read : Stmt := inClass (top 24) 3
abbrev s_Disk_arm : Stmt := inClass (top 24) 4
abbrev s_Disk_stop : Stmt := inClass (top 24) 5
abbrev s_Disk_again : Stmt := inClass (top 24) 6
abbrev s_Disk_blocks : Stmt := inClass (top 24) 7
abbrev s_Disk_let_go : Stmt := inClass (top 24) 8
abbrev s_Disk_do_deed : Stmt := inClass (top 24) 9
abbrev s_Disk_check_runs : Stmt := inClass (top 24) 10
abbrev sBegun : Stmt := top 26
abbrev sTake : Stmt := top 27
abbrev sAlike : Stmt := top 28
abbrev sClass : Stmt := top 29
abbrev sTold : Stmt := top 30
abbrev sAll : Stmt := top 31
abbrev s__law_nest : Stmt := top 32
abbrev s__law_what : Stmt := top 33
abbrev s__law_weight : Stmt := top 34
abbrev s__law_made : Stmt := top 35
abbrev s__law_fall : Stmt := top 36
abbrev s__law_count : Stmt := top 37
abbrev s__law_write : Stmt := top 38
abbrev s__law_arms : Stmt := top 39
abbrev s__law_is : Stmt := top 40
abbrev sLaw : Stmt := top 41

abbrev nKinds : Str := "_law_kinds"

/-- what the module's names hold -/
structure Txt (K : PySem.W.Frag) (mg : Str → Option Value) : Prop where
  isinstance : mg "isinstance" = none
  int_ : mg "int" = none
  bool_ : mg "bool" = none
  str_ : mg "str" = none
  list_ : mg "list" = none
  tuple_ : mg "tuple" = none
  len : mg "len" = none
  all : mg "all" = none
  zip : mg "zip" = none
  enumerate : mg "enumerate" = none
  ord : mg "ord" = none
  range : mg "range" = none
  sorted : mg "sorted" = none
  max : mg "max" = none
  min : mg "min" = none
  sum : mg "sum" = none
end RS
set_option Elab.async false
set_option maxRecDepth 100000
set_option maxHeartbeats 4000000
namespace RS
open PySem PySem.Spec PyProof.Rows L2 GX

/-! ### the mathematics: what a number, a word, a value, a row is -/
def isNum (d : PyData) : Bool := isI "int" d && !isI "bool" d

section
variable {P : Program} {w : World} {K : PySem.W.Frag} {mg : Str → Option Value} {base : Heap}
theorem scIsNumber : FnScope ["value"] ["value"] (defScope sIsNumber) := ⟨rfl, rfl, rfl, by decide +kernel, rfl, by decide +kernel, by decide +kernel⟩
def spNum (K : PySem.W.Frag) : Sp := fun vs H Q _ => ∃ (v : V) (d : PyData), vs = [v] ∧ Dp K H v d ∧ Q (.bl (isNum d)) H
theorem is_number_ok {c : Addr} (D : DefAt K mg "is_number" sIsNumber c) (T : Txt K mg) : Cal P w K mg base CX0 1 "is_number" ["value"] (spNum K) := by
  have sc := scIsNumber
  refine def_ok0 D sc (fun vs H Q E h => ?_) (fun _ _ _ _ _ _ us hl => match us, hl with | [_], _ => rfl) (fun f A outer s H vs Q E hr h => ?_)
  · obtain ⟨v, d, rfl, _⟩ := h
    rfl
  · obtain ⟨v, d, rfl, hd, k⟩ := h
    refine ⟨_, (pss_one (ps_ret (pe_and (pe_callB call_isiD (by rfl) T.isinstance (by decide +kernel) (pa_cons (pv 0) (pa_cons (pe_bltn (v := V.ty "int") (u := Value.type "int") (by rfl) T.int_ (by decide +kernel) rfl) pa_nil))) (pe_one (pe_not (pe_callB call_isiD (by rfl) T.isinstance (by decide +kernel) (pa_cons (pv 0) (pa_cons (pe_bltn (v := V.ty "bool") (u := Value.type "bool") (by rfl) T.bool_ (by decide +kernel) rfl) pa_nil)))))))), ?_⟩
    refine ⟨_, rfl, _, _, _, rfl, by simp, hd, _, rfl, ?_⟩
    refine ite2 (fun h1 => ?_) (fun h1 => ?_)
    · refine ⟨_, rfl, _, _, _, rfl, by simp, hd, _, rfl, ?_⟩
      have e : isNum d = !isI "bool" d := by unfold isNum; rw [h1, Bool.true_and]
      rw [← e]
      exact k
    · have e : isNum d = false := by unfold isNum; rw [bf h1, Bool.false_and]
      rw [← e]
      exact k

end
end RS
set_option Elab.async false
set_option maxRecDepth 100000
set_option maxHeartbeats 4000000
namespace RS
open PySem PySem.Spec PyProof.Rows L2 GX

/-- many new objects are laid and tracked at once -/
theorem laid_many {X : Cx} {pins : List (Addr × Obj)} {σ : L2.St} {H H2 : Hp} {s : Shared} {g : Heap} {tk : Nat} (I : Inv X pins σ H s) (kp : ∀ b u, s.heap.get? b = some u → g.get? b = some u)
    (old : ∀ b, b < s.heap.objs.size → H2 b = H b) (new : ∀ b o, s.heap.objs.size ≤ b → H2 b = some o → ObjOk X.prog X.w H2 g b o) : Inv X pins σ H2 { s with heap := g, toks := tk } := by
  have up : ∀ b o, H b = some o → H2 b = some o := fun b o e => by rw [old b (I.hok.lt e)]; exact e
  refine I.un (t' := tk) ⟨fun b o e _ _ _ => kp b o e, fun b o e _ _ _ => ⟨o.slots, kp b o e⟩, fun b o e n _ => by rw [old b (Heap.lt_size e)]; exact n, fun b o e _ => ⟨o, kp b o e⟩,
    fun b xs e => up b _ e, fun b o u e => up b _ e, fun b ps e => ⟨#[], by rw [up b _ e, Array.append_empty]⟩⟩ (fun b o e => ?_)
  by_cases hb : b < s.heap.objs.size
  · rw [old b hb] at e
    exact (I.hok b o e).stay (fun c u _ q => kp c u q) (fun c q => up c _ q) (fun c xs q => up c _ q)
  · exact new b o (Nat.le_of_not_lt hb) e

theorem enum_no_len : typeLookup (.type "enumerate") "__len__" = pure none := by rw [typeLookup_type, builtinLookup_eq_fast]; kernel_rfl
theorem enum_no_hint : typeLookup (.type "enumerate") "__length_hint__" = pure none := by rw [typeLookup_type, builtinLookup_eq_fast]; kernel_rfl

/-- the enumeration e over the iterator it of the list l stands ahead of item i -/
def EnumAt (h : Heap) (e it l : Addr) (i : Nat) : Prop :=
  h.IsListIter it l i ∧ ((i = 0 ∧ IsEnum h e it 0 .none) ∨ ∃ (T : Addr) (f : Bool) (x : Value) (o : Obj), IsEnumHeld h e it (i : Int) x T f ∧ h.get? T = some o ∧ T ≠ e ∧ T ≠ it)
/-- the pairs that have been put into acc -/
def Pairs (h : Heap) (lo : Nat) (items : Array Value) (acc : Array Value) : Prop :=
  ∀ j v, acc[j]? = some v → ∃ (T : Addr) (tk : Nat) (x : Value), v = .ref T ∧ lo ≤ T ∧ items[j]? = some x ∧ h.get? T = some { cls := .type "tuple", data := .seq #[.int (j : Nat) tk, x] }
section
variable {prog : Program} {w : World} {A : Around} {s0 : Shared} {S e it l : Addr} {items : Array Value}
theorem enum_next {E : Value → Shared → Prop} {s : Shared} {i : Nat} {x : Value} {Q : Option Value → Shared → Prop} (hs : EnumAt s.heap e it l i) (hl : s.heap.IsList l items) (hx : items[i]? = some x) (hne : e ≠ it)
    (he : e < s.heap.objs.size) (hi : it < s.heap.objs.size)
    (hQ : ∀ g, EnumAt g e it l (i + 1) → g.get? s.heap.objs.size = some { cls := .type "tuple", data := .seq #[.int (i : Nat) s.toks, x] } → (∀ b o, b ≠ e → b ≠ it → s.heap.get? b = some o → g.get? b = some o) →
      Q (some (.ref s.heap.objs.size)) { s with heap := g, toks := s.toks + 1 }) : wpAny (model prog w) A (pyNext (.ref e)) Q E s := by
  obtain ⟨hit, ⟨rfl, h0⟩ | ⟨T, f, y, o, h1, hT, hTe, hTi⟩⟩ := hs
  · refine wpAny_pyNext_enum_item (i := 0) h0 hit hl hx hne fun g a b c _ d => hQ g ⟨b, .inr ⟨_, _, _, _, a, c, Nat.ne_of_gt he, Nat.ne_of_gt hi⟩⟩ c d
  · exact wpAny_pyNext_enum_item_held h1 hT hTe hTi hit hl hx hne fun g a b c _ d => hQ g ⟨b, .inr ⟨T, true, y, o, a, d T o hTe hTi hT, hTe, hTi⟩⟩ c d
theorem enum_stop {E : Value → Shared → Prop} {s : Shared} {i : Nat} {Q : Option Value → Shared → Prop} (hh : A.handled = none) (hs : EnumAt s.heap e it l i) (hl : s.heap.IsList l items) (hx : items[i]? = none)
    (hQ : ∀ g, Heap.ExtBut it s.heap g → Q none { s with heap := g }) : wpAny (model prog w) A (pyNext (.ref e)) Q E s := by
  obtain ⟨hit, ⟨rfl, h0⟩ | ⟨T, f, y, o, h1, hT, hTe, hTi⟩⟩ := hs
  · exact wpAny_pyNext_enum_end hh h0 hit hl hx hQ
  · exact wpAny_pyNext_enum_end_held hh h1 hit hl hx hQ

theorem enum_loop {R : Result → Shared → Prop} {res : Value} (hh : A.handled = none) (hne : e ≠ it) (hSe : S ≠ e) (hSi : S ≠ it) (hSl : S ≠ l) (hle : l ≠ e) (hli : l ≠ it) (lo : Nat) (hz : items.size ≤ sizeLine)
    (hend : ∀ g tk acc c, g.get? S = some (lstObj acc c) → acc.size = items.size → Pairs g lo items acc → (∀ b o, b ≠ e → b ≠ it → b ≠ S → s0.heap.get? b = some o → g.get? b = some o) → R (.ok (.ret res)) { s0 with heap := g, toks := tk }) :
    ∀ (k i : Nat) (g : Heap) (tk : Nat) (acc : Array Value) (c : Nat), items.size - i = k → i ≤ items.size → acc.size = i → g.get? S = some (lstObj acc c) → EnumAt g e it l i → g.IsList l items → lo ≤ g.objs.size → e < lo → it < lo → S < lo →
      Pairs g lo items acc → (∀ b o, b ≠ e → b ≠ it → b ≠ S → s0.heap.get? b = some o → g.get? b = some o) →
      codeAny (model prog w) A (.builtin "list.extend.loop" ⟨[.ref S, .ref e, res], []⟩) R { s0 with heap := g, toks := tk } := by
  intro k
  induction k with
  | zero =>
    intro i g tk acc c hk hi ha hS he hl hlo helo hilo hSlo hp hkp
    have hin : i = items.size := by omega
    refine codeAny_builtin F.entry_extend_loop ?_
    rw [Around.under_plainId F.plain_extend_loop _]
    show wpAny _ A.in1 (pyNext (.ref e) >>= _) _ _ _
    refine wpAny_bind (enum_stop (s := { s0 with heap := g, toks := tk }) hh he hl (by rw [hin]; simp) fun g2 ext => ?_)
    refine wpAny_pure (hend g2 tk acc c (ext S _ hSi hS) (by omega) (fun j v hv => ?_) (fun b o h1 h2 h3 q => ext b o h2 (hkp b o h1 h2 h3 q)))
    obtain ⟨T, tk', x, e1, e2, e3, e4⟩ := hp j v hv
    exact ⟨T, tk', x, e1, e2, e3, ext T _ (Nat.ne_of_gt (Nat.lt_of_lt_of_le hilo e2)) e4⟩
  | succ k ih =>
    intro i g tk acc c hk hi ha hS he hl hlo helo hilo hSlo hp hkp
    have hlt : i < items.size := by omega
    refine codeAny_builtin F.entry_extend_loop ?_
    rw [Around.under_plainId F.plain_extend_loop _]
    show wpAny _ A.in1 (pyNext (.ref e) >>= _) _ _ _
    refine wpAny_bind (enum_next (s := { s0 with heap := g, toks := tk }) he hl (Array.getElem?_eq_getElem hlt) hne (Nat.lt_of_lt_of_le helo hlo) (Nat.lt_of_lt_of_le hilo hlo) fun g2 he2 hT2 hk2 => ?_)
    have hS2 : g2.get? S = some (lstObj acc c) := hk2 S _ hSe hSi hS
    have gT : g.objs.size ≠ S := fun z => Nat.lt_irrefl _ (Nat.lt_of_lt_of_le (by rw [z]; exact hSlo) hlo)
    have gTe : g.objs.size ≠ e := fun z => Nat.lt_irrefl _ (Nat.lt_of_lt_of_le (by rw [z]; exact helo) hlo)
    have gTi : g.objs.size ≠ it := fun z => Nat.lt_irrefl _ (Nat.lt_of_lt_of_le (by rw [z]; exact hilo) hlo)
    show wpAny _ A.in1 (updateSeq S (·.push (.ref g.objs.size)) >>= _) _ _ _
    apply wpAny_bind
    refine wpAny_updateSeq hS2 rfl (wpAny_pure ⟨plainId_quiet F.plain_extend_loop _, ?_⟩) (by omega) (by show (acc.push _).size ≤ sizeLine + 1; rw [Array.size_push]; omega)
    have up : ∀ b o, b ≠ S → g2.get? b = some o → (g2.update S (Obj.mapSeq (·.push (.ref g.objs.size)))).get? b = some o := fun b o hb q => (Heap.get?_update_other _ _ (Ne.symm hb)).trans q
    have lt2 : g.objs.size < g2.objs.size := Heap.lt_size hT2
    refine ih (i + 1) _ _ (acc.push (.ref g.objs.size)) _ (by omega) hlt (by rw [Array.size_push]; omega) (Heap.get?_update_self _ hS2 rfl) ?_ ?_ ?_ helo hilo hSlo (fun j v hv => ?_) (fun b o h1 h2 h3 q => up b o h3 (hk2 b o h1 h2 (hkp b o h1 h2 h3 q)))
    · obtain ⟨⟨oi, hoi, r⟩, hd⟩ := he2
      refine ⟨⟨oi, up it oi (Ne.symm hSi) hoi, r⟩, ?_⟩
      rcases hd with ⟨z, q⟩ | ⟨T, f, x, o, q1, q2, q3, q4⟩
      · exact .inl ⟨z, up e _ (Ne.symm hSe) q⟩
      · by_cases hTS : T = S
        · subst hTS
          exact .inr ⟨T, f, x, _, up e _ (Ne.symm hSe) q1, Heap.get?_update_self _ hS2 rfl, q3, q4⟩
        · exact .inr ⟨T, f, x, o, up e _ (Ne.symm hSe) q1, up T o hTS q2, q3, q4⟩
    · obtain ⟨ol, hol, r⟩ := hl
      exact ⟨ol, up l ol (Ne.symm hSl) (hk2 l ol hle hli hol), r⟩
    · rw [Heap.size_update]
      exact Nat.le_trans hlo (Nat.le_of_lt lt2)
    · rw [Array.getElem?_push] at hv
      split at hv
      · rename_i hj
        cases hv
        have ej : j = i := by omega
        subst ej
        exact ⟨g.objs.size, tk, items[j], rfl, hlo, Array.getElem?_eq_getElem hlt, up _ _ gT hT2⟩
      · obtain ⟨T, tk', x, e1, e2, e3, e4⟩ := hp j v hv
        have nTS : T ≠ S := Nat.ne_of_gt (Nat.lt_of_lt_of_le hSlo e2)
        exact ⟨T, tk', x, e1, e2, e3, up T _ nTS (hk2 T _ (Nat.ne_of_gt (Nat.lt_of_lt_of_le helo e2)) (Nat.ne_of_gt (Nat.lt_of_lt_of_le hilo e2)) e4)⟩
end
end RS
set_option Elab.async false
set_option maxRecDepth 100000
set_option maxHeartbeats 4000000
namespace RS
open PySem PySem.Spec PyProof.Rows L2 GX

/-- list(e), e an enumeration of the list l that has just been made -/
theorem list_of_enum {P : Program} {w : World} {A : Around} {E : Value → Shared → Prop} {s : Shared} {e it l : Addr} {items : Array Value} {Q : Value → Shared → Prop} (hh : A.handled = none) (he : IsEnum s.heap e it 0 .none) (hit : s.heap.IsListIter it l 0) (hl : s.heap.IsList l items)
    (hne : e ≠ it) (hle : l ≠ e) (hli : l ≠ it) (hz : items.size ≤ sizeLine)
    (hQ : ∀ g tk acc c, g.get? s.heap.objs.size = some (lstObj acc c) → acc.size = items.size → Pairs g (s.heap.objs.size + 1) items acc → (∀ b o, b ≠ e → b ≠ it → s.heap.get? b = some o → g.get? b = some o) → Q (.ref s.heap.objs.size) { s with heap := g, toks := tk }) :
    wpAny (model P w) A (call (.type "list") [.ref e]) Q E s := by
  have lte : e < s.heap.objs.size := Heap.lt_size he
  have lti : it < s.heap.objs.size := by obtain ⟨o, ho, _⟩ := hit; exact Heap.lt_size ho
  have ltl : l < s.heap.objs.size := by obtain ⟨o, ho, _⟩ := hl; exact Heap.lt_size ho
  have hSe : s.heap.objs.size ≠ e := Nat.ne_of_gt lte
  have tyE : ∀ {g : Heap}, (∀ b o, s.heap.get? b = some o → g.get? b = some o) → ({ s with heap := g } : Shared).TypeIs (.ref e) "enumerate" := fun {g} q => ⟨_, q _ _ he, rfl⟩
  refine callType_codes (Q₁ := fun obj s₁ => obj = .ref s.heap.objs.size ∧ s₁ = { s with heap := s.heap.push { cls := .type "list", data := .seq #[] } }) PySem.F.called_list (PySem.F.typeCall_list_1 _) PySem.F.entry_list_init
    (code_list_new _ ⟨rfl, rfl⟩) fun obj s₁ h₁ => ?_
  obtain ⟨rfl, rfl⟩ := h₁
  have hS : (s.heap.push { cls := .type "list", data := .seq #[] }).get? s.heap.objs.size = some { cls := .type "list", data := .seq #[] } := Heap.get?_push_size _ rfl
  refine ⟨⟨_, hS, rfl⟩, PySem.F.args_list_init_2 _ _, ?_⟩
  show wpAny _ A.in1.in1 (do
    let old ← Builtin.List.listItems (.ref s.heap.objs.size)
    Builtin.List.listUpdate (.ref s.heap.objs.size) (fun _ => #[])
    letGo old.toList.reverse
    Builtin.List.listExtendWith (.ref s.heap.objs.size) (.ref e) .none) _ _ _
  apply wpAny_bind
  unfold Builtin.List.listItems
  refine wpAny_bind (wpAny_seqItems hS rfl (wpAny_pure ?_))
  show wpAny _ A.in1.in1 (updateSeq s.heap.objs.size (fun _ => #[]) >>= fun _ => letGo (#[] : Array Value).toList.reverse >>= fun _ =>
    Builtin.List.listExtendWith (.ref s.heap.objs.size) (.ref e) .none) _ _ _
  refine wpAny_bind (wpAny_updateSeq hS rfl ?_)
  have hS2 := Heap.get?_update_self (Obj.mapSeq (fun _ => (#[] : Array Value))) hS rfl
  apply wpAny_bind
  apply wpAny_letGo
  unfold Builtin.List.listExtendWith
  have up : ∀ (h : Heap) (f : Obj → Obj), (∀ b o, s.heap.get? b = some o → h.get? b = some o) → ∀ b o, s.heap.get? b = some o → (h.update s.heap.objs.size f).get? b = some o := fun h f q b o y =>
    (Heap.get?_update_other _ _ (Ne.symm (Nat.ne_of_lt (Heap.lt_size y)))).trans (q b o y)
  have k1 : ∀ b o, s.heap.get? b = some o → (s.heap.push { cls := .type "list", data := .seq #[] }).get? b = some o := fun b o y => Heap.get?_push_of_some _ y
  have k2 := up _ (Obj.mapSeq (fun _ => (#[] : Array Value))) k1
  apply wpAny_bind
  refine wpAny_typeOf (tyE k2) ?_
  have h1 : Builtin.List.listSameRef (.ref s.heap.objs.size) (.ref e) = false := by simp [Builtin.List.listSameRef, hSe]
  have h2 : (Value.type "enumerate" == Value.type "list") = false := by decide
  have h3 : (Value.type "enumerate" == Value.type "tuple") = false := by decide
  simp only [h1, h2, h3, Bool.or_false, Bool.false_eq_true, if_false]
  apply wpAny_bind
  refine wpAny_pyIter_enum (s := { s with heap := _ }) (k2 _ _ he) ?_
  apply wpAny_bind
  apply wpAny_holding
  unfold Builtin.List.listLengthHint
  apply wpAny_bind
  refine wpAny_specialOf (tyE k2) enum_no_len ?_
  show wpAny _ A.in1.in1 (specialOf (Value.ref e) (Str.ofString "__length_hint__") >>= _) _ _ _
  apply wpAny_bind
  refine wpAny_specialOf (tyE k2) enum_no_hint ?_
  apply wpAny_pure
  show wpAny _ A.in1.in1 (rule "list.extend.makes-room" >>= fun _ => Builtin.List.listTouch (.ref s.heap.objs.size) >>= fun _ =>
    again (.builtin "list.extend.loop" ⟨[.ref s.heap.objs.size, .ref e, .none], []⟩)) _ _ _
  apply wpAny_bind
  apply wpAny_rule
  apply wpAny_bind
  show wpAny _ A.in1.in1 (updateSeq s.heap.objs.size (·.push .none) >>= fun _ => updateSeq s.heap.objs.size (·.pop)) _ _ _
  refine wpAny_bind (wpAny_updateSeq hS2 rfl ?_)
  have hS3 := Heap.get?_update_self (Obj.mapSeq (·.push Value.none)) hS2 rfl
  refine wpAny_updateSeq (hz := by seq_fits) hS3 rfl ?_
  have hS4 := Heap.get?_update_self (Obj.mapSeq (·.pop)) hS3 rfl
  have k4 := up _ (Obj.mapSeq (·.pop)) (up _ (Obj.mapSeq (·.push Value.none)) k2)
  refine wpAny_pure ⟨plainId_quiet PySem.F.plain_extend_loop _, ?_⟩
  refine enum_loop (s0 := s) (A := A.in1) (S := s.heap.objs.size) hh hne hSe (Nat.ne_of_gt lti) (Nat.ne_of_gt ltl) hle hli (s.heap.objs.size + 1) hz
    (fun g tk acc c q1 q2 q3 q4 => ⟨rfl, hQ g tk acc c q1 q2 q3 fun b o n1 n2 y => q4 b o n1 n2 (Nat.ne_of_lt (Heap.lt_size y)) y⟩) items.size 0 _ s.toks #[] _ (Nat.sub_zero _) (Nat.zero_le _) rfl hS4 ⟨?_, .inl ⟨rfl, k4 _ _ he⟩⟩ ?_ ?_
    (Nat.lt_succ_of_lt lte) (Nat.lt_succ_of_lt lti) (Nat.lt_succ_self _) (fun j v hv => by simp at hv) (fun b o _ _ _ y => k4 b o y)
  · obtain ⟨o, ho, r⟩ := hit
    exact ⟨o, k4 _ _ ho, r⟩
  · obtain ⟨o, ho, r⟩ := hl
    exact ⟨o, k4 _ _ ho, r⟩
  · exact Heap.lt_size hS4

/-- list(enumerate(e)) -/
def tLE (K : PySem.W.Frag) (te : TE) : TE := fun σ H Q => te σ H fun v H1 => ∃ a xs, v = .ref a ∧ SqL K H1 a xs ∧
  ∀ (H2 : Hp) (p : Addr) (ts : List Addr), Same H1 H2 → H1 p = none → H2 p = some (.lst (ts.map V.ref)) → ts.length = xs.length →
    (∀ (i : Nat) (x : V), xs[i]? = some x → ∃ T, ts[i]? = some T ∧ H1 T = none ∧ H2 T = some (.tup [.int i, x])) → Q (.ref p) H2
section
variable {X : Cx} {e : Expr} {te : TE} {p1 p2 q1 q2 : Pos}
theorem pe_le (hc : X.calm = true) (hg : Gl X "list") (hm : X.mg "list" = none) (hg2 : Gl X "enumerate") (hm2 : X.mg "enumerate" = none) (he : PE X e te)
    (hs : starEach [e] X.env = [(false, eval e X.env)] := by rfl)
    (hs2 : starEach [.Call (.Name "enumerate" q1) [e] [] q2] X.env = [(false, eval (.Call (.Name "enumerate" q1) [e] [] q2) X.env)] := by rfl) :
    PE X (.Call (.Name "list" p1) [.Call (.Name "enumerate" q1) [e] [] q2] [] p2) (tLE X.K te) := by
  refine ⟨fun pins s σ H Q I h => ?_⟩
  refine wpAny_Call_Name_kw (ld_blt I hg hm (show bootBuiltins "list" = some (.type "list") by decide +kernel) ?_)
  refine PyProof.Rows.callWith_type1 ?_ hs2 rfl
  rw [hs2]
  show wpAny _ _ (spliced [(false, eval (.Call (.Name "enumerate" q1) [e] [] q2) X.env)]) _ _ s
  refine Calls.spliced_cons ?_
  refine wpAny_Call_Name_kw (ld_blt I hg2 hm2 (show bootBuiltins "enumerate" = some (.type "enumerate") by decide +kernel) ?_)
  refine PyProof.Rows.callWith_type1 ?_ hs rfl
  rw [hs]
  show wpAny _ _ (spliced [(false, eval e X.env)]) _ _ s
  refine Calls.spliced_cons (thn (he.run pins s σ H _ I h) fun u s1 ⟨v, H1, I1, r1, a, xs, ev, hq, q⟩ => ?_)
  subst ev
  cases r1
  obtain ⟨its, rv, pl, hz⟩ := I1.list hq
  have lits : its.toArray.size = xs.length := by rw [List.size_toArray]; exact rv.length.symm
  have lta : a < s1.heap.objs.size := by obtain ⟨o, ho, _⟩ := pl.isList; exact Heap.lt_size ho
  refine Calls.spliced_nil ?_
  refine call_enumerate_list pl.isList fun g hen hit hsz hk => ?_
  refine Calls.spliced_nil ?_
  have I2 : Inv X pins σ H1 { s1 with heap := g } := I1.kept (t' := s1.toks) hk
  have hl2 : g.IsList a its.toArray := by
    obtain ⟨o, ho, r⟩ := pl.isList
    exact ⟨o, hk _ _ ho, r⟩
  refine list_of_enum (s := { s1 with heap := g }) (I1.ok.hd hc) hen hit hl2 (Nat.succ_ne_self _) (Nat.ne_of_lt (Nat.lt_succ_of_lt lta)) (Nat.ne_of_lt lta) (by rw [lits]; exact hz) fun g2 tk acc c hS ha hp hk2 => ?_
  -- what is new
  have szg : g.objs.size = s1.heap.objs.size + 2 := hsz
  have kall : ∀ b o, s1.heap.get? b = some o → g2.get? b = some o := fun b o y => by
    have lt := Heap.lt_size y
    exact hk2 b o (Nat.ne_of_lt (Nat.lt_succ_of_lt lt)) (Nat.ne_of_lt lt) (hk b o y)
  have sym : ∀ (i : Nat) (x : V), xs[i]? = some x → ∃ (T : Addr) (tk' : Nat) (u : Value), acc[i]? = some (.ref T) ∧ g.objs.size + 1 ≤ T ∧ RelV x u ∧ g2.get? T = some { cls := .type "tuple", data := .seq #[.int (i : Nat) tk', u] } := fun i x hx => by
    have hi : i < acc.size := by
      rw [ha, lits]
      exact (List.getElem?_eq_some_iff.mp hx).1
    obtain ⟨T, tk', u, e1, e2, e3, e4⟩ := hp i _ (Array.getElem?_eq_getElem hi)
    obtain ⟨u', hu', ru⟩ := rv.get hx
    have e3' : its[i]? = some u := by simpa using e3
    rw [hu'] at e3'
    cases e3'
    exact ⟨T, tk', u, by rw [Array.getElem?_eq_getElem hi, e1], e2, ru, e4⟩
  let adr : Value → Addr := fun v => match v with | .ref b => b | _ => 0
  have hts : ∀ v ∈ acc.toList, v = .ref (adr v) := fun v hv => by
    obtain ⟨j, hj⟩ := List.getElem?_of_mem hv
    obtain ⟨T, _, _, e1, _⟩ := hp j v (by simpa using hj)
    rw [e1]
  have tlen : (acc.toList.map adr).length = xs.length := by rw [List.length_map, Array.length_toList, ha, lits]
  have tget : ∀ (i : Nat) (x : V), xs[i]? = some x → ∃ (T : Addr) (tk' : Nat) (u : Value), (acc.toList.map adr)[i]? = some T ∧ g.objs.size + 1 ≤ T ∧ RelV x u ∧ g2.get? T = some { cls := .type "tuple", data := .seq #[.int (i : Nat) tk', u] } := fun i x hx => by
    obtain ⟨T, tk', u, e1, e2, e3, e4⟩ := sym i x hx
    refine ⟨T, tk', u, ?_, e2, e3, e4⟩
    rw [List.getElem?_map, Array.getElem?_toList, e1]
    rfl
  -- the new abstract heap
  let mk : Addr → Option HO := fun b => if b = g.objs.size then some (.lst ((acc.toList.map adr).map V.ref)) else
    match (List.range xs.length).find? (fun i => (acc.toList.map adr)[i]? == some b) with
    | some i => (xs[i]?).map fun x => .tup [.int (i : Nat), x]
    | none => none
  let H2 : Hp := fun b => if b < g.objs.size then H1 b else mk b
  have at_T : ∀ (i : Nat) (x : V) (T : Addr), xs[i]? = some x → (acc.toList.map adr)[i]? = some T → H2 T = some (.tup [.int (i : Nat), x]) := fun i x T hx hT => by
    obtain ⟨T', tk', u, f1, f2, _, f4⟩ := tget i x hx
    rw [hT] at f1
    cases f1
    show (if T < g.objs.size then H1 T else if T = g.objs.size then _ else _) = _
    rw [if_neg (Nat.not_lt.mpr (Nat.le_of_succ_le f2)), if_neg (Nat.ne_of_gt f2)]
    cases hf : (List.range xs.length).find? (fun i => (acc.toList.map adr)[i]? == some T) with
    | none =>
      have z := List.find?_eq_none.mp hf i (List.mem_range.mpr (List.getElem?_eq_some_iff.mp hx).1)
      rw [hT] at z
      simp at z
    | some j =>
      have hj := List.find?_some hf
      have hj2 := List.mem_range.mp (List.mem_of_find?_eq_some hf)
      have hj3 : (acc.toList.map adr)[j]? = some T := by simpa using hj
      obtain ⟨T2, tk2, u2, g1, _, g3, g4⟩ := tget j xs[j] (List.getElem?_eq_getElem hj2)
      rw [hj3] at g1
      cases g1
      rw [f4] at g4
      have e0 : (#[Value.int (i : Nat) tk', u] : Array Value) = #[.int (j : Nat) tk2, u2] := by
        injection (Option.some.inj g4) with _ _ d
        injection d
      have e5 : i = j := by
        have z := congrArg (fun a : Array Value => a[0]?) e0
        simp at z
        omega
      subst e5
      show Option.map (fun x => HO.tup [V.int (i : Nat), x]) xs[i]? = _
      rw [hx]
      rfl
  have I3 : Inv X pins σ H2 { s1 with heap := g2, toks := tk } := by
    have I3 := laid_many (H2 := H2) (g := g2) (tk := tk) I1 kall (fun b hb => if_pos (show b < g.objs.size by omega)) (fun b o hb e => ?_)
    · exact I3
    · by_cases h1 : b < g.objs.size
      · have e' : H1 b = some o := (if_pos h1).symm.trans e
        rw [I1.hok.fresh hb] at e'
        cases e'
      · have e' : mk b = some o := (if_neg h1).symm.trans e
        by_cases h2 : b = g.objs.size
        · have e2 : some (HO.lst ((acc.toList.map adr).map V.ref)) = some o := (if_pos h2).symm.trans e'
          cases e2
          subst h2
          refine ⟨by rw [List.length_map, tlen]; exact hz, acc.toList, c, ?_, by rw [Array.toArray_toList]; exact hS⟩
          have vals : ∀ l : List Value, (∀ v ∈ l, v = .ref (adr v)) → Vals ((l.map adr).map V.ref) l := fun l => by
            induction l with
            | nil => intro _; exact .nil
            | cons v r ih => intro hv; exact .cons (hv v List.mem_cons_self) (ih fun u hu => hv u (List.mem_cons_of_mem _ hu))
          exact vals _ hts
        · have e2 : (match (List.range xs.length).find? (fun i => (acc.toList.map adr)[i]? == some b) with
              | some i => (xs[i]?).map fun x => HO.tup [.int (i : Nat), x]
              | none => none) = some o := (if_neg h2).symm.trans e'
          cases hf : (List.range xs.length).find? (fun i => (acc.toList.map adr)[i]? == some b) with
          | none =>
            rw [hf] at e2
            cases e2
          | some j =>
            rw [hf] at e2
            have hj := List.find?_some hf
            have hj2 := List.mem_range.mp (List.mem_of_find?_eq_some hf)
            have hj3 : (acc.toList.map adr)[j]? = some b := by simpa using hj
            have e3 : some (HO.tup [.int (j : Nat), xs[j]]) = some o := by
              rw [← e2]
              show _ = Option.map (fun x => HO.tup [V.int (j : Nat), x]) xs[j]?
              rw [List.getElem?_eq_getElem hj2]
              rfl
            cases e3
            obtain ⟨T2, tk2, u2, g1, _, g3, g4⟩ := tget j xs[j] (List.getElem?_eq_getElem hj2)
            rw [hj3] at g1
            cases g1
            exact ⟨by show 2 ≤ sizeLine; decide, [.int (j : Nat) tk2, u2], .cons ⟨_, rfl⟩ (.cons g3 .nil), ⟨_, g4, rfl, _, rfl⟩⟩
  have same : Same H1 H2 := fun b o y => by
    show (if b < g.objs.size then H1 b else mk b) = some o
    rw [if_pos (show b < g.objs.size from Nat.lt_of_lt_of_le (I1.hok.lt y) (by rw [szg]; exact Nat.le_add_right _ _))]
    exact y
  have Snone : H1 g.objs.size = none := I1.hok.fresh (by omega)
  refine ⟨.ref g.objs.size, H2, I3, rfl, q H2 g.objs.size (acc.toList.map adr) same Snone ?_ tlen fun i x hx => ?_⟩
  · show (if g.objs.size < g.objs.size then H1 _ else mk _) = _
    rw [if_neg (Nat.lt_irrefl _)]
    exact if_pos rfl
  · obtain ⟨T, tk', u, e1, e2, e3, e4⟩ := tget i x hx
    exact ⟨T, e1, I1.hok.fresh (by omega), at_T i x T hx e1⟩
end
end RS
set_option Elab.async false
set_option maxRecDepth 100000
set_option maxHeartbeats 4000000
namespace RS
open PySem PySem.Spec PyProof.Rows L2 GX
/-- a for of n turns by a word of its own: the next turn -/
def ForNx (n : Nat) (Pv : Nat → L2.St → Hp → Prop) (i : Nat) (σ : L2.St) (H : Hp) : Prop := Pv (i + 1) σ H
theorem for_by {J : It} {g : TG} {tb : TS} {D : Ends} {σ : L2.St} {H : Hp} (n : Nat) (Pv : Nat → L2.St → Hp → Prop) (h0 : Pv 0 σ H)
    (turn : ∀ i σ H, i < n → Pv i σ H → J.go i H ∧ ∀ x H', J.yld i H x H' → g x σ H' fun σ2 H2 => tb { D with nx := Pv (i + 1), ct := Pv (i + 1), bk := D.nx } σ2 H2)
    (stop : ∀ σ H, Pv n σ H → J.stop n H ∧ D.nx σ H) :
    ∃ W : Nat → Nat → L2.St → Hp → Prop, (∃ m, W 0 m σ H) ∧ ∀ i m σ H, W i m σ H →
      (J.stop i H ∧ D.nx σ H) ∨ (J.go i H ∧ ∃ N : L2.St → Hp → Prop, (∀ σ' H', N σ' H' → ∃ m', m' < m ∧ W (i + 1) m' σ' H') ∧ ∀ x H', J.yld i H x H' → g x σ H' fun σ2 H2 => tb { D with nx := N, ct := N, bk := D.nx } σ2 H2) := by
  refine ⟨fun i m σ H => m = n - i ∧ i ≤ n ∧ Pv i σ H, ⟨n, rfl, Nat.zero_le _, h0⟩, ?_⟩
  rintro i m σ H ⟨rfl, hi, p⟩
  by_cases hlt : i < n
  · obtain ⟨go, nx⟩ := turn i σ H hlt p
    exact .inr ⟨go, Pv (i + 1), fun σ' H' p' => ⟨n - (i + 1), by omega, rfl, hlt, p'⟩, nx⟩
  · have e : i = n := by omega
    subst e
    exact .inl (stop σ H p)
theorem lc_by {J : It} {g : TG} {tt : TT} {te : TE} {vs : List Nat} {σ : L2.St} {H1 : Hp} {D : Addr} {Qd : Hp → Prop} (n : Nat) (Pv : Nat → Hp → Prop) (h0 : Pv 0 (upd H1 D (.lst [])))
    (turn : ∀ i H, i < n → Pv i H → J.go i H ∧ ∀ x H', J.yld i H x H' → g x (wipe σ vs) H' fun σ2 H2 => wipe σ2 vs = wipe σ vs ∧ tt σ2 H2 fun b H3 =>
      if b = true then te σ2 H3 fun y H4 => ∃ acc, H4 D = some (.lst acc) ∧ acc.length < sizeLine ∧ Pv (i + 1) (upd H4 D (.lst (acc ++ [y]))) else Pv (i + 1) H3)
    (stop : ∀ H, Pv n H → J.stop n H ∧ Qd H) :
    ∃ W : Nat → Nat → Hp → Prop, (∃ m, W 0 m (upd H1 D (.lst []))) ∧ ∀ i m H, W i m H →
      (J.stop i H ∧ Qd H) ∨ (J.go i H ∧ ∃ Nx : Hp → Prop, (∀ H', Nx H' → ∃ m', m' < m ∧ W (i + 1) m' H') ∧ ∀ x H', J.yld i H x H' → g x (wipe σ vs) H' fun σ2 H2 => wipe σ2 vs = wipe σ vs ∧ tt σ2 H2 fun b H3 =>
        if b = true then te σ2 H3 fun y H4 => ∃ acc, H4 D = some (.lst acc) ∧ acc.length < sizeLine ∧ Nx (upd H4 D (.lst (acc ++ [y]))) else Nx H3) := by
  refine ⟨fun i m H => m = n - i ∧ i ≤ n ∧ Pv i H, ⟨n, rfl, Nat.zero_le _, h0⟩, ?_⟩
  rintro i m H ⟨rfl, hi, p⟩
  by_cases hlt : i < n
  · obtain ⟨go, nx⟩ := turn i H hlt p
    exact .inr ⟨go, Pv (i + 1), fun H' p' => ⟨n - (i + 1), by omega, rfl, hlt, p'⟩, nx⟩
  · have e : i = n := by omega
    subst e
    exact .inl (stop H p)

/-! ### numbered things -/
def enumP {α : Type} : Nat → List α → List (Nat × α)
  | _, [] => []
  | k, x :: xs => (k, x) :: enumP (k + 1) xs
theorem enumP_get {α : Type} : ∀ (l : List α) (k i : Nat), (enumP k l)[i]? = l[i]?.map fun x => (k + i, x)
  | [], k, i => by simp [enumP]
  | x :: xs, k, 0 => by simp [enumP]
  | x :: xs, k, i + 1 => by
    show (enumP (k + 1) xs)[i]? = _
    rw [enumP_get xs (k + 1) i]
    have e : k + 1 + i = k + (i + 1) := by omega
    rw [e]
    simp
theorem enumP_length {α : Type} : ∀ (l : List α) (k : Nat), (enumP k l).length = l.length
  | [], _ => rfl
  | _ :: xs, k => congrArg (· + 1) (enumP_length xs (k + 1))
/-- a (number, row) -/
def pairD (q : Nat × List PyData) : PyData := .tuple [.int q.1, .tuple q.2]
def pairsD (l : List (Nat × List PyData)) : PyData := .list (l.map pairD)

/-- data by places -/
theorem dpAll_by {K : PySem.W.Frag} {H : Hp} : ∀ {vs : List V} {ds : List PyData}, vs.length = ds.length → (∀ (i : Nat) (v : V) (d : PyData), vs[i]? = some v → ds[i]? = some d → Dp K H v d) → DpAll K H vs ds
  | [], [], _, _ => .nil
  | [], _ :: _, h, _ => by simp at h
  | _ :: _, [], h, _ => by simp at h
  | v :: vs, d :: ds, h, k => .cons (k 0 v d rfl rfl) (dpAll_by (by simpa using h) fun i v d e1 e2 => k (i + 1) v d (by simpa using e1) (by simpa using e2))
end RS
set_option Elab.async false
set_option maxRecDepth 100000
set_option maxHeartbeats 4000000
namespace RS
open PySem PySem.Spec PyProof.Rows L2 GX
/-! ### data without lists -/
mutual
def noL : PyData → Bool
  | .list _ => false
  | .dict _ => false
  | .tuple ds => noLs ds
  | _ => true
def noLs : List PyData → Bool
  | [] => true
  | d :: ds => noL d && noLs ds
end
theorem noLs_iff : ∀ {ds : List PyData}, noLs ds = true ↔ ∀ d ∈ ds, noL d = true
  | [] => by simp [noLs]
  | d :: ds => by
    unfold noLs
    rw [Bool.and_eq_true, noLs_iff]
    simp
theorem sqT_upd {K : PySem.W.Frag} {H : Hp} {a b : Addr} {xs u ys : List V} (hH : H a = some (.lst xs)) (h : SqT K H b ys) : SqT K (upd H a (.lst u)) b ys := by
  rcases h with (h | ⟨o, h⟩) | h
  · refine .inl (.inl ?_)
    rw [upd_ne (fun z => by rw [z, hH] at h; cases h)]
    exact h
  · refine .inl (.inr ⟨o, ?_⟩)
    rw [upd_ne (fun z => by rw [z, hH] at h; cases h)]
    exact h
  · exact .inr h
mutual
theorem dp_upd {K : PySem.W.Frag} {H : Hp} {a : Addr} {xs u : List V} (hH : H a = some (.lst xs)) : ∀ (d : PyData) {v : V}, noL d = true → Dp K H v d → Dp K (upd H a (.lst u)) v d
  | .none, _, _, .non => .non
  | .bool b, _, _, .bl _ => .bl b
  | .int i, _, _, .int _ => .int i
  | .str x, _, _, .str _ => .str x
  | .list ds, _, h, _ => by cases h
  | .tuple ds, _, h, .tup q hs => .tup (sqT_upd hH q) (dpAll_upd hH ds h hs)
  | .dict _, _, h, _ => by cases h
theorem dpAll_upd {K : PySem.W.Frag} {H : Hp} {a : Addr} {xs u : List V} (hH : H a = some (.lst xs)) : ∀ (ds : List PyData) {vs : List V}, noLs ds = true → DpAll K H vs ds → DpAll K (upd H a (.lst u)) vs ds
  | [], _, _, .nil => .nil
  | d :: ds, _, h, .cons q hs => by
    unfold noLs at h
    rw [Bool.and_eq_true] at h
    exact .cons (dp_upd hH d h.1 q) (dpAll_upd hH ds h.2 hs)
end
/-- a list is changed that is none of those ahead -/
theorem dp_upd' {K : PySem.W.Frag} {H H' : Hp} {a : Addr} {xs u : List V} (s : Same H H') (hn : H a = none) {d : PyData} {v : V} (q : Dp K H v d) : Dp K (upd H' a (.lst u)) v d :=
  dp_same (fun b o e => by rw [upd_ne (ne_of_none e hn)]; exact s b o e) d q

theorem depth0 : ∀ {ds : List PyData}, (∀ d ∈ ds, d.depth = 0) → PyData.depthAll ds = 0
  | [], _ => by simp [PyData.depthAll]
  | d :: ds, h => by
    simp only [PyData.depthAll]
    rw [h d List.mem_cons_self, depth0 fun e he => h e (List.mem_cons_of_mem _ he)]
    rfl
theorem upd_no {H : Hp} {a b : Addr} {o : HO} (e : upd H a o b = none) : H b = none := by
  by_cases z : b = a
  · rw [z, upd_same] at e
    cases e
  · rw [upd_ne z] at e
    exact e
theorem cond_by {tc : TT} {σ : L2.St} {H : Hp} {Q : Bool → Hp → Prop} (b : Bool) (N : Hp → Prop) (h1 : ∀ Q' : Bool → Hp → Prop, (∀ H2, N H2 → Q' b H2) → tc σ H Q') (h2 : ∀ H2, N H2 → Q b H2) : tc σ H Q := h1 Q h2
theorem iteT' {b : Bool} {A B : Prop} (e : b = true) (h : A) : if b = true then A else B := by
  rw [if_pos e]
  exact h
theorem iteF' {b : Bool} {A B : Prop} (e : b = false) (h : B) : if b = true then A else B := by
  rw [if_neg (by rw [e]; decide)]
  exact h
end RS
set_option Elab.async false
set_option maxRecDepth 100000
set_option maxHeartbeats 4000000
namespace RS
open PySem PySem.Spec PyProof.Rows L2 GX
section
variable {X : Cx}
/-- a, b, c = x, y, z with plain local names -/
def tPar3 (i j l : Nat) (ta : TA) : TS := fun D σ H => ta σ H fun vs H1 => ∃ v w z, vs = [v, w, z] ∧ D.nx (((σ.set i (some v)).set j (some w)).set l (some z)) H1
theorem ps_par3 {i j l : Nat} {x y z : Str} {a b c : Expr} {ta : TA} {px py pz pt pos : Pos} {kt k2 pt2} (hc : X.calm = true) (hN : X.N.Nodup) (hi : X.N[i]? = some x) (hj : X.N[j]? = some y) (hl : X.N[l]? = some z) (hij : i ≠ j) (hil : i ≠ l) (hjl : j ≠ l)
    (hx : X.env.scope.names.lookup x = some .local) (hy : X.env.scope.names.lookup y = some .local) (hz : X.env.scope.names.lookup z = some .local) (ha : PA X [a, b, c] ta)
    (hw : swappedStores [.Tuple [.Name x px, .Name y py, .Name z pz] kt pt] (.Tuple [a, b, c] k2 pt2) X.env = pure (some [x, y, z]))
    (hs : swapsWithSole [.Tuple [.Name x px, .Name y py, .Name z pz] kt pt] (.Tuple [a, b, c] k2 pt2) pos.line X.env = pure false := by rfl) :
    PS X (.Assign [.Tuple [.Name x px, .Name y py, .Name z pz] kt pt] (.Tuple [a, b, c] k2 pt2) pos) (tPar3 i j l ta) := by
  refine ⟨fun pins s σ H D I h => ?_⟩
  rw [exec_Assign_arm]
  refine wpAny_bind (wpAny_standAt ?_)
  rw [hs]
  refine wpAny_bind (wpAny_pure ?_)
  rw [if_neg (by decide)]
  refine wpAny_bind (Tuple_ (thn (ha.run _ pins s σ H _ I h) fun us s1 ⟨vs, H1, I1, r1, q1⟩ => ?_))
  obtain ⟨v, w, q, e1, q1⟩ := q1
  subst e1
  obtain ⟨u1, u2, u3, rfl, rv, rw', rq⟩ : ∃ u1 u2 u3, us = [u1, u2, u3] ∧ RelV v u1 ∧ RelV w u2 ∧ RelV q u3 := by
    cases r1 with
    | cons p q =>
      cases q with
      | cons p' q' =>
        cases q' with
        | cons p2 q2 =>
          cases q2
          exact ⟨_, _, _, rfl, p, p', p2⟩
  refine wpAny_newObj_type ?_ (by show 3 ≤ sizeLine; decide)
  have I2 : Inv X pins σ H1 { s1 with heap := s1.heap.push { cls := .type "tuple", data := .seq [u1, u2, u3].toArray } } := I1.kept (t' := s1.toks) fun b o e => Heap.get?_push_of_some _ e
  rw [hw]
  refine wpAny_bind (wpAny_pure ?_)
  show wpAny (model X.prog X.w) X.A (do rule "assign.swapped-stores"; let items ← unpackItems (.ref s1.heap.objs.size) 3 none; assignInOrder [fun v => bindName X.env z v, fun v => bindName X.env y v, fun v => bindName X.env x v] items.reverse; pure Flow.next) _ _ _
  refine wpAny_bind (wpAny_rule (wpAny_bind (unpackItems_tuple (items := #[u1, u2, u3]) (I.ok.hd hc) (IsTup.new s1.heap _) fun h' hx' => ?_)))
  have I3 := I2.kept (h' := h') (t' := s1.toks) fun b o e => hx' b o (Nat.ne_of_lt (Heap.lt_size e)) e
  show wpAny _ _ (assignInOrder [fun v => bindName X.env z v, fun v => bindName X.env y v, fun v => bindName X.env x v] [u3, u2, u1] >>= fun _ => pure Flow.next) _ _ _
  refine wpAny_bind (assignInOrder_cons (wpAny_bindName (store_ok I3 hN hl (.inl hz) rq (fun s2 I4 => ?_) (.inr hz))))
  refine assignInOrder_cons (wpAny_bindName (store_ok I4 hN hj (.inl hy) rw' (fun s3 I5 => ?_) (.inr hy)))
  refine assignInOrder_cons (wpAny_bindName (store_ok I5 hN hi (.inl hx) rv (fun s4 I6 => assignInOrder_nil (wpAny_pure ?_)) (.inr hx)))
  rw [List.set_comm _ _ (Ne.symm hij), List.set_comm _ _ (Ne.symm hil), List.set_comm _ _ (Ne.symm hjl)] at I6
  exact ⟨_, H1, I6, q1⟩
end
end RS
set_option Elab.async false
set_option maxRecDepth 100000
set_option maxHeartbeats 4000000
namespace RS
open PySem PySem.Spec PyProof.Rows L2 GX
theorem dpAll_drop {K : PySem.W.Frag} {H : Hp} : ∀ {xs : List V} {ds : List PyData}, DpAll K H xs ds → ∀ k : Nat, DpAll K H (xs.drop k) (ds.drop k)
  | _, _, h, 0 => h
  | _, _, .nil, _ + 1 => .nil
  | _, _, .cons _ t, k + 1 => dpAll_drop t k
theorem dpAll_take {K : PySem.W.Frag} {H : Hp} : ∀ {xs : List V} {ds : List PyData}, DpAll K H xs ds → ∀ k : Nat, DpAll K H (xs.take k) (ds.take k)
  | _, _, _, 0 => .nil
  | _, _, .nil, _ + 1 => .nil
  | _, _, .cons h t, k + 1 => .cons h (dpAll_take t k)
/-! ### a target that is an attribute -/
def gFld (K : PySem.W.Frag) (to : TE) (f : Str) : TG := fun v σ H Q => to σ H fun x H2 => ∃ a C dx fs, x = .ref a ∧ H2 a = some (.ins C dx fs) ∧ Cls K C ∧ NoAttr K C f ∧ fs.length < 1000 ∧ Q σ (upd H2 a (.ins C dx (putF f v fs)))
theorem pg_fld {X : Cx} {o : Expr} {f : Str} {pos : Pos} {to : TE} (ho : PE X o to) : PG X (.Attribute o f pos) (gFld X.K to f) := by
  refine ⟨fun pins s σ H v u Q I r h => ?_⟩
  rw [arm_assign_Attribute]
  refine wpAny_bind (wpAny_holding (thn (ho.run pins s σ H _ I h) fun ov s1 ⟨x, H1, I1, r1, a, C, dx, fs, ex, ea, c, n, l, q⟩ => ?_))
  subst ex
  obtain rfl : ov = Value.ref a := r1
  refine wpAny_bind (wpAny_standAt (wpAny_bind (wpAny_holding (setattr_ok I1 ea c n l r fun s2 I2 => ?_))))
  exact wpAny_release ⟨σ, _, I2, q⟩
/-! ### methods as constants of a class -/
structure MetC (P : Program) (w : World) (K : PySem.W.Frag) (mg : Str → Option Value) (base : Heap) (CX : CXT) (k : Nat) (C : Addr) (m : Str) (ps : List Str) (sp : Sp) : Prop where
  ex : ∃ (f : Addr) (fd : FuncData), Cls K C ∧ Meth K C m f ∧ FnOk P w K mg base CX k f fd ps sp ∧ Binds K fd ps []
structure MakC (P : Program) (w : World) (K : PySem.W.Frag) (mg : Str → Option Value) (base : Heap) (CX : CXT) (k : Nat) (x : Str) (C : Addr) (ps : List Str) (sp : Sp) : Prop where
  ex : ∃ (f : Addr) (fd : FuncData), Mk K C f ∧ FnOk P w K mg base CX k f fd ps sp ∧ mg x = some (.ref C) ∧ Binds K fd ps []
section
variable {X : Cx} {CX : CXT} {k j : Nat} {C : Addr} {ps : List Str} {sp : Sp} {E : XK} {x m : Str} {p pos apos : Pos} {e o : Expr} {es : List Expr} {ta : TE} {t : TA}
theorem pe_m {pl : Sem Bool} (c : MetC X.prog X.w X.K X.mg X.base CX k C m ps sp) (hr : Room j X.A) (hk : k ≤ j) (hx : Passes CX X E) (he : PE X o ta) (ha : PA X (e :: es) t)
    (hst : starEach (e :: es) X.env = (false, eval e X.env) :: starEach es X.env := by rfl) (hpl : (backTo pos (starEach es X.env)).any (·.1) = false := by rfl)
    (ht : eval (.Call (.Attribute o m apos) (e :: es) [] pos) X.env = (do
      let ov ← eval o X.env
      standAt apos.atName
      let (f, first) ← holding [ov] (getMethod ov m pl)
      callWith pos f first (backTo pos (starEach (e :: es) X.env)) (backToKw pos (keywordEach [] X.env))) := by rfl) :
    PE X (.Call (.Attribute o m apos) (e :: es) [] pos) (tMeth C m sp [] E ta t) := by
  obtain ⟨f, fd, cl, hm, F, hb⟩ := c.ex
  exact pe_meth he cl hm F (hr.mono hk) hb .nil hx ha hst hpl ht
theorem pe_m0 {pl : Sem Bool} (c : MetC X.prog X.w X.K X.mg X.base CX k C m ps sp) (hr : Room j X.A) (hk : k ≤ j) (hx : Passes CX X E) (he : PE X o ta)
    (ht : eval (.Call (.Attribute o m apos) [] [] pos) X.env = (do
      let ov ← eval o X.env
      standAt apos.atName
      let (f, first) ← holding [ov] (getMethod ov m pl)
      callWith pos f first (backTo pos (starEach [] X.env)) (backToKw pos (keywordEach [] X.env))) := by rfl) :
    PE X (.Call (.Attribute o m apos) [] [] pos) (tMeth C m sp [] E ta tNil) := by
  obtain ⟨f, fd, cl, hm, F, hb⟩ := c.ex
  exact pe_meth0 he cl hm F (hr.mono hk) hb .nil hx ht
theorem pe_mk (c : MakC X.prog X.w X.K X.mg X.base CX k x C ps sp) (hr : Room j X.A) (hk : k + 1 ≤ j) (hg : Gl X x) (hx : Passes CX X E) (ha : PA X (e :: es) t) (hdb : (x == ("__debug__" : Str)) = false := by decide)
    (he : starEach (e :: es) X.env = (false, eval e X.env) :: starEach es X.env := by rfl) (hpl : (backTo pos (starEach es X.env)).any (·.1) = false := by rfl) :
    PE X (.Call (.Name x p) (e :: es) [] pos) (tMake C sp [] E t) := by
  obtain ⟨f, fd, M, F, hm, hb⟩ := c.ex
  exact pe_make M F (hr.mono hk) hg hm hb .nil hx ha hdb he hpl
theorem pe_mk0 (c : MakC X.prog X.w X.K X.mg X.base CX k x C ps sp) (hr : Room j X.A) (hk : k + 1 ≤ j) (hg : Gl X x) (hx : Passes CX X E) (hdb : (x == ("__debug__" : Str)) = false := by decide) :
    PE X (.Call (.Name x p) [] [] pos) (tMake C sp [] E tNil) := by
  obtain ⟨f, fd, M, F, hm, hb⟩ := c.ex
  exact pe_make0 M F (hr.mono hk) hg hm hb .nil hx hdb
end
/-! ### attributes in a list -/
theorem putF_eq {f : Str} {v w : V} {r : List (Str × V)} : putF f v ((f, w) :: r) = (f, v) :: r := if_pos rfl
theorem putF_ne {f g : Str} {v w : V} {r : List (Str × V)} (h : ¬ g = f) : putF f v ((g, w) :: r) = (g, w) :: putF f v r := if_neg h
theorem lk_eq {f : Str} {v : V} {r : List (Str × V)} : ((f, v) :: r).lookup f = some v := by simp [List.lookup]
theorem lk_ne {f g : Str} {v : V} {r : List (Str × V)} (h : ¬ f = g) : ((g, v) :: r).lookup f = r.lookup f := by
  have e : (f == g) = false := beq_eq_false_iff_ne.mpr h
  simp [List.lookup, e]
/-! ### all but lists and instances stays -/
def KpS (H H' : Hp) : Prop := ∀ b o, H b = some o → (∀ xs, o ≠ .lst xs) → (∀ C dx fs, o ≠ .ins C dx fs) → H' b = some o
theorem KpS.of {H H' : Hp} (s : Same H H') : KpS H H' := fun b o e _ _ => s b o e
theorem KpS.trans {H H1 H2 : Hp} (a : KpS H H1) (b : KpS H1 H2) : KpS H H2 := fun c o e n1 n2 => b c o (a c o e n1 n2) n1 n2
theorem KpS.lst {H : Hp} {a : Addr} {xs u : List V} (h : H a = some (.lst xs)) : KpS H (upd H a (.lst u)) := fun b o e n _ => by
  rw [upd_ne (fun z => by rw [z, h] at e; exact n _ (Option.some.inj e).symm)]
  exact e
theorem KpS.ins {H : Hp} {a C dx : Addr} {fs : List (Str × V)} {o' : HO} (h : H a = some (.ins C dx fs)) : KpS H (upd H a o') := fun b o e _ n => by
  rw [upd_ne (fun z => by rw [z, h] at e; exact n _ _ _ (Option.some.inj e).symm)]
  exact e
theorem sqT_kp {K : PySem.W.Frag} {H H' : Hp} {a : Addr} {xs : List V} (k : KpS H H') (h : SqT K H a xs) : SqT K H' a xs := by
  rcases h with (h | ⟨o, h⟩) | h
  · exact .inl (.inl (k _ _ h (fun _ z => by cases z) (fun _ _ _ z => by cases z)))
  · exact .inl (.inr ⟨o, k _ _ h (fun _ z => by cases z) (fun _ _ _ z => by cases z)⟩)
  · exact .inr h
mutual
theorem dp_kp {K : PySem.W.Frag} {H H' : Hp} (k : KpS H H') : ∀ (d : PyData) {v : V}, noL d = true → Dp K H v d → Dp K H' v d
  | .none, _, _, .non => .non
  | .bool b, _, _, .bl _ => .bl b
  | .int i, _, _, .int _ => .int i
  | .str x, _, _, .str _ => .str x
  | .list ds, _, h, _ => by cases h
  | .tuple ds, _, h, .tup q hs => .tup (sqT_kp k q) (dpAll_kp k ds h hs)
  | .dict _, _, h, _ => by cases h
theorem dpAll_kp {K : PySem.W.Frag} {H H' : Hp} (k : KpS H H') : ∀ (ds : List PyData) {vs : List V}, noLs ds = true → DpAll K H vs ds → DpAll K H' vs ds
  | [], _, _, .nil => .nil
  | d :: ds, _, h, .cons q hs => by
    unfold noLs at h
    rw [Bool.and_eq_true] at h
    exact .cons (dp_kp k d h.1 q) (dpAll_kp k ds h.2 hs)
end
/-- a method as it stands -/
structure MethAt (K : PySem.W.Frag) (C : Addr) (m qual : Str) (st : Stmt) (f : Addr) (fd : FuncData) : Prop where
  me : Meth K C m f
  fn : L2.Fun K m qual st f fd
theorem lenF1 {f : Str} {v : V} {fs : List (Str × V)} {n : Nat} (h : fs.length ≤ n) : (putF f v fs).length ≤ n + 1 := Nat.le_trans (length_putF f v fs) (Nat.succ_le_succ h)
theorem lenF {f : Str} {v : V} {fs : List (Str × V)} {n : Nat} (h : fs.length ≤ n) (hn : n + 1 < 1000) : (putF f v fs).length < 1000 := Nat.lt_of_le_of_lt (lenF1 h) hn
end RS
set_option Elab.async false
set_option maxRecDepth 100000
set_option maxHeartbeats 4000000
namespace RS
open PySem PySem.Spec PyProof.Rows L2 GX
/-! ### the drawer -/
structure BoxAt (H : Hp) (B L : Addr) : Prop where
  ne : B ≠ L
  b : ∃ s : Int, H B = some (.lst [.ref L, .int s])
  l : ∃ ms : List Int, H L = some (.lst (ms.map V.int))
/-- all but the drawer stays -/
def SameX (B L : Addr) (H H' : Hp) : Prop := ∀ b o, b ≠ B → b ≠ L → H b = some o → H' b = some o
theorem SameX.refl {B L : Addr} {H : Hp} : SameX B L H H := fun _ _ _ _ e => e
theorem SameX.trans {B L : Addr} {H H1 H2 : Hp} (a : SameX B L H H1) (b : SameX B L H1 H2) : SameX B L H H2 := fun c o h1 h2 e => b c o h1 h2 (a c o h1 h2 e)
theorem SameX.of {B L : Addr} {H H' : Hp} (s : Same H H') : SameX B L H H' := fun b o _ _ e => s b o e
theorem BoxAt.same {H H' : Hp} {B L : Addr} (h : BoxAt H B L) (s : Same H H') : BoxAt H' B L := by
  obtain ⟨n, ⟨x, hb⟩, ⟨ms, hl⟩⟩ := h
  exact ⟨n, ⟨x, s _ _ hb⟩, ⟨ms, s _ _ hl⟩⟩
section
variable {P : Program} {w : World} {K : PySem.W.Frag} {mg : Str → Option Value} {base : Heap}
theorem dpInts {K : PySem.W.Frag} {H : Hp} : ∀ {ns : List Int}, DpAll K H (ns.map V.int) (ns.map .int)
  | [] => .nil
  | n :: _ => .cons (.int n) dpInts
theorem scBegun : FnScope ["_law_script", "_law_stirred", "_law_cell"] ["_law_script"] (defScope sBegun) := ⟨rfl, rfl, rfl, by decide +kernel, rfl, by decide +kernel, by decide +kernel⟩
def spBegun (K : PySem.W.Frag) : Sp := fun vs H Q _ => ∃ (a : Addr) (ns : List Int), vs = [.ref a] ∧ SqL K H a (ns.map V.int) ∧
  ∀ (H' : Hp) (B L : Addr), Same H H' → H B = none → H L = none → BoxAt H' B L → Q (.ref B) H'
theorem begun_ok {c : Addr} (D : DefAt K mg "_law_begun" sBegun c) (T : Txt K mg) : Cal P w K mg base CX0 1 "_law_begun" ["_law_script"] (spBegun K) := by
  have sc := scBegun
  refine def_ok0 D sc (fun vs H Q E h => ?_) (fun _ _ _ _ _ _ us hl => match us, hl with | [_], _ => rfl) (fun f A outer s H vs Q E hr h => ?_)
  · obtain ⟨a, ns, rfl, _⟩ := h
    rfl
  · obtain ⟨a, ns, rfl, hS, k⟩ := h
    refine ⟨_, (pss_cons (ps_set (i := 1) sc.nd rfl (Or.inl rfl) pe_int) (pss_cons (ps_for PassesOwn.never rfl (pi_list (pv 0)) (pg_name (i := 2) sc.nd rfl (Or.inl rfl)) (pss_one (ps_set (i := 1) sc.nd rfl (Or.inl rfl) (pe_op op_mod (pe_op op_add (pe_op op_add (pe_op op_mul (pv 1) pe_int) (pe_op op_mul (pv 2) pe_int)) pe_int) pe_int)))) (pss_one (ps_ret (pe_lst (pa_cons (pe_callTy call_list_of (by rfl) T.list_ (by decide +kernel) (pa_cons (pv 0) pa_nil)) (pa_cons (pe_op op_mul (pv 1) (pe_callTy call_int1 (by rfl) T.int_ (by decide +kernel) (pa_cons (pe_cmpR op_gt (pe_callB call_lenD (by rfl) T.len PySem.boot_len (pa_cons (pv 0) pa_nil)) pe_int (nomark _)) pa_nil))) pa_nil))))))), ?_⟩
    refine ⟨_, rfl, a, rfl, ⟨_, hS⟩, for_list (K := K) (a := a) (xs := ns.map V.int) (fun i σ H' => ∃ (st : Int) (v2 : Option V), σ = [some (.ref a), some (.int st), v2] ∧ 0 ≤ st ∧ st < 2147483647 ∧ H' = H)
      ⟨0, none, rfl, by decide, by decide, rfl⟩ (fun i σ H' _ ⟨_, _, _, _, _, e⟩ => by rw [e]; exact hS) ?_ ?_⟩
    · rintro i x σ H' hx ⟨st, v2, rfl, h0, h1, rfl⟩
      obtain ⟨n, en, rfl⟩ : ∃ n, ns[i]? = some n ∧ x = V.int n := by
        rw [List.getElem?_map] at hx
        cases q : ns[i]? with
        | none => rw [q] at hx; cases hx
        | some b => rw [q] at hx; exact ⟨b, rfl, (Option.some.inj hx).symm⟩
      refine ⟨_, rfl, _, _, rfl, rfl, .inl ⟨by omega, by omega⟩, ?_⟩
      refine ⟨_, rfl, _, _, rfl, rfl, .inr ⟨by omega, by omega⟩, ?_⟩
      refine ⟨_, _, rfl, rfl, _, _, rfl, rfl, _, _, rfl, rfl, (by show (0 : Int) < 2147483647; decide), ?_⟩
      exact ⟨_, _, rfl, Int.emod_nonneg _ (by decide), Int.emod_lt_of_pos _ (by decide), rfl⟩
    · rintro σ H' ⟨st, v2, rfl, h0, h1, rfl⟩
      refine ⟨_, rfl, a, _, rfl, .inl hS, fun L hL => ?_⟩
      have s1 : Same H' (upd H' L (.lst (ns.map V.int))) := fun b o e => by
        rw [upd_ne (ne_of_none e hL)]
        exact e
      refine ⟨_, rfl, _, rfl, .ref a, _, _, rfl, .lst (s1.seq hS) dpInts, rfl, _, _, rfl, rfl, .inr ⟨_, rfl, ?_⟩⟩
      refine ⟨_, _, rfl, rfl, .inl ⟨by omega, by omega⟩, ?_⟩
      refine ⟨by show 2 ≤ sizeLine; decide, fun B hB => ?_⟩
      have n1 : L ≠ B := fun z => by rw [← z, upd_same] at hB; cases hB
      exact k _ B L (fun b o e => by rw [upd_ne (ne_of_none (s1 _ _ e) hB)]; exact s1 _ _ e) (s1.free hB) hL ⟨Ne.symm n1, ⟨_, upd_same⟩, ⟨ns, (upd_ne n1).trans upd_same⟩⟩
end
end RS
set_option Elab.async false
set_option maxRecDepth 100000
set_option maxHeartbeats 4000000
namespace LM
open PySem PySem.Spec PyProof.Rows L2
/-! ### known objects that stay: the maker's cells while a call runs -/
def Pin (o : Obj) : HO := .frz o (.own 0)
/-- the addresses of a frame's cells -/
def Cell (cl : List (Str × Addr)) (b : Addr) : Prop := ∃ y, cl.lookup y = some b
open Classical in
/-- the abstract heap without the cells -/
noncomputable def off (cl : List (Str × Addr)) (H : Hp) : Hp := fun b => if Cell cl b then none else H b
open Classical in
/-- H' with the cells of H -/
noncomputable def back (cl : List (Str × Addr)) (H H' : Hp) : Hp := fun b => if Cell cl b then H b else H' b
theorem off_c {cl : List (Str × Addr)} {H : Hp} {b : Addr} (h : Cell cl b) : off cl H b = none := if_pos h
theorem off_n {cl : List (Str × Addr)} {H : Hp} {b : Addr} (h : ¬ Cell cl b) : off cl H b = H b := if_neg h
theorem back_c {cl : List (Str × Addr)} {H H' : Hp} {b : Addr} (h : Cell cl b) : back cl H H' b = H b := if_pos h
theorem back_n {cl : List (Str × Addr)} {H H' : Hp} {b : Addr} (h : ¬ Cell cl b) : back cl H H' b = H' b := if_neg h
/-- all cells are known in H -/
def Held (cl : List (Str × Addr)) (H : Hp) : Prop := ∀ b, Cell cl b → ∃ o, H b = some (Pin o)
/-- no cell is told of in H -/
def Loose (cl : List (Str × Addr)) (H : Hp) : Prop := ∀ b, Cell cl b → H b = none
theorem loose_off {cl : List (Str × Addr)} {H : Hp} : Loose cl (off cl H) := fun _ h => off_c h
theorem pin_own {o : Obj} {a : Addr} : Pin o ≠ .own a := fun z => nomatch z
theorem pin_tbl {o : Obj} {ps : Array Value} : Pin o ≠ .tbl ps := fun z => nomatch z
theorem pin_tup {o : Obj} {xs : List V} : Pin o ≠ .tup xs := fun z => nomatch z
section
variable {P : Program} {w : World} {K : PySem.W.Frag} {mg : Str → Option Value} {base : Heap} {A : Around} {outer : List Env} {s s' : Shared} {H H' G : Hp} {cl : List (Str × Addr)} {h h' : Heap} {fs : List Addr}
theorem pin_at (x : HOk P w H h) {b : Addr} {o : Obj} (e : H b = some (Pin o)) : h.get? b = some o := (x b _ e).1
theorem held_off (hd : Held cl H) (b : Addr) (u : HO) (hu : ∀ o, u ≠ Pin o) (e : H b = some u) : off cl H b = some u := by
  by_cases c : Cell cl b
  · obtain ⟨o, z⟩ := hd b c
    rw [z] at e
    exact absurd (Option.some.inj e).symm (hu o)
  · rw [off_n c]
    exact e
theorem hok_off (hd : Held cl H) (x : HOk P w H h) : HOk P w (off cl H) h := fun b u e => by
  by_cases c : Cell cl b
  · rw [off_c c] at e
    cases e
  · rw [off_n c] at e
    exact (x b u e).stay (fun _ _ _ q => q) (fun d q => held_off hd d _ (fun o z => pin_own z.symm) q) fun d xs q => held_off hd d _ (fun o z => pin_tup z.symm) q
/-- the state at a call, its cells let go -/
theorem env_off (hd : Held cl H) (e : Env0 P w K mg base A outer s H) : Env0 P w K mg base A outer s (off cl H) := by
  refine ⟨e.frames, e.mod, fun b o q => ⟨(e.bs b o q).1, ?_⟩, e.bsz, e.funs, fun b q => ?_, hok_off hd e.hok, e.bare⟩
  · by_cases c : Cell cl b
    · exact off_c c
    · rw [off_n c]
      exact (e.bs b o q).2
  · by_cases c : Cell cl b
    · exact off_c c
    · rw [off_n c]
      exact e.frf b q
/-- what a run did ahead of which the cells were let go: with them -/
theorem un_back (hd : Held cl H) (hk : HOk P w H h) (nf : ∀ b, Cell cl b → b ∉ fs) (u : Un fs [] (off cl H) H' h h') : Un fs [] H (back cl H H') h h' := by
  have nc : ∀ b, H b = none → ¬ Cell cl b := fun b n c => by
    obtain ⟨o, z⟩ := hd b c
    rw [n] at z
    cases z
  refine ⟨fun b o q n hb hx => u.keep b o q (by rw [off_n (nc b n)]; exact n) hb hx, fun b o q n hb hx => u.slot b o q (by rw [off_n (nc b n)]; exact n) hb hx, fun b o q n hx => ?_, u.there, fun b xs q => ?_, fun b o v q => ?_, fun b ps q => ?_⟩
  · rw [back_n (nc b n)]
    exact u.free b o q (by rw [off_n (nc b n)]; exact n) hx
  · have c : ¬ Cell cl b := fun c => by
      obtain ⟨o, z⟩ := hd b c
      rw [q] at z
      cases z
    rw [back_n c]
    exact u.tups b xs (by rw [off_n c]; exact q)
  · by_cases c : Cell cl b
    · rw [back_c c]
      exact q
    · rw [back_n c]
      exact u.frzs b o v (by rw [off_n c]; exact q)
  · have c : ¬ Cell cl b := fun c => by
      obtain ⟨o, z⟩ := hd b c
      rw [q] at z
      cases z
    rw [back_n c]
    exact u.tbls b ps (by rw [off_n c]; exact q)
theorem loose_un (hk : HOk P w H h) (hd : Held cl H) (u : Un fs [] (off cl H) H' h h') : Loose cl H' := fun b c => by
  obtain ⟨o, z⟩ := hd b c
  exact u.free b o (pin_at hk z) (off_c c) (by simp)
theorem hok_back (hd : Held cl H) (hk : HOk P w H h) (nf : ∀ b, Cell cl b → b ∉ fs) (u : Un fs [] (off cl H) H' h h') (x : HOk P w H' h') : HOk P w (back cl H H') h' := fun b v e => by
  have lo := loose_un hk hd u
  by_cases c : Cell cl b
  · rw [back_c c] at e
    obtain ⟨o, z⟩ := hd b c
    rw [z] at e
    cases e
    have := u.keep b o (pin_at hk z) (off_c c) (nf b c) (by simp)
    exact ⟨this, ⟨o, this⟩⟩
  · rw [back_n c] at e
    have st : ∀ d v, H' d = some v → back cl H H' d = some v := fun d v q => by
      have : ¬ Cell cl d := fun z => by
        rw [lo d z] at q
        cases q
      rw [back_n this]
      exact q
    exact (x b v e).stay (fun _ _ _ q => q) (fun d q => st d _ q) fun d xs q => st d _ q
/-- G is H with the cells known -/
structure Up (cl : List (Str × Addr)) (H G : Hp) (h : Heap) : Prop where
  lo : Loose cl H
  same : ∀ b, ¬ Cell cl b → G b = H b
  held : ∀ b, Cell cl b → ∃ o, h.get? b = some o ∧ G b = some (Pin o)
theorem Up.hd (p : Up cl H G h) : Held cl G := fun b c => by
  obtain ⟨o, _, z⟩ := p.held b c
  exact ⟨o, z⟩
theorem up_some (p : Up cl H G h) {b : Addr} {u : HO} (e : H b = some u) : G b = some u := by
  have : ¬ Cell cl b := fun c => by
    rw [p.lo b c] at e
    cases e
  rw [p.same b this]
  exact e
theorem hok_up (p : Up cl H G h) (x : HOk P w H h) : HOk P w G h := fun b u e => by
  by_cases c : Cell cl b
  · obtain ⟨o, ho, z⟩ := p.held b c
    rw [z] at e
    cases e
    exact ⟨ho, ⟨o, ho⟩⟩
  · rw [p.same b c] at e
    exact (x b u e).stay (fun _ _ _ q => q) (fun d q => up_some p q) fun d xs q => up_some p q
theorem env_up (p : Up cl H G s.heap) (nb : ∀ b, Cell cl b → base.get? b = none) (nf : ∀ b, Cell cl b → b ∉ frs outer) (e : Env0 P w K mg base A outer s H) : Env0 P w K mg base A outer s G := by
  refine ⟨e.frames, e.mod, fun b o q => ⟨(e.bs b o q).1, ?_⟩, e.bsz, e.funs, fun b q => ?_, hok_up p e.hok, e.bare⟩
  · rw [p.same b fun c => by rw [nb b c] at q; cases q]
    exact (e.bs b o q).2
  · rw [p.same b fun c => nf b c q]
    exact e.frf b q
/-- behind a call with known cells: they are let go again -/
theorem end_up {Q : VK} {u : Value} (p : Up cl H G s.heap) (h : CE outer P w G s (fun v H' => Q v (off cl H')) u s') : CE outer P w H s Q u s' := by
  obtain ⟨v, H', os, bare, un, hk, r, q⟩ := h
  have kept : ∀ b, Cell cl b → ∃ o, s.heap.get? b = some o ∧ H' b = some (Pin o) := fun b c => by
    obtain ⟨o, ho, z⟩ := p.held b c
    exact ⟨o, ho, un.frzs b o _ z⟩
  have hd : Held cl H' := fun b c => by
    obtain ⟨o, _, z⟩ := kept b c
    exact ⟨o, z⟩
  refine ⟨v, off cl H', os, bare, ⟨fun b o e n hb hx => ?_, fun b o e n hb hx => ?_, fun b o e n hx => ?_, un.there, fun b xs e => ?_, fun b o v e => ?_, fun b ps e => ?_⟩, hok_off hd hk, r, q⟩
  · by_cases c : Cell cl b
    · obtain ⟨o', ho, z⟩ := kept b c
      rw [e] at ho
      cases ho
      exact pin_at hk z
    · exact un.keep b o e (by rw [p.same b c]; exact n) hb hx
  · by_cases c : Cell cl b
    · obtain ⟨o', ho, z⟩ := kept b c
      rw [e] at ho
      cases ho
      exact ⟨o.slots, pin_at hk z⟩
    · exact un.slot b o e (by rw [p.same b c]; exact n) hb hx
  · by_cases c : Cell cl b
    · exact off_c c
    · rw [off_n c]
      exact un.free b o e (by rw [p.same b c]; exact n) hx
  · have g := un.tups b xs (up_some p e)
    exact held_off hd b _ (fun o z => pin_tup z.symm) g
  · have c : ¬ Cell cl b := fun c => by
      rw [p.lo b c] at e
      cases e
    rw [off_n c]
    exact un.frzs b o v (up_some p e)
  · obtain ⟨more, g⟩ := un.tbls b ps (up_some p e)
    exact ⟨more, held_off hd b _ (fun o z => nomatch z) g⟩
end
end LM
set_option Elab.async false
set_option maxRecDepth 100000
set_option maxHeartbeats 4000000
namespace LM
open PySem PySem.Spec PyProof.Rows L2
open LamX (ExtN TabS TabB CodeO LamS lamCx lamEnv)
/-! ### an exception through let-go cells -/
section
variable {P : Program} {w : World} {outer : List Env} {s s' : Shared} {H : Hp} {cl : List (Str × Addr)}
theorem cx_back {E : XK} {u : Value} (hd : Held cl H) (hk : HOk P w H s.heap) (nf : ∀ b, Cell cl b → b ∉ frs outer) (x : L2.CX P w outer (off cl H) s (fun c d H' => Loose cl H' → E c d (back cl H H')) u s') : L2.CX P w outer H s E u s' := by
  obtain ⟨a, B, H', c, d, e, fl, ok, ub, na, os, bare, q⟩ := x
  have nc : ∀ b, H b = none → ¬ Cell cl b := fun b n z => by
    obtain ⟨o, y⟩ := hd b z
    rw [n] at y
    cases y
  have lo : Loose cl H' := fun b z => by
    obtain ⟨o, y⟩ := hd b z
    exact ub.free b o (pin_at hk y) (off_c z)
  have ap : ∀ b u, (∀ o, u ≠ Pin o) → H b = some u → ¬ Cell cl b := fun b u hu y z => by
    obtain ⟨o, v⟩ := hd b z
    rw [y] at v
    exact hu o (Option.some.inj v)
  have inB : ∀ b, Cell cl b → ∃ o, H b = some (Pin o) ∧ B.get? b = some o := fun b z => by
    obtain ⟨o, y⟩ := hd b z
    exact ⟨o, y, ub.keep b o (pin_at hk y) (off_c z) (nf b z)⟩
  have nca : ¬ Cell cl a := fun z => by
    obtain ⟨o, _, y⟩ := inB a z
    rw [fl.2.1] at y
    cases y
  refine ⟨a, B, back cl H H', c, d, e, fl, fun b v y => ?_, ⟨fun b o y n hb => ub.keep b o y (by rw [off_n (nc b n)]; exact n) hb, ub.slot, fun b o y n => ?_, ub.there, fun b xs y => ?_, fun b o v y => ?_, fun b ps y => ?_⟩, by rw [back_n nca]; exact na, os, bare, q lo⟩
  · by_cases z : Cell cl b
    · rw [back_c z] at y
      obtain ⟨o, y2, g⟩ := inB b z
      rw [y2] at y
      cases y
      exact ⟨g, ⟨o, g⟩⟩
    · rw [back_n z] at y
      have st : ∀ d v, H' d = some v → back cl H H' d = some v := fun d v q => by
        have : ¬ Cell cl d := fun z => by
          rw [lo d z] at q
          cases q
        rw [back_n this]
        exact q
      exact (ok b v y).stay (fun _ _ _ q => q) (fun d q => st d _ q) fun d xs q => st d _ q
  · rw [back_n (nc b n)]
    exact ub.free b o y (by rw [off_n (nc b n)]; exact n)
  · have z := ap b _ (fun o y => pin_tup y.symm) y
    rw [back_n z]
    exact ub.tups b xs (by rw [off_n z]; exact y)
  · by_cases z : Cell cl b
    · rw [back_c z]
      exact y
    · rw [back_n z]
      exact ub.frzs b o v (by rw [off_n z]; exact y)
  · have z := ap b _ (fun o y => pin_tbl y.symm) y
    rw [back_n z]
    exact ub.tbls b ps (by rw [off_n z]; exact y)
theorem cr_back {Q : VK} {E : XK} {r : Result} (hd : Held cl H) (hk : HOk P w H s.heap) (nf : ∀ b, Cell cl b → b ∉ frs outer) (x : CR (L2.CX P w) outer P w (off cl H) s (fun v H' => Loose cl H' → Q v (back cl H H')) (fun c d H' => Loose cl H' → E c d (back cl H H')) r s') : CR (L2.CX P w) outer P w H s Q E r s' := by
  cases r with
  | error e => exact cx_back hd hk nf x
  | ok fl =>
    cases fl with
    | ret u =>
      obtain ⟨v, H', os, bare, un, ok, rv, q⟩ := x
      exact ⟨v, back cl H H', os, bare, un_back hd hk nf un, hok_back hd hk nf un ok, rv, q (loose_un hk hd un)⟩
    | next => exact x
    | brk => exact x
    | cont => exact x
end
/-! ### what a lambda does where it is called -/
/-- f, called without arguments where R holds, keeps tl -/
structure Act (P : Program) (w : World) (K : PySem.W.Frag) (mg : Str → Option Value) (base : Heap) (k : Nat) (f : Addr) (R : Hp → Prop) (tl : Hp → VK → XK → Prop) : Prop where
  same : ∀ H H' : Hp, (∀ b o, H b = some o → H' b = some o) → R H → R H'
  fn : ∀ (s : Shared) (H : Hp), R H → HOk P w H s.heap → PySem.W.FnAt f s.heap
  run : ∀ (A : Around) (outer : List Env) (s : Shared) (H : Hp) (Q : VK) (E : XK), Room k A → Env0 P w K mg base A outer s H → R H → tl H Q E → codeAny (model P w) A (.call (.ref f) ⟨[], []⟩) (CR (L2.CX P w) outer P w H s Q E) s
/-- the lambda that stands at f -/
def IsLam (H : Hp) (f : Addr) (q : Str) (params : Arguments) (body : Expr) (scope : Scope) (clos : List (Str × Addr)) : Prop :=
  ∃ (c' : Addr) (pm ctv : Value), H f = some (Pin (PySem.W.kla_obj "<lambda>" q params body scope clos pm c' ctv)) ∧ H c' = some (CodeO c' q)
theorem IsLam.ext {H H' : Hp} {f : Addr} {q : Str} {params : Arguments} {body : Expr} {scope : Scope} {clos : List (Str × Addr)} (h : IsLam H f q params body scope clos) (e : ExtN H H') : IsLam H' f q params body scope clos := by
  obtain ⟨c', pm, ctv, h1, h2⟩ := h
  exact ⟨c', pm, ctv, e _ _ h1 (fun ps z => nomatch z), e _ _ h2 (fun ps z => LamX.codeO_ne ps z)⟩
/-- what a frame's cells hold, told at a call: H ahead, G with the cells -/
structure Caught (X : Cx) (σ : L2.St) (H G : Hp) : Prop where
  len : σ.length = X.N.length
  has : ∀ y, X.env.kindOf y = some .cell ∨ X.env.kindOf y = some .free → ∃ c, X.env.cells.lookup y = some c
  inj : ∀ x y c, X.env.cells.lookup x = some c → X.env.cells.lookup y = some c → x = y
  lo : Loose X.env.cells H
  same : ∀ b, ¬ Cell X.env.cells b → G b = H b
  held : ∀ b, Cell X.env.cells b → ∃ o v, G b = some (Pin o) ∧ o.data = .cell v
  val : ∀ (i : Nat) (y : Str) (v : V), X.N[i]? = some y → σ[i]? = some (some v) → X.env.kindOf y = some .cell ∨ X.env.kindOf y = some .free → ∃ c o u, X.env.cells.lookup y = some c ∧ G c = some (Pin o) ∧ o.data = .cell (some u) ∧ RelV v u
theorem Caught.some {X : Cx} {σ : L2.St} {H G : Hp} (c : Caught X σ H G) {b : Addr} {o : HO} (e : H b = some o) : G b = some o := by
  rw [c.same b fun z => by rw [c.lo b z] at e; cases e]
  exact e
theorem Caught.hd {X : Cx} {σ : L2.St} {H G : Hp} (c : Caught X σ H G) : Held X.env.cells G := fun b z => by
  obtain ⟨o, _, e, _⟩ := c.held b z
  exact ⟨o, e⟩
open Classical in
theorem caught_of {X : Cx} {pins : List (Addr × Obj)} {σ : L2.St} {H : Hp} {s : Shared} (I : Inv X pins σ H s) : ∃ G, Up X.env.cells H G s.heap ∧ Caught X σ H G := by
  have lo : Loose X.env.cells H := fun b ⟨y, e⟩ => I.freeC y b e
  have at_ : ∀ b, Cell X.env.cells b → ∃ o v, s.heap.get? b = some o ∧ o.data = .cell v := fun b ⟨y, e⟩ => by
    obtain ⟨v, o, h1, h2⟩ := I.cell y b e
    exact ⟨o, v, h1, h2⟩
  refine ⟨fun b => if Cell X.env.cells b then (s.heap.get? b).map Pin else H b, ⟨lo, fun b c => if_neg c, fun b c => ?_⟩, ⟨I.len, fun y hy => I.ok.has y hy, I.ok.inj, lo, fun b c => if_neg c, fun b c => ?_, fun i y v h1 h2 h3 => ?_⟩⟩
  · obtain ⟨o, v, h1, h2⟩ := at_ b c
    refine ⟨o, h1, ?_⟩
    show (if Cell X.env.cells b then (s.heap.get? b).map Pin else H b) = _
    rw [if_pos c, h1]
    rfl
  · obtain ⟨o, v, h1, h2⟩ := at_ b c
    refine ⟨o, v, ?_, h2⟩
    show (if Cell X.env.cells b then (s.heap.get? b).map Pin else H b) = _
    rw [if_pos c, h1]
    rfl
  · obtain ⟨m, _, hl⟩ := I.loc
    have hv : Vis X.env.scope y := h3.elim (fun k => .inr (.inl k)) fun k => .inr (.inr k)
    obtain ⟨u, r, q⟩ := hl i y v h1 h2 hv
    rcases q with ⟨k, _⟩ | ⟨_, c, e, o, ho, hd⟩
    · rcases h3 with z | z <;> rw [z] at k <;> cases k
    · refine ⟨c, o, u, e, ?_, hd, r⟩
      show (if Cell X.env.cells c then (s.heap.get? c).map Pin else H c) = _
      rw [if_pos ⟨y, e⟩, ho]
      rfl
/-- the lambda's own frame is entered -/
theorem lam_in {X : Cx} {σ : L2.St} {H G HZ : Hp} {A : Around} {outer : List Env} {E : XK} {scope : Scope} {f c' : Addr} {h₁ : Heap} {tk : Nat} {s1 : Shared} (U : Caught X σ H G) (L : LamS X.env.scope scope) (e0 : Env0 X.prog X.w X.K X.mg X.base A outer s1 (off X.env.cells HZ)) (hd : A.handled = none)
    (hz : ∀ b, Cell X.env.cells b → ∃ o, G b = some (Pin o) ∧ s1.heap.get? b = some o) (hns : h₁.Ns s1.heap.objs.size fun y => ([] : List (Str × Value)).reverse.lookup y) (kp : ∀ b o, s1.heap.get? b = some o → h₁.get? b = some o) :
    Inv (lamCx X A outer s1 (off X.env.cells HZ) E scope f c') [] σ (off X.env.cells HZ) { s1 with heap := h₁, toks := tk } := by
  have has : ∀ y ∈ scope.names, y.2 = .free → ∃ c, X.env.cells.lookup y.1 = some c := fun y hy e => U.has _ (L.free y hy e)
  have cm : ∀ {y c}, (cloFrom X.env.cells scope.names []).lookup y = some c → X.env.cells.lookup y = some c := fun {y c} e => by
    rcases cloFrom_mem (PySem.mem_of_lookup e) with z | ⟨h1, h2⟩
    · cases z
    · obtain ⟨c1, hc⟩ := has _ h1 rfl
      have hc : X.env.cells.lookup y = some c1 := hc
      rw [hc] at h2
      rw [h2]
      exact hc
  have look : ∀ {y}, scope.names.lookup y = some .free → ∃ c, (cloFrom X.env.cells scope.names []).lookup y = some c := fun {y} hl =>
    mem_lookup (cloFrom_has (cells := X.env.cells) (acc := []) (PySem.mem_of_lookup hl))
  have isC : ∀ {y c}, X.env.cells.lookup y = some c → ∃ v, h₁.IsCell c v := fun {y c} e => by
    obtain ⟨o, v, g, d⟩ := U.held c ⟨y, e⟩
    obtain ⟨o', g', k⟩ := hz c ⟨y, e⟩
    rw [g] at g'
    have : o = o' := by injection g' with g'; injection g'
    subst this
    exact ⟨v, o, kp _ _ k, d⟩
  have noex : ∀ b : Addr, b ∉ (lamCx X A outer s1 (off X.env.cells HZ) E scope f c').ex := fun b z => nomatch (show b ∈ ([] : List Addr) from z)
  refine ⟨⟨e0.mod, L.kind, rfl, rfl, Nat.le_refl _, fun y z c e1 e2 => U.inj y z c (cm e1) (cm e2), fun y hy => ?_, fun y c z _ => Bool.noConfusion (show false = true from z), fun _ => hd, Around.frames_deeper e0.frames, .inr ⟨rfl, rfl⟩, fun b z => absurd z (noex b), e0.bs, e0.bsz, fun b _ _ => noex b,
      fun b z => absurd z (noex b), e0.funs, e0.frf⟩,
    rfl, e0.bare, Un.kept kp, ⟨_, hns, fun i y v e1 e2 e3 => ?_⟩, fun y c e => isC (cm e), e0.hok.fresh (Nat.le_refl _), fun y c e => off_c ⟨y, cm e⟩, fun q hq => absurd (show q ∈ ([] : List (Addr × Obj)) ++ [] from hq) (by simp), e0.hok.kept kp, U.len⟩
  · have hy : scope.names.lookup y = some .cell ∨ scope.names.lookup y = some .free := hy
    rcases hy with hy | hy
    · exact absurd rfl (L.own _ (PySem.mem_of_lookup hy)).2
    · exact look hy
  · have e3 : Vis scope y := e3
    rcases e3 with k | k | k
    · exact absurd rfl (L.own _ (PySem.mem_of_lookup k)).1
    · exact absurd rfl (L.own _ (PySem.mem_of_lookup k)).2
    · obtain ⟨c, o, u, h1, h2, h3, r⟩ := U.val i y v e1 e2 (L.free _ (PySem.mem_of_lookup k) rfl)
      obtain ⟨c2, z⟩ := look k
      have := cm z
      rw [h1] at this
      cases this
      obtain ⟨o', g', kk⟩ := hz c ⟨y, h1⟩
      rw [h2] at g'
      have : o = o' := by injection g' with g'; injection g'
      subst this
      exact ⟨u, r, .inr ⟨.inr k, c, z, o, kp _ _ kk, h3⟩⟩
/-- what the lambda at f does, wherever it is called while the frame's cells are known -/
theorem lam_act {X : Cx} {σ : L2.St} {H G : Hp} {params : Arguments} {body : Expr} {scope : Scope} {f : Addr} {k : Nat} {t : XK → TE} (U : Caught X σ H G) (L : LamS X.env.scope scope) (hl : IsLam G f (X.env.qual ++ "<lambda>") params body scope (cloFrom X.env.cells scope.names []))
    (hbind : ∀ (q : Str) (cl : List (Str × Addr)) (pm cv ctv : Value), bindArgs (PySem.W.kla_fn "<lambda>" q params body scope cl pm cv ctv) ⟨[], []⟩ = pure [])
    (hbody : ∀ (A : Around) (outer : List Env) (s : Shared) (H : Hp) (E : XK) (c' : Addr), Room k (A.deeper (lamEnv X scope s.heap.objs.size f c')) → PE (lamCx X A outer s H E scope f c') body (t E)) :
    ∃ R : Hp → Prop, R G ∧ Act X.prog X.w X.K X.mg X.base (k + 1) f R (fun H Q E => t (fun c d H' => Loose X.env.cells H' → E c d (back X.env.cells H H')) σ (off X.env.cells H) (fun v H' => Loose X.env.cells H' → Q v (back X.env.cells H H'))) := by
  obtain ⟨c', pm, ctv, h1, h2⟩ := hl
  refine ⟨fun HZ => HZ f = G f ∧ HZ c' = G c' ∧ ∀ b, Cell X.env.cells b → HZ b = G b, ⟨rfl, rfl, fun _ _ => rfl⟩, ⟨fun H H' e ⟨r1, r2, r3⟩ => ⟨?_, ?_, fun b c => ?_⟩, fun s H ⟨r1, _, _⟩ ok => ?_, fun A outer s HZ Q E hr e0 ⟨r1, r2, r3⟩ ht => ?_⟩⟩
  · rw [h1] at r1 ⊢
    exact e _ _ r1
  · rw [h2] at r2 ⊢
    exact e _ _ r2
  · obtain ⟨o, z⟩ := U.hd b c
    have r3 := r3 b c
    rw [z] at r3 ⊢
    exact e _ _ r3
  · rw [h1] at r1
    exact ⟨_, _, _, _, pin_at ok r1⟩
  have hd : Held X.env.cells HZ := fun b c => by
    rw [r3 b c]
    exact U.hd b c
  have nf : ∀ b, Cell X.env.cells b → b ∉ frs outer := fun b c z => by
    obtain ⟨o, y⟩ := hd b c
    rw [e0.frf b z] at y
    cases y
  rw [h1] at r1
  rw [h2] at r2
  have of1 := pin_at e0.hok r1
  obtain ⟨⟨oc, vs, tt, hoc, hdc, hvc⟩, _, _⟩ := e0.hok c' _ r2
  have e1 := env_off hd e0
  have lim : s.heap.NoLimit := e0.mod.nolimit.keeps fun b o e => (e0.bs b o e).1
  refine codeAny_mono (R := CR (L2.CX X.prog X.w) outer X.prog X.w (off X.env.cells HZ) s (fun v H' => Loose X.env.cells H' → Q v (back X.env.cells HZ H')) (fun c d H' => Loose X.env.cells H' → E c d (back X.env.cells HZ H'))) ?_ fun r s' hq => cr_back hd e0.hok nf hq
  refine PySem.W.kla_callFunE hr.depth of1 rfl L.co L.gen rfl ⟨c', oc, vs, tt, rfl, hoc, hdc, hvc⟩ ?_
  rw [hbind]
  refine wpAny_pure (wpAny_newFunctionEnv (fun y hy => (L.own y hy).2) (fun y hy => absurd hy (by simp)) (fun h₁ hns hsb => ⟨lim.fresh _ hsb, ?_⟩) L.kind)
  show codeAny _ _ (.expr body (lamEnv X scope s.heap.objs.size f c')) _ _
  have kp : ∀ b o, s.heap.get? b = some o → h₁.get? b = some o := fun b o e => hsb.extBut b o (Nat.ne_of_lt (Heap.lt_size e)) (Heap.get?_push_of_some _ e)
  have J := lam_in (E := fun c d H' => Loose X.env.cells H' → E c d (back X.env.cells HZ H')) (scope := scope) (f := f) (c' := c') (tk := s.toks + ([] : List (Str × Value)).length) U L e1 hr.hd (fun b c => by
    obtain ⟨o, z⟩ := U.hd b c
    exact ⟨o, z, pin_at e0.hok ((r3 b c).trans z)⟩) hns kp
  refine PySem.W.kla_codeExpr (wpAny_mono ((hbody _ _ s (off X.env.cells HZ) _ c' (hr.deeper _)).run [] _ _ (off X.env.cells HZ) _ J ht) (fun v s' hq => ?_) fun e s' hq => hq)
  obtain ⟨w', H', J', rv, q⟩ := hq
  exact ⟨w', H', J'.os, J'.bare, J'.base, J'.hok, rv, q⟩
theorem caught_same {X : Cx} {σ : L2.St} {H G H' : Hp} (c : Caught X σ H G) (s : ∀ b o, G b = some o → H' b = some o) : ∀ b o, H b = some o → off X.env.cells H' b = some o := fun b o e => by
  rw [off_n fun z => by rw [c.lo b z] at e; cases e]
  exact s b o (c.some e)
theorem back_same {cl : List (Str × Addr)} {H H' : Hp} (s : ∀ b o, off cl H b = some o → H' b = some o) : ∀ b o, H b = some o → back cl H H' b = some o := fun b o e => by
  by_cases c : Cell cl b
  · rw [back_c c]
    exact e
  · rw [back_n c]
    exact s b o (by rw [off_n c]; exact e)
theorem back_at {cl : List (Str × Addr)} {H H' : Hp} (lo : Loose cl H') {b : Addr} {o : HO} (e : H' b = some o) : back cl H H' b = some o := by
  rw [back_n fun c => by rw [lo b c] at e; cases e]
  exact e
end LM
set_option Elab.async false
set_option maxRecDepth 100000
set_option maxHeartbeats 4000000
namespace LM
open PySem PySem.Spec PyProof.Rows L2
open LamX (ExtN TabS TabB CodeO LamS lamCx lamEnv)
/-! ### a lambda is made -/
def tLam (P : Addr) (q : Str) (params : Arguments) (body : Expr) (scope : Scope) (clos : List (Str × Addr)) : TE := fun _ H Q => TabS H P q ∧
  ∀ (f : Addr) (H1 : Hp), ExtN H H1 → TabS H1 P q → IsLam H1 f q params body scope clos → H f = none → Q (.ref f) H1
section
variable {X : Cx}
theorem pe_lam {c P : Addr} {params : Arguments} {body : Expr} {scope : Scope} {pos : Pos} (TB : TabB X.base X.mg c P) (hcode : X.env.code = .ref c) (L : LamS X.env.scope scope) (hdef : defaultsOf params X.env = ([], [])) :
    PE X (.Lambda params body scope pos) (tLam P (X.env.qual ++ "<lambda>") params body scope (cloFrom X.env.cells scope.names [])) := by
  refine ⟨fun pins s σ H Q I ⟨hT, h⟩ => ?_⟩
  obtain ⟨ps, hP, ht, ha⟩ := id hT
  refine PySem.W.kla_eval hdef ?_
  have hP' : s.heap.get? P = some { cls := .none, data := .fields ps } := I.hok P _ hP
  cases hc : codeAmong pos ps.toList with
  | none =>
    refine PySem.W.kla_makeFunction (mg := X.mg) (c := c) (P := P) (ps := ps) (closure_ok (L.has I.ok)) I.ok.glob (I.mod.glob.keeps I.bk) hcode (TB.code.keeps I.bk) hP' ht hc TB.gP (TB.bm.keeps I.bk) fun c' ctv g tk hx hge hlt hrec htb => ?_
    obtain ⟨c2, oc, vs, t, e2, hoc, hd, hv⟩ := hrec
    cases e2
    have nC : H c' = none := I.hok.fresh hge
    have I1 := LamX.inv_table (t' := tk) (q := X.env.qual ++ "<lambda>") (more := #[rawInt pos.line, rawInt pos.col, .ref c']) I hP (fun b o hb e => hx b o hb e) htb hge ⟨oc, vs, t, hoc, hd, hv⟩
    have I2 := I1.laid (a := g.objs.size) (o := Pin (PySem.W.kla_obj "<lambda>" (X.env.qual ++ "<lambda>") params body scope (cloFrom X.env.cells scope.names []) ((X.mg "__name__").getD .none) c' ctv)) (t' := tk) (fun b u e => Heap.get?_push_of_some (h := g) _ e) (Nat.le_refl _) ⟨Heap.get?_push_size _ rfl, ⟨_, Heap.get?_push_size _ rfl⟩⟩
    have nF : H g.objs.size = none := I.hok.fresh (Nat.le_trans hge (Nat.le_of_lt hlt))
    have n1 : g.objs.size ≠ c' := Nat.ne_of_gt hlt
    have n2 : P ≠ g.objs.size := ne_of_none hP nF
    have n3 : P ≠ c' := ne_of_none hP nC
    have hE : ExtN H (upd (upd (upd H P (.tbl (ps ++ #[rawInt pos.line, rawInt pos.col, .ref c']))) c' (CodeO c' (X.env.qual ++ "<lambda>"))) g.objs.size (Pin (PySem.W.kla_obj "<lambda>" (X.env.qual ++ "<lambda>") params body scope (cloFrom X.env.cells scope.names []) ((X.mg "__name__").getD .none) c' ctv))) := fun b o e n => by
      rw [upd_ne (ne_of_none e nF), upd_ne (ne_of_none e nC), upd_ne fun z => n ps (Option.some.inj (e.symm.trans (by rw [z]; exact hP)))]
      exact e
    have hC2 : (upd (upd (upd H P (.tbl (ps ++ #[rawInt pos.line, rawInt pos.col, .ref c']))) c' (CodeO c' (X.env.qual ++ "<lambda>"))) g.objs.size (Pin (PySem.W.kla_obj "<lambda>" (X.env.qual ++ "<lambda>") params body scope (cloFrom X.env.cells scope.names []) ((X.mg "__name__").getD .none) c' ctv))) c' = some (CodeO c' (X.env.qual ++ "<lambda>")) := by
      rw [upd_ne (Ne.symm n1), upd_same]
    refine ⟨.ref g.objs.size, _, I2, rfl, h _ _ hE ⟨_, by rw [upd_ne n2, upd_ne n3, upd_same], ?_, fun p' cv hcv => ?_⟩ ⟨c', _, ctv, upd_same, hC2⟩ nF⟩
    · simp only [Array.toList_append]
      exact PySem.TriplesOk_snoc _ _ _ _ ht
    · simp only [Array.toList_append] at hcv
      rcases LamX.among_app _ ht hcv with z | z
      · obtain ⟨c0, y1, y2⟩ := ha p' cv z
        exact ⟨c0, y1, hE _ _ y2 (fun ps => LamX.codeO_ne ps)⟩
      · exact ⟨c', z, hC2⟩
  | some cv =>
    obtain ⟨c', rfl, hco⟩ := ha pos cv hc
    refine PySem.W.kla_makeFunctionHit (mg := X.mg) (c := c) (P := P) (ps := ps) (closure_ok (L.has I.ok)) I.ok.glob (I.mod.glob.keeps I.bk) hcode (TB.code.keeps I.bk) hP' ht hc (TB.bm.keeps I.bk) fun ctv g tk hx hsz => ?_
    have I1 : Inv X pins σ H { s with heap := g, toks := tk } := I.kept hx
    have I2 := I1.laid (a := g.objs.size) (o := Pin (PySem.W.kla_obj "<lambda>" (X.env.qual ++ "<lambda>") params body scope (cloFrom X.env.cells scope.names []) ((X.mg "__name__").getD .none) c' ctv)) (t' := tk) (fun b u e => Heap.get?_push_of_some (h := g) _ e) (Nat.le_refl _) ⟨Heap.get?_push_size _ rfl, ⟨_, Heap.get?_push_size _ rfl⟩⟩
    have nF : H g.objs.size = none := I.hok.fresh hsz
    have hE : ∀ b o, H b = some o → (upd H g.objs.size (Pin (PySem.W.kla_obj "<lambda>" (X.env.qual ++ "<lambda>") params body scope (cloFrom X.env.cells scope.names []) ((X.mg "__name__").getD .none) c' ctv))) b = some o := fun b o e => by
      rw [upd_ne (ne_of_none e nF)]
      exact e
    exact ⟨.ref g.objs.size, _, I2, rfl, h _ _ (ExtN.of hE) (hT.ext hE) ⟨c', _, ctv, upd_same, hE _ _ hco⟩ nF⟩
theorem IsLam.up {X : Cx} {σ : L2.St} {H G : Hp} {f : Addr} {q : Str} {params : Arguments} {body : Expr} {scope : Scope} {clos : List (Str × Addr)} (h : IsLam H f q params body scope clos) (c : Caught X σ H G) : IsLam G f q params body scope clos := by
  obtain ⟨c', pm, ctv, h1, h2⟩ := h
  exact ⟨c', pm, ctv, c.some h1, c.some h2⟩
/-! ### a def is called, this frame's cells being known meanwhile -/
def tCallP (X : Cx) (sp : Sp) (t : TA) : TE := fun σ H Q => t σ H fun vs H1 => ∀ G, Caught X σ H1 G → sp vs G (fun v H' => Q v (off X.env.cells H')) C8.E0
theorem cells_apart {pins : List (Addr × Obj)} {σ : L2.St} {H : Hp} {s : Shared} (I : Inv X pins σ H s) (hfn : ∀ y, X.fn y = true) : (∀ b, Cell X.env.cells b → X.base.get? b = none) ∧ ∀ b, Cell X.env.cells b → b ∉ frs X.stack := by
  have ab : ∀ b, Cell X.env.cells b → X.s_0.heap.objs.size ≤ b := fun b ⟨y, e⟩ => I.ok.cab y b (hfn y) e
  refine ⟨fun b c => Heap.get?_none_of_le (Nat.le_trans I.ok.bsz (ab b c)), fun b c hm => ?_⟩
  rcases List.mem_cons.mp (I.stkSub b hm) with z | z
  · obtain ⟨y, e⟩ := c
    exact I.cne y b e z
  · obtain ⟨_, o, ho, _⟩ := I.ok.funs.mem z
    exact absurd (Nat.lt_of_lt_of_le (Heap.lt_size ho) (ab b c)) (Nat.lt_irrefl _)
section
variable {CX : CXT} {k j : Nat} {ps : List Str} {sp : Sp} {E : XK} {x : Str} {p pos : Pos} {e : Expr} {es : List Expr} {t : TA} {to : TE}
theorem pe_cP (c : RS.Cal X.prog X.w X.K X.mg X.base C8.CX0 k x ps sp) (hr : Room j X.A) (hk : k ≤ j) (hfn : ∀ y, X.fn y = true) (hg : Gl X x) (ha : PA X (e :: es) t) (hdb : (x == ("__debug__" : Str)) = false := by decide)
    (he : starEach (e :: es) X.env = (false, eval e X.env) :: starEach es X.env := by rfl) (hpl : (backTo pos (starEach es X.env)).any (·.1) = false := by rfl) :
    PE X (.Call (.Name x p) (e :: es) [] pos) (tCallP X sp t) := by
  obtain ⟨f, fd, F, hm, kp, hb⟩ := c.ex
  refine ⟨fun pins s σ H Q I h => ?_⟩
  refine wpAny_Call_Name_kw (ld_glob I hg hm ?_ hdb)
  refine PySem.W.callWith_K (h₀ := X.base) I.ok.mod.kin kp (thn (ha.run pos pins s σ H _ I h) fun us s1 ⟨vs, H1, I1, r, q⟩ => ⟨I1.kIn, ?_⟩) he hpl
  obtain ⟨G, up, ca⟩ := caught_of I1
  obtain ⟨nb, nf⟩ := cells_apart I1 hfn
  have q := q G ca
  have hl : us.length = ps.length := by rw [← r.length]; exact F.len _ _ _ _ q
  have b := hb s1 us I1.kIn (by rw [List.append_nil]; exact hl)
  rw [List.append_nil] at b
  refine wpAny_call (codeAny_mono (F.run X.A X.stack s1 G ⟨us, []⟩ us vs _ _ (hr.mono hk) (env_up up nb nf I1.env0) b r q) fun r s' hq => ?_)
  cases r with
  | error e => exact False.elim hq
  | ok fl =>
    cases fl with
    | ret u => exact I1.after (end_up up hq)
    | next => exact False.elim hq
    | brk => exact False.elim hq
    | cont => exact False.elim hq
/-! ### what was handed in is called -/
def tAct (P : Program) (w : World) (K : PySem.W.Frag) (mg : Str → Option Value) (base : Heap) (k : Nat) (E : L2.St → XK) (to : TE) : TE := fun σ H Q => to σ H fun x H1 => ∃ (f : Addr) (R : Hp → Prop) (tl : Hp → VK → XK → Prop), x = .ref f ∧ Act P w K mg base k f R tl ∧ R H1 ∧ tl H1 Q (E σ)
theorem pe_act {P : Program} {w : World} {K : PySem.W.Frag} {mg : Str → Option Value} {base : Heap} {a : Str} {p1 p2 : Pos} {E : L2.St → XK} (eP : X.prog = P) (ew : X.w = w) (eK : X.K = K) (eg : X.mg = mg) (eb : X.base = base) (hx : ∀ σ, PassesAt (L2.CX X.prog X.w) X σ (E σ)) (hr : Room j X.A) (hk : k ≤ j) (ho : PE X (.Name a p1) to) : PE X (.Call (.Name a p1) [] [] p2) (tAct P w K mg base k E to) := by
  subst eP ew eK eg eb
  refine ⟨fun pins s σ H Q I h => ?_⟩
  refine wpAny_Call_Name_kw (thn (ho.run pins s σ H _ I h) fun u s1 ⟨v, H1, I1, r1, f, R, tl, ev, A, hR, q⟩ => ?_)
  subst ev
  obtain rfl : u = Value.ref f := r1
  refine PySem.W.callWith_F0 (first := []) (A.fn s1 H1 hR I1.hok) ?_
  refine wpAny_call (codeAny_mono (A.run X.A X.stack s1 H1 Q (E σ) (hr.mono hk) I1.env0 hR q) fun r s' hq => ?_)
  cases r with
  | error e => exact hx σ pins H1 s1 e s' I1 hq
  | ok fl =>
    cases fl with
    | ret u => exact I1.after hq
    | next => exact False.elim hq
    | brk => exact False.elim hq
    | cont => exact False.elim hq
end
end
end LM
set_option Elab.async false
set_option maxRecDepth 100000
namespace RS
open PySem PySem.Spec PyProof.Rows L2 GX
theorem sameNew {H H1 : Hp} {a : Addr} {o : HO} (s : Same H H1) (h : H1 a = none) : Same H (upd H1 a o) := fun b u e => by
  rw [upd_ne (ne_of_none (s _ _ e) h)]
  exact s _ _ e
end RS
set_option Elab.async false
set_option maxRecDepth 100000
set_option maxHeartbeats 4000000
namespace RS
open PySem PySem.Spec PyProof.Rows L2 GX
theorem catA_any {K : PySem.W.Frag} {H : Hp} {a b : Addr} {xs ys : List V} {Q : VK} (ha : SqT K H a xs) (hb : SqT K H b ys) (hz : xs.length + ys.length ≤ sizeLine) (q : ∀ p H', Same H H' → SqT K H' p (xs ++ ys) → Q (.ref p) H') : rCatA K (.ref a) (.ref b) H Q :=
  ⟨a, b, xs, ys, rfl, rfl, ha, hb, hz, fun e => q b H (Same.refl H) (by rw [e]; exact hb), fun _ e => q a H (Same.refl H) (by rw [e, List.append_nil]; exact ha), fun _ _ p hp => q p _ (sameNew (Same.refl H) hp) (SqT.of upd_same)⟩
theorem slA_any {K : PySem.W.Frag} {H : Hp} {a : Addr} {xs : List V} {lo hi : Option Int} {Q : VK} (ha : SqT K H a xs) (q : ∀ p H', Same H H' → SqT K H' p (cutV xs lo hi) → Q (.ref p) H') : rSlA K (.ref a) lo hi H Q :=
  ⟨a, xs, rfl, ha, fun ⟨e1, e2⟩ => q a H (Same.refl H) (by
    have : cutV xs lo hi = xs := by
      unfold cutV
      rw [e1, e2, List.drop_zero, Nat.sub_zero, List.take_length]
    rw [this]
    exact ha), fun _ p hp => q p _ (sameNew (Same.refl H) hp) (SqT.of upd_same)⟩
end RS
set_option Elab.async false
set_option maxRecDepth 100000
set_option maxHeartbeats 4000000
namespace RS
open PySem PySem.Spec PyProof.Rows L2 GX LM
/-- an error class without fields -/
structure PlE (K : PySem.W.Frag) (mg : Str → Option Value) (nm : Str) (C : Addr) : Prop where
  x : PySem.W.excIn K C [.type "ValueError", .type "Exception", .type "BaseException", .type "object"] "ValueError.__new__" = true
  g : mg nm = some (.ref C)
  k : PySem.W.keepIn K (.ref C) = true
  b : PySem.W.subIn K (.ref C) (.type "BaseException") = some true
  t : PySem.W.typeIn K (.ref C) = some (.type "type")
/-! ### a op b op c op d -/
section
variable {X : Cx} {a b c d : Expr} {ta tb tc td : TE} {pos : Pos}
def tChain3 (r r' r'' : R2) (ta tb tc td : TE) : TE := fun σ H Q => ta σ H fun x H1 => tb σ H1 fun y H2 => r x y H2 fun z H3 => ∃ k, z = .bl k ∧
  (if k = true then tc σ H3 fun u H4 => r' y u H4 fun z' H5 => ∃ k', z' = .bl k' ∧ (if k' = true then td σ H5 fun v H6 => r'' u v H6 Q else Q (.bl false) H5) else Q (.bl false) H3)
theorem pt_chain3 {op op' op'' : CmpOp} {r r' r'' : R2} (ho : OpR X (compareOp op) r) (ho' : OpR X (compareOp op') r') (ho'' : OpR X (compareOp op'') r'') (ha : PE X a ta) (hb : PE X b tb) (hc : PE X c tc) (hd : PE X d td)
    (hm : lastMarks [op, op', op''] [b, c, d] = false := by with_unfolding_all rfl) : PT X (.Compare a [op, op', op''] [b, c, d] pos) (tTest (tChain3 r r' r'' ta tb tc td)) := by
  refine ⟨fun pins s σ H Q I h => ?_⟩
  refine isTrue_chain (thn (ha.run pins s σ H _ I h) fun v s1 ⟨x, H1, I1, r1, q1⟩ => test_link (thn (hb.run pins s1 σ H1 _ I1 q1) fun u s2 ⟨y, H2, I2, r2, q2⟩ =>
    thn (ho pins s2 σ H2 x y v u _ I2 r1 r2 q2) fun d s3 ⟨z, H3, I3, r3, k, e, q3⟩ => ?_)) hm
  subst e
  cases r3
  refine wpAny_truthy_bool ?_
  cases k with
  | false =>
    obtain ⟨k', e', q'⟩ := q3
    cases e'
    exact ite_ff ⟨H3, I3, q'⟩
  | true =>
    refine ite_tt (test_link (thn (hc.run pins s3 σ H3 _ I3 q3) fun w' s4 ⟨z', H4, I4, r4, q4⟩ => thn (ho' pins s4 σ H4 y z' u w' _ I4 r2 r4 q4) fun d' s5 ⟨z2, H5, I5, r5, k2, e2, q5⟩ => ?_))
    subst e2
    cases r5
    refine wpAny_truthy_bool ?_
    cases k2 with
    | false =>
      obtain ⟨k', e', q'⟩ := q5
      cases e'
      exact ite_ff ⟨H5, I5, q'⟩
    | true =>
      refine ite_tt (test_last (thn (hd.run pins s5 σ H5 _ I5 q5) fun w2 s6 ⟨z3, H6, I6, r6, q6⟩ => thn (ho'' pins s6 σ H6 z' z3 w' w2 _ I6 r4 r6 q6) fun d2 s7 ⟨z4, H7, I7, r7, k4, e4, q7⟩ => ?_))
      subst e4
      cases r7
      exact wpAny_truthy_bool ⟨H7, I7, q7⟩
end
end RS
set_option Elab.async false
set_option maxRecDepth 100000
set_option maxHeartbeats 4000000
namespace GX
open PySem PySem.Spec PyProof.Rows L2
/-! ### xs.extend(t), t any tuple -/
theorem ext_tup (l b : Addr) (xs ys : Array Value) (n m : Nat) (dd : Option Addr) (sl : Array (Option Value)) (h0 : ¬(!xs.isEmpty && Builtin.List.listTooLong (xs.size + ys.size)) = true) (h1 : xs.size ≤ sizeLine) (h2 : xs.size + ys.size ≤ sizeLine + 1) :
    Meets (Builtin.«list.extend» ⟨[.ref l, .ref b], []⟩) (fun _ R s => s.heap.get? l = some ⟨.type "list", none, .seq xs n, #[]⟩ ∧ s.heap.get? b = some ⟨.type "tuple", dd, .seq ys m, sl⟩ ∧ R (.ok (.ret .none)) { s with heap := s.heap.update l (Obj.mapSeq fun x => x ++ ys), toks := s.toks }) := .of_wp fun prog w A R s h => by
    obtain ⟨hp, g, d, tk, os⟩ := s
    obtain ⟨hl, hb, h⟩ := h
    have g1 := PySem.AutoSeq1.idx_int
    have g2 := PySem.AutoSeq1.sub_tuple_tuple
    have g3 := PySem.AutoSeq1.sub_list_list
    have g4 := PySem.AutoSeq1.sub_tuple_list
    have g5 := PySem.AutoSeq1.sub_list_tuple
    have z : (xs ++ ys).size ≤ sizeLine + 1 := (Array.size_append (xs := xs) (ys := ys)).symm ▸ h2
    wp_walk using (wpAny_updateSeq hl rfl (hz := h1) (_hz' := z)), PySem.AutoSeq1.wpAny_loadPart' hl, PySem.AutoSeq1.wpAny_loadPart' hb
    exact ⟨_, rfl, h⟩
section
variable {X : Cx}
def rExtT (K : PySem.W.Frag) : V → List V → Hp → VK → Prop := fun x vs H Q => ∃ l b xs zs, x = .ref l ∧ vs = [.ref b] ∧ H l = some (.lst xs) ∧ SqT K H b zs ∧ xs.length + zs.length ≤ sizeLine ∧ Q .non (upd H l (.lst (xs ++ zs)))
theorem mt_extT : MtM X "list.extend" (rExtT X.K) := by
  intro pins s σ H x vs v us Q I rx rv h
  obtain ⟨l, b, xs, zs, rfl, rfl, hH, hB, hz, q⟩ := h
  cases rx
  obtain ⟨u, rfl, ru⟩ := rv.one
  cases ru
  obtain ⟨z, its, n, r, hl, e⟩ := I.lstM hH
  obtain ⟨its2, r2, ⟨⟨oc, dd, dt, sl⟩, e2, hc, m, hd⟩, hz2⟩ := I.tuple hB
  subst hc hd
  have hl2 := r2.length
  have hsz : its.toArray.size + its2.toArray.size ≤ sizeLine := by rw [List.size_toArray, List.size_toArray]; omega
  have hlong : ¬ (!its.toArray.isEmpty && Builtin.List.listTooLong (its.toArray.size + its2.toArray.size)) = true := fun w => by
    rw [notLongL hsz, Bool.and_false] at w
    cases w
  refine call_meets F.slot_list_extend ⟨_, e, rfl⟩ F.entry_list_extend (F.args_list_extend_2 _ _) (ext_tup l b its.toArray its2.toArray n m dd sl hlong (by rw [List.size_toArray]; omega) (by omega)) ⟨e, e2, ?_⟩
  refine ⟨.non, _, I.lset (its' := its ++ its2) hH e (by simp) (r.append r2) (by rw [List.length_append]; omega), rfl, q⟩
/-- len(d) of a dict -/
theorem len_dic : CallR X (.builtin "len") (fun vs H Q => ∃ p es, vs = [V.ref p] ∧ H p = some (.dK es) ∧ Q (.int es.length) H) := fun pins s σ H vs us Q I r ⟨p, es, e, hp, q⟩ => by
  subst e
  obtain ⟨u, rfl, ru⟩ := vals1 r
  cases ru
  exact d_len I (.inl hp) fun tk s1 I1 => ⟨.int es.length, _, I1, ⟨tk, rfl⟩, q⟩
end
end GX
set_option Elab.async false
set_option maxRecDepth 100000
set_option maxHeartbeats 4000000
set_option pp.maxSteps 400
namespace RS
open PySem PySem.Spec PyProof.Rows L2 GX
/-! ### tuples stay -/
def IsTup (u : HO) : Prop := (∃ xs, u = .tup xs) ∨ ∃ o xs, u = .frz o (.tup xs)
def KpT (H H' : Hp) : Prop := ∀ b u, H b = some u → IsTup u → H' b = some u
theorem KpT.of {H H' : Hp} (s : Same H H') : KpT H H' := fun b o e _ => s b o e
theorem KpT.trans {H H1 H2 : Hp} (a : KpT H H1) (b : KpT H1 H2) : KpT H H2 := fun c o e n => b c o (a c o e n) n
theorem KpT.put1 {H : Hp} {a : Addr} {u o : HO} (h : H a = some u) (n : ¬ IsTup u) : KpT H (upd H a o) := fun b v e t => by
  rw [upd_ne (fun z => by rw [z, h] at e; exact n (by rw [Option.some.inj e]; exact t))]
  exact e
theorem notup_lst {xs : List V} : ¬ IsTup (.lst xs) := fun z => by
  rcases z with ⟨_, z⟩ | ⟨_, _, z⟩ <;> cases z
theorem notup_ins {C dx : Addr} {fs : List (Str × V)} : ¬ IsTup (.ins C dx fs) := fun z => by
  rcases z with ⟨_, z⟩ | ⟨_, _, z⟩ <;> cases z
theorem notup_dk {kvs : List (Key × V)} : ¬ IsTup (.dK kvs) := fun z => by
  rcases z with ⟨_, z⟩ | ⟨_, _, z⟩ <;> cases z
theorem sqT_kt {K : PySem.W.Frag} {H H' : Hp} {a : Addr} {xs : List V} (k : KpT H H') (h : SqT K H a xs) : SqT K H' a xs := by
  rcases h with (h | ⟨o, h⟩) | h
  · exact .inl (.inl (k _ _ h (.inl ⟨_, rfl⟩)))
  · exact .inl (.inr ⟨o, k _ _ h (.inr ⟨_, _, rfl⟩)⟩)
  · exact .inr h
mutual
theorem dp_kt {K : PySem.W.Frag} {H H' : Hp} (k : KpT H H') : ∀ (d : PyData) {v : V}, noL d = true → Dp K H v d → Dp K H' v d
  | .none, _, _, .non => .non
  | .bool b, _, _, .bl _ => .bl b
  | .int i, _, _, .int _ => .int i
  | .str x, _, _, .str _ => .str x
  | .list ds, _, h, _ => by cases h
  | .tuple ds, _, h, .tup q hs => .tup (sqT_kt k q) (dpAll_kt k ds h hs)
  | .dict _, _, h, _ => by cases h
theorem dpAll_kt {K : PySem.W.Frag} {H H' : Hp} (k : KpT H H') : ∀ (ds : List PyData) {vs : List V}, noLs ds = true → DpAll K H vs ds → DpAll K H' vs ds
  | [], _, _, .nil => .nil
  | d :: ds, _, h, .cons q hs => by
    unfold noLs at h
    rw [Bool.and_eq_true] at h
    exact .cons (dp_kt k d h.1 q) (dpAll_kt k ds h.2 hs)
end
/-! ### all but some addresses stays -/
def FrF (F : List Addr) (H H' : Hp) : Prop := ∀ b u, H b = some u → b ∉ F → H' b = some u
theorem FrF.of {F : List Addr} {H H' : Hp} (s : Same H H') : FrF F H H' := fun b u e _ => s b u e
theorem FrF.trans {F F' : List Addr} {H H1 H2 : Hp} (a : FrF F H H1) (b : FrF F' H1 H2) (n : ∀ c ∈ F', c ∈ F ∨ H c = none) : FrF F H H2 := fun c u e h => b c u (a c u e h) fun z => by
  rcases n c z with q | q
  · exact h q
  · rw [q] at e; cases e
theorem FrF.put1 {F : List Addr} {H : Hp} {a : Addr} {o : HO} (h : a ∈ F) : FrF F H (upd H a o) := fun b u e n => (upd_ne fun z => n (by rw [z]; exact h)).trans e
theorem FrF.new {F : List Addr} {H : Hp} {a : Addr} {o : HO} (h : H a = none) : FrF F H (upd H a o) := .of (sameNew (Same.refl H) h)
theorem FrF.t {F : List Addr} {H H1 H2 : Hp} (a : FrF F H H1) (b : FrF F H1 H2) : FrF F H H2 := a.trans b fun _ h => .inl h
theorem FrF.free {F : List Addr} {H H' : Hp} (f : FrF F H H') {b : Addr} (h : H' b = none) (n : b ∉ F) : H b = none := by
  cases e : H b with
  | none => rfl
  | some u => rw [f b u e n] at h; cases h
/-- where there is something, and no tuple -/
def NoTu (H : Hp) (b : Addr) : Prop := ∃ u, H b = some u ∧ ¬ IsTup u
theorem FrF.kt {F : List Addr} {H H' : Hp} (f : FrF F H H') (n : ∀ b ∈ F, NoTu H b) : KpT H H' := fun b u e t => f b u e fun z => by
  obtain ⟨v, hv, nv⟩ := n b z
  rw [e] at hv
  exact nv (by rw [← Option.some.inj hv]; exact t)
/-! ### what a disk is -/
structure Dk where
  set : List V
  pen : List (Nat × V)
  left : Option Nat
  picks : List Bool
  fallen : Bool
def ovl (l : List V) (p : List (Nat × V)) : List V := p.foldl (fun l q => l.set q.1 q.2) l
theorem ovl_snoc {l : List V} {p : List (Nat × V)} {q : Nat × V} : ovl l (p ++ [q]) = (ovl l p).set q.1 q.2 := by
  unfold ovl
  rw [List.foldl_append]
  rfl
theorem ovl_len : ∀ {p : List (Nat × V)} {l : List V}, (ovl l p).length = l.length
  | [], _ => rfl
  | q :: p, l => by
    show (ovl (l.set q.1 q.2) p).length = _
    rw [ovl_len, List.length_set]
def fallL : List (Nat × V) → List Bool → List V → List V
  | p :: ps, b :: bs, l => fallL ps bs (if b = true then l.set p.1 p.2 else l)
  | _, _, l => l
theorem fallL_snoc : ∀ {ps : List (Nat × V)} {bs : List Bool} {l : List V} {p : Nat × V}, fallL (ps ++ [p]) bs l = if bs.getD ps.length false = true then (fallL ps bs l).set p.1 p.2 else fallL ps bs l
  | [], [], l, p => rfl
  | [], b :: bs, l, p => by
    show fallL [] bs (if b = true then l.set p.1 p.2 else l) = if b = true then l.set p.1 p.2 else l
    cases bs <;> rfl
  | q :: ps, [], l, p => by
    show l = if false = true then _ else l
    rfl
  | q :: ps, b :: bs, l, p => by
    show fallL (ps ++ [p]) bs _ = _
    rw [fallL_snoc]
    rfl
theorem fallL_long : ∀ {ps : List (Nat × V)} {bs : List Bool} {l : List V}, fallL ps bs l = fallL (ps.take bs.length) bs l
  | [], [], _ => rfl
  | [], _ :: _, _ => rfl
  | _ :: _, [], _ => rfl
  | p :: ps, b :: bs, l => by
    show fallL ps bs _ = fallL (ps.take bs.length) bs _
    exact fallL_long
theorem fallL_len : ∀ {ps : List (Nat × V)} {bs : List Bool} {l : List V}, (fallL ps bs l).length = l.length
  | [], [], _ => rfl
  | [], _ :: _, _ => rfl
  | _ :: _, [], _ => rfl
  | p :: ps, b :: bs, l => by
    show (fallL ps bs _).length = _
    rw [fallL_len]
    split
    · rw [List.length_set]
    · rfl
namespace Dk
def new : Dk := ⟨List.replicate 600 .non, [], none, [], false⟩
def fall (S : Dk) (picks : List Bool) : Dk := { S with set := fallL S.pen picks S.set, pen := [], fallen := true }
/-- whether a deed may be done, and what is behind it -/
def count (S : Dk) : Bool × Dk := if S.fallen = true then (false, S) else match S.left with
  | none => (true, S)
  | some 0 => (false, S.fall S.picks)
  | some (n + 1) => (true, { S with left := some n })
def put (S : Dk) (b : Nat) (v : V) : Dk := { S with pen := S.pen ++ [(b, v)] }
def settle (S : Dk) : Dk := { S with set := ovl S.set S.pen, pen := [] }
def arm (S : Dk) (n : Nat) (picks : List Bool) : Dk := if S.fallen = true then S else { S with left := some n, picks := picks }
def again (S : Dk) : Dk := { S with pen := [], left := none, picks := [], fallen := false }
end Dk
/-- what holds of what a disk is -/
structure Wf (n : Nat) (S : Dk) : Prop where
  len : S.set.length = 600
  pen : ∀ p ∈ S.pen, p.1 < 600
  many : S.pen.length ≤ n
  fal : S.fallen = true → S.pen = []
  pk : S.picks.length ≤ 9
theorem Wf.new : Wf 0 .new := ⟨by simp [Dk.new], (fun p h => nomatch h), Nat.le_refl _, fun _ => rfl, Nat.zero_le _⟩
theorem Wf.mono {n m : Nat} {S : Dk} (w : Wf n S) (h : n ≤ m) : Wf m S := ⟨w.len, w.pen, Nat.le_trans w.many h, w.fal, w.pk⟩
theorem Wf.fall {n : Nat} {S : Dk} (w : Wf n S) (p : List Bool) : Wf n (S.fall p) := ⟨fallL_len.trans w.len, (fun p h => nomatch h), Nat.zero_le _, fun _ => rfl, w.pk⟩
theorem Wf.count {n : Nat} {S : Dk} (w : Wf n S) : Wf n S.count.2 := by
  unfold Dk.count
  split
  · exact w
  · split
    · exact w
    · exact w.fall _
    · exact ⟨w.len, w.pen, w.many, w.fal, w.pk⟩
theorem Wf.put {n b : Nat} {S : Dk} {v : V} (w : Wf n S) (hb : b < 600) (f : S.fallen = false) : Wf (n + 1) (S.put b v) := by
  refine ⟨w.len, fun p h => ?_, ?_, fun z => ?_, w.pk⟩
  · rcases List.mem_append.mp h with h | h
    · exact w.pen p h
    · rw [List.mem_singleton.mp h]; exact hb
  · have := w.many
    show (S.pen ++ [(b, v)]).length ≤ _
    rw [List.length_append, List.length_singleton]
    omega
  · have z' : S.fallen = true := z
    rw [f] at z'
    cases z'
theorem Wf.settle {n : Nat} {S : Dk} (w : Wf n S) : Wf n S.settle := ⟨ovl_len.trans w.len, (fun p h => nomatch h), Nat.zero_le _, fun _ => rfl, w.pk⟩
theorem Wf.arm {n m : Nat} {S : Dk} {p : List Bool} (w : Wf n S) (h : p.length ≤ 9) : Wf n (S.arm m p) := by
  unfold Dk.arm
  split
  · exact w
  · exact ⟨w.len, w.pen, w.many, w.fal, h⟩
theorem Wf.again {n : Nat} {S : Dk} (w : Wf n S) : Wf n S.again := ⟨w.len, (fun p h => nomatch h), Nat.zero_le _, fun _ => rfl, Nat.zero_le _⟩
theorem count_alive {S : Dk} (h : S.count.1 = true) : S.fallen = false ∧ S.count.2.fallen = false := by
  unfold Dk.count at *
  by_cases f : S.fallen = true
  · rw [if_pos f] at h; cases h
  · rw [if_neg f] at h ⊢
    have f' : S.fallen = false := by simpa using f
    split at h
    · exact ⟨f', f'⟩
    · cases h
    · exact ⟨f', f'⟩
theorem count_dead {S : Dk} (h : S.count.1 = false) : S.count.2.fallen = true := by
  unfold Dk.count at *
  by_cases f : S.fallen = true
  · rw [if_pos f]; exact f
  · rw [if_neg f] at h ⊢
    split at h
    · cases h
    · rfl
    · cases h
/-! ### a disk as it lies there -/
def fldsD (c n u s l p : V) : List (Str × V) := [("certain", c), ("newest", n), ("unsettled", u), ("has_stopped", s), ("deeds_left", l), ("picks", p)]
theorem nd10 : ¬ (("newest" : Str) = "certain") := by decide +kernel
theorem nd20 : ¬ (("unsettled" : Str) = "certain") := by decide +kernel
theorem nd21 : ¬ (("unsettled" : Str) = "newest") := by decide +kernel
theorem nd30 : ¬ (("has_stopped" : Str) = "certain") := by decide +kernel
theorem nd31 : ¬ (("has_stopped" : Str) = "newest") := by decide +kernel
theorem nd32 : ¬ (("has_stopped" : Str) = "unsettled") := by decide +kernel
theorem nd40 : ¬ (("deeds_left" : Str) = "certain") := by decide +kernel
theorem nd41 : ¬ (("deeds_left" : Str) = "newest") := by decide +kernel
theorem nd42 : ¬ (("deeds_left" : Str) = "unsettled") := by decide +kernel
theorem nd43 : ¬ (("deeds_left" : Str) = "has_stopped") := by decide +kernel
theorem nd50 : ¬ (("picks" : Str) = "certain") := by decide +kernel
theorem nd51 : ¬ (("picks" : Str) = "newest") := by decide +kernel
theorem nd52 : ¬ (("picks" : Str) = "unsettled") := by decide +kernel
theorem nd53 : ¬ (("picks" : Str) = "has_stopped") := by decide +kernel
theorem nd54 : ¬ (("picks" : Str) = "deeds_left") := by decide +kernel
section
variable {c n u s l p z : V}
theorem fd_c : (fldsD c n u s l p).lookup ("certain" : Str) = some c := lk_eq
theorem fp_c : putF "certain" z (fldsD c n u s l p) = fldsD z n u s l p := by
  unfold fldsD
  rw [putF_eq]
theorem fd_n : (fldsD c n u s l p).lookup ("newest" : Str) = some n := (lk_ne nd10).trans lk_eq
theorem fp_n : putF "newest" z (fldsD c n u s l p) = fldsD c z u s l p := by
  unfold fldsD
  rw [putF_ne (Ne.symm nd10), putF_eq]
theorem fd_u : (fldsD c n u s l p).lookup ("unsettled" : Str) = some u := (lk_ne nd20).trans ((lk_ne nd21).trans lk_eq)
theorem fp_u : putF "unsettled" z (fldsD c n u s l p) = fldsD c n z s l p := by
  unfold fldsD
  rw [putF_ne (Ne.symm nd20), putF_ne (Ne.symm nd21), putF_eq]
theorem fd_s : (fldsD c n u s l p).lookup ("has_stopped" : Str) = some s := (lk_ne nd30).trans ((lk_ne nd31).trans ((lk_ne nd32).trans lk_eq))
theorem fp_s : putF "has_stopped" z (fldsD c n u s l p) = fldsD c n u z l p := by
  unfold fldsD
  rw [putF_ne (Ne.symm nd30), putF_ne (Ne.symm nd31), putF_ne (Ne.symm nd32), putF_eq]
theorem fd_l : (fldsD c n u s l p).lookup ("deeds_left" : Str) = some l := (lk_ne nd40).trans ((lk_ne nd41).trans ((lk_ne nd42).trans ((lk_ne nd43).trans lk_eq)))
theorem fp_l : putF "deeds_left" z (fldsD c n u s l p) = fldsD c n u s z p := by
  unfold fldsD
  rw [putF_ne (Ne.symm nd40), putF_ne (Ne.symm nd41), putF_ne (Ne.symm nd42), putF_ne (Ne.symm nd43), putF_eq]
theorem fd_p : (fldsD c n u s l p).lookup ("picks" : Str) = some p := (lk_ne nd50).trans ((lk_ne nd51).trans ((lk_ne nd52).trans ((lk_ne nd53).trans ((lk_ne nd54).trans lk_eq))))
theorem fp_p : putF "picks" z (fldsD c n u s l p) = fldsD c n u s l z := by
  unfold fldsD
  rw [putF_ne (Ne.symm nd50), putF_ne (Ne.symm nd51), putF_ne (Ne.symm nd52), putF_ne (Ne.symm nd53), putF_ne (Ne.symm nd54), putF_eq]
theorem fd_no {f : Str} (h0 : ¬ f = "certain") (h1 : ¬ f = "newest") (h2 : ¬ f = "unsettled") (h3 : ¬ f = "has_stopped") (h4 : ¬ f = "deeds_left") (h5 : ¬ f = "picks") : (fldsD c n u s l p).lookup f = none := (lk_ne h0).trans ((lk_ne h1).trans ((lk_ne h2).trans ((lk_ne h3).trans ((lk_ne h4).trans ((lk_ne h5).trans (rfl))))))
end
structure TxD (K : PySem.W.Frag) (C : Addr) : Prop where
  cl : Cls K C
  nc : NoAttr K C "certain"
  nn : NoAttr K C "newest"
  nu : NoAttr K C "unsettled"
  ns : NoAttr K C "has_stopped"
  nl : NoAttr K C "deeds_left"
  np : NoAttr K C "picks"
/-- the writes that are not settled -/
structure Pens (H : Hp) (ts : List Addr) (pen : List (Nat × V)) : Prop where
  len : ts.length = pen.length
  at_ : ∀ (i : Nat) (t : Addr) (p : Nat × V), ts[i]? = some t → pen[i]? = some p → H t = some (.tup [.int (p.1 : Nat), p.2])
theorem Pens.nil {H : Hp} : Pens H [] [] := ⟨rfl, fun i t p h => by simp at h⟩
theorem Pens.kt {H H' : Hp} {ts : List Addr} {pen : List (Nat × V)} (h : Pens H ts pen) (k : KpT H H') : Pens H' ts pen := ⟨h.len, fun i t p h1 h2 => k _ _ (h.at_ i t p h1 h2) (.inl ⟨_, rfl⟩)⟩
theorem Pens.snoc {H : Hp} {ts : List Addr} {pen : List (Nat × V)} {t : Addr} {p : Nat × V} (h : Pens H ts pen) (ht : H t = some (.tup [.int (p.1 : Nat), p.2])) : Pens H (ts ++ [t]) (pen ++ [p]) := by
  refine ⟨by rw [List.length_append, List.length_append, h.len]; rfl, fun i u q h1 h2 => ?_⟩
  by_cases hi : i < ts.length
  · rw [List.getElem?_append_left hi] at h1
    rw [List.getElem?_append_left (by rw [← h.len]; exact hi)] at h2
    exact h.at_ i u q h1 h2
  · rw [List.getElem?_append_right (by omega)] at h1
    rw [List.getElem?_append_right (by rw [← h.len]; omega), ← h.len] at h2
    cases hz : i - ts.length with
    | zero =>
      rw [hz] at h1 h2
      cases h1
      cases h2
      exact ht
    | succ n => rw [hz] at h1; simp at h1
def leftV (S : Dk) : V := if S.fallen = true then .non else match S.left with
  | none => .non
  | some n => .int (n : Nat)
/-- a disk, and where its parts lie -/
structure DkIn (C : Addr) (H : Hp) (x dx Ac An Au Ap : Addr) (ts : List Addr) (dp : List Bool) (S : Dk) : Prop where
  x : H x = some (.ins C dx (fldsD (.ref Ac) (.ref An) (.ref Au) (.bl S.fallen) (leftV S) (.ref Ap)))
  c : H Ac = some (.lst S.set)
  n : H An = some (.lst (ovl S.set S.pen))
  u : H Au = some (.lst (ts.map V.ref))
  pe : Pens H ts S.pen
  p : H Ap = some (.lst (dp.map V.bl))
  nd : [Ac, An, Au, Ap].Nodup
  pk : S.fallen = false → S.left ≠ none → dp = S.picks
def DkAt (C : Addr) (H : Hp) (x : Addr) (F : List Addr) (S : Dk) : Prop := ∃ dx Ac An Au Ap ts dp, F = [x, Ac, An, Au, Ap] ∧ DkIn C H x dx Ac An Au Ap ts dp S
theorem DkIn.fr {C : Addr} {H H' : Hp} {x dx Ac An Au Ap : Addr} {ts : List Addr} {dp : List Bool} {S : Dk} {F : List Addr} (d : DkIn C H x dx Ac An Au Ap ts dp S) (f : FrF F H H') (k : KpT H H') (n : ∀ b ∈ [x, Ac, An, Au, Ap], b ∉ F) : DkIn C H' x dx Ac An Au Ap ts dp S :=
  ⟨f _ _ d.x (n _ (by simp)), f _ _ d.c (n _ (by simp)), f _ _ d.n (n _ (by simp)), f _ _ d.u (n _ (by simp)), d.pe.kt k, f _ _ d.p (n _ (by simp)), d.nd, d.pk⟩
theorem DkIn.same {C : Addr} {H H' : Hp} {x dx Ac An Au Ap : Addr} {ts : List Addr} {dp : List Bool} {S : Dk} (d : DkIn C H x dx Ac An Au Ap ts dp S) (s : Same H H') : DkIn C H' x dx Ac An Au Ap ts dp S := d.fr (F := []) (.of s) (.of s) (fun _ _ z => nomatch z)
theorem DkIn.notu {C : Addr} {H : Hp} {x dx Ac An Au Ap : Addr} {ts : List Addr} {dp : List Bool} {S : Dk} (d : DkIn C H x dx Ac An Au Ap ts dp S) : ∀ b ∈ [x, Ac, An, Au, Ap], NoTu H b := fun b h => by
  simp only [List.mem_cons, List.not_mem_nil, or_false] at h
  rcases h with rfl | rfl | rfl | rfl | rfl
  · exact ⟨_, d.x, notup_ins⟩
  · exact ⟨_, d.c, notup_lst⟩
  · exact ⟨_, d.n, notup_lst⟩
  · exact ⟨_, d.u, notup_lst⟩
  · exact ⟨_, d.p, notup_lst⟩
theorem DkAt.notu {C : Addr} {H : Hp} {x : Addr} {F : List Addr} {S : Dk} (d : DkAt C H x F S) : ∀ b ∈ F, NoTu H b := by
  obtain ⟨dx, Ac, An, Au, Ap, ts, dp, rfl, d⟩ := d
  exact d.notu
theorem DkAt.fr {C : Addr} {H H' : Hp} {x : Addr} {F G : List Addr} {S : Dk} (d : DkAt C H x F S) (f : FrF G H H') (k : KpT H H') (n : ∀ b ∈ F, b ∉ G) : DkAt C H' x F S := by
  obtain ⟨dx, Ac, An, Au, Ap, ts, dp, rfl, d⟩ := d
  exact ⟨dx, Ac, An, Au, Ap, ts, dp, rfl, d.fr f k n⟩
theorem DkAt.same {C : Addr} {H H' : Hp} {x : Addr} {F : List Addr} {S : Dk} (d : DkAt C H x F S) (s : Same H H') : DkAt C H' x F S := d.fr (G := []) (.of s) (.of s) (fun _ _ z => nomatch z)
/-- new parts may be new -/
def News (H : Hp) (F F' : List Addr) : Prop := ∀ b ∈ F', b ∈ F ∨ H b = none
end RS
set_option Elab.async false
set_option maxRecDepth 100000
set_option maxHeartbeats 4000000
namespace RS
open PySem PySem.Spec PyProof.Rows L2 GX

/-! ### kinds, values, rows -/
/-- the name of a kind: true a word's, false a number's -/
def kindS (b : Bool) : Str := if b then "word" else "number"
def kindsD (ks : List Bool) : PyData := .tuple (ks.map fun b => .str (kindS b))
theorem kindS_word (b : Bool) : decide (V.str (kindS b) = V.str "word") = b := by
  cases b
  · decide +kernel
  · decide +kernel
theorem isNum_int {K : PySem.W.Frag} {H : Hp} {v : V} {d : PyData} (h : Dp K H v d) (e : isNum d = true) : ∃ n, d = .int n ∧ v = .int n := by
  cases h <;> first | exact ⟨_, rfl, rfl⟩ | (simp [isNum, isI, isT, tyN] at e)

end RS
set_option Elab.async false
set_option maxRecDepth 100000
set_option maxHeartbeats 4000000
set_option pp.maxSteps 400
namespace RS
open PySem PySem.Spec PyProof.Rows L2 GX
theorem dpAll_snoc2 {K : PySem.W.Frag} {H : Hp} : ∀ {xs : List V} {y : V} {ds : List PyData}, DpAll K H (xs ++ [y]) ds → ∃ ds0 d, ds = ds0 ++ [d] ∧ DpAll K H xs ds0 ∧ Dp K H y d
  | [], _, _, .cons h .nil => ⟨[], _, rfl, .nil, h⟩
  | _ :: xs, _, _, .cons h t => by
    obtain ⟨ds0, d, rfl, h1, h2⟩ := dpAll_snoc2 (xs := xs) t
    exact ⟨_ :: ds0, d, rfl, .cons h h1, h2⟩
/-! ### how heavy something is -/
mutual
def wt : PyData → Nat
  | .tuple ds => wts ds
  | _ => 1
def wts : List PyData → Nat
  | [] => 0
  | d :: ds => wt d + wts ds
end
mutual
def nodes : PyData → Nat
  | .tuple ds => 1 + nodess ds
  | _ => 1
def nodess : List PyData → Nat
  | [] => 0
  | d :: ds => nodes d + nodess ds
end
theorem wts_app : ∀ {a b : List PyData}, wts (a ++ b) = wts a + wts b
  | [], b => by simp [wts]
  | d :: a, b => by
    show wt d + wts (a ++ b) = wt d + wts a + wts b
    rw [wts_app]; omega
theorem nodess_app : ∀ {a b : List PyData}, nodess (a ++ b) = nodess a + nodess b
  | [], b => by simp [nodess]
  | d :: a, b => by
    show nodes d + nodess (a ++ b) = nodes d + nodess a + nodess b
    rw [nodess_app]; omega
theorem nodes_pos : ∀ d : PyData, 1 ≤ nodes d
  | .tuple ds => by simp [nodes]
  | .none => Nat.le_refl _
  | .bool _ => Nat.le_refl _
  | .int _ => Nat.le_refl _
  | .str _ => Nat.le_refl _
  | .list _ => Nat.le_refl _
  | .dict _ => Nat.le_refl _
theorem nodess_len : ∀ ds : List PyData, ds.length ≤ nodess ds
  | [] => Nat.le_refl _
  | d :: ds => by
    have := nodess_len ds
    have := nodes_pos d
    show ds.length + 1 ≤ nodes d + nodess ds
    omega
theorem noLs_app : ∀ {a b : List PyData}, noLs (a ++ b) = true ↔ noLs a = true ∧ noLs b = true
  | [], b => by simp [noLs]
  | d :: a, b => by
    show noLs (d :: (a ++ b)) = true ↔ _
    simp only [noLs, Bool.and_eq_true, noLs_app, and_assoc]
/-! ### zip of two lists, as long as the shorter -/
theorem for_zipM {K : PySem.W.Frag} {a b : Addr} {xs ys : List V} {g : TG} {tb : TS} {D : Ends} {σ : L2.St} {H : Hp} (Pv : Nat → L2.St → Hp → Prop) (h0 : Pv 0 σ H) (hq : ∀ i σ H, Pv i σ H → SqL K H a xs ∧ SqL K H b ys)
    (hs : ∀ (i : Nat) (x y : V) (T : Addr) (σ : L2.St) (H : Hp), xs[i]? = some x → ys[i]? = some y → Pv i σ H → H T = none → g (.ref T) σ (upd H T (.tup [x, y])) fun σ2 H2 => tb { D with nx := Pv (i + 1), ct := Pv (i + 1), bk := D.nx } σ2 H2) (hd : ∀ σ H, Pv (min xs.length ys.length) σ H → D.nx σ H) :
    ∃ W : Nat → Nat → L2.St → Hp → Prop, (∃ m, W 0 m σ H) ∧ ∀ i m σ H, W i m σ H →
      ((Itz K a b).stop i H ∧ D.nx σ H) ∨ ((Itz K a b).go i H ∧ ∃ N : L2.St → Hp → Prop, (∀ σ' H', N σ' H' → ∃ m', m' < m ∧ W (i + 1) m' σ' H') ∧ ∀ v H', (Itz K a b).yld i H v H' → g v σ H' fun σ2 H2 => tb { D with nx := N, ct := N, bk := D.nx } σ2 H2) := by
  refine ⟨fun i m σ H => m = min xs.length ys.length - i ∧ i ≤ min xs.length ys.length ∧ Pv i σ H, ⟨_, rfl, Nat.zero_le _, h0⟩, ?_⟩
  rintro i m σ H ⟨rfl, hi, p⟩
  obtain ⟨qx, qy⟩ := hq i σ H p
  by_cases hlt : i < min xs.length ys.length
  · have hlt1 : i < xs.length := by omega
    have hlt2 : i < ys.length := by omega
    have hx : xs[i]? = some xs[i] := List.getElem?_eq_getElem hlt1
    have hy : ys[i]? = some ys[i] := List.getElem?_eq_getElem hlt2
    refine .inr ⟨⟨xs, ys, _, _, qx, qy, hx, hy⟩, Pv (i + 1), fun σ' H' p' => ⟨min xs.length ys.length - (i + 1), by omega, rfl, hlt, p'⟩, fun v H' y => ?_⟩
    obtain ⟨T, x', y', rfl, hT, rfl, f1, f2⟩ := y
    exact hs i x' y' T σ H (f1 xs qx) (f2 ys qy) p hT
  · have e : i = min xs.length ys.length := by omega
    refine .inl ⟨⟨xs, ys, qx, qy, by omega⟩, hd σ H (e ▸ p)⟩
section
variable {X : Cx}
/-- isinstance(x, (int, str)) of data -/
theorem call_isi2D : CallR X (.builtin "isinstance") (fun xs H Q => ∃ x d tp, xs = [x, .ref tp] ∧ H tp = some (.tup [.ty "int", .ty "str"]) ∧ Dp X.K H x d ∧ Q (.bl (isI "int" d || isI "str" d)) H) := by
  intro pins s σ H xs us Q I r ⟨x, d, tp, e, hT, hd, q⟩
  subst e
  refine call_isiT pins s σ H _ us Q I r ⟨x, tp, _, _, _, _, rfl, hT, .cons (.ty "int") (.cons (.ty "str") .nil), dp_ty hd, ?_, q⟩
  refine kitAny_cons (kit_isI (by simp) hd) (fun h => ?_) (fun h => by rw [h]; rfl)
  rw [h, Bool.false_or]
  exact kitAny_cons (kit_isI (by simp) hd) (fun h => by rw [h]; exact kitAny_nil) (fun h => h)
end
section
variable {P : Program} {w : World} {K : PySem.W.Frag} {mg : Str → Option Value} {base : Heap}
theorem scBlk : FnScope ["block"] ["block"] (defScope s_check_block) := ⟨rfl, rfl, rfl, by decide +kernel, rfl, by decide +kernel, by decide +kernel⟩
def spBlk (CB : Addr) : Sp := fun vs H Q E => ∃ (n : Int), vs = [.int n] ∧ (0 ≤ n ∧ n < 600 → Q .non H) ∧ (¬ (0 ≤ n ∧ n < 600) → E (.ref CB) none H)
theorem check_block_ok {c CB : Addr} {t6 : Tok} (D : DefAt K mg "check_block" s_check_block c) (hB : mg "MANY_BLOCKS" = some (.int 600 t6)) (X : PlE K mg "BadBlock" CB) (cN : Cal P w K mg base CX0 1 "is_number" ["value"] (spNum K)) : Cal P w K mg base (L2.CX P w) 2 "check_block" ["block"] (spBlk CB) := by
  have sc := scBlk
  refine def_ok D sc (fun vs H Q E h => ?_) (fun _ _ _ _ _ _ us hl => match us, hl with | [_], _ => rfl) (fun f A outer s H vs Q E hr h => ?_)
  · obtain ⟨n, rfl, _⟩ := h
    rfl
  · obtain ⟨n, rfl, k1, k2⟩ := h
    refine ⟨_, (pss_one (ps_if ((pw_or (pt_not (pt_val (pe_c cN hr (by decide) (by rfl) pass0 (pa_cons (pv 0) pa_nil)))) (pw_or1 (pt_not (pt_chain op_le op_lt pe_int (pv 0) (pe_glob (v := V.int 600) (by rfl) hB ⟨_, rfl⟩))))).pt) (pss_one (ps_raise rfl (takes_of rfl rfl rfl rfl) (L2.pmk_own PySem.F.excBase_ValueError X.x X.g X.k (raises_own X.b X.t) (by rfl)))) pss_nil)), ?_⟩
    refine ⟨_, rfl, _, _, rfl, .int n, _, rfl, ?_⟩
    have hn : isNum (.int n) = true := by simp [isNum, isI, isT, tyN]
    rw [hn]
    refine iteF ⟨_, rfl, _, _, rfl, rfl, _, rfl, ?_⟩
    by_cases h1 : 0 ≤ n
    · rw [decide_eq_true h1]
      refine iteT ⟨_, _, rfl, rfl, _, rfl, ?_⟩
      by_cases h2 : n < 600
      · rw [decide_eq_true h2]
        exact iteF (k1 ⟨h1, h2⟩)
      · rw [decide_eq_false h2]
        exact iteT (k2 fun z => h2 z.2)
    · rw [decide_eq_false h1]
      exact iteF ⟨_, rfl, iteT (k2 fun z => h1 z.1)⟩
theorem scWt : FnScope ["what", "left", "weight", "part"] ["what"] (defScope s_check_weight) := ⟨rfl, rfl, rfl, by decide +kernel, rfl, by decide +kernel, by decide +kernel⟩
def spWt (K : PySem.W.Frag) (CB : Addr) : Sp := fun vs H Q E => ∃ (v : V) (d : PyData), vs = [v] ∧ Dp K H v d ∧ noL d = true ∧ nodes d ≤ 900 ∧ ∀ H', Same H H' → (wt d ≤ 40 → Q .non H') ∧ (40 < wt d → E (.ref CB) none H')
theorem check_weight_ok {c CB : Addr} {t6 : Tok} (D : DefAt K mg "check_weight" s_check_weight c) (T : Txt K mg) (hB : mg "MOST_WEIGHT" = some (.int 40 t6)) (X : PlE K mg "BadBlock" CB) : Cal P w K mg base (L2.CX P w) 1 "check_weight" ["what"] (spWt K CB) := by
  have sc := scWt
  refine def_ok D sc (fun vs H Q E h => ?_) (fun _ _ _ _ _ _ us hl => match us, hl with | [_], _ => rfl) (fun f A outer s H vs Q E hr h => ?_)
  · obtain ⟨v, d, rfl, _⟩ := h
    rfl
  · obtain ⟨v, d, rfl, hd, nl, big, k⟩ := h
    have hu := hr.units
    refine ⟨_, (pss_cons (ps_par (i := 1) (j := 2) rfl sc.nd rfl rfl (by decide) rfl rfl (pa_cons (pe_lst (pa_cons (pv 0) pa_nil)) (pa_cons pe_int pa_nil)) (by rfl)) (pss_cons (ps_while (passes_of rfl) (pt_truth (pv 1) (by intro _; rfl)) (pss_cons (ps_set (i := 3) sc.nd rfl (Or.inl rfl) (pe_bm0 PySem.F.plainAttrs_list PySem.F.slot_list_pop PySem.F.type_list_pop mt_pop (pv 1))) (pss_one (ps_if (pt_val (pe_callB call_isiD (by rfl) T.isinstance (by decide +kernel) (pa_cons (pv 3) (pa_cons (pe_bltn (v := V.ty "tuple") (u := Value.type "tuple") (by rfl) T.tuple_ (by decide +kernel) rfl) pa_nil)))) (pss_one (ps_expr (pe_bm PySem.F.plainAttrs_list PySem.F.slot_list_extend PySem.F.type_list_extend mt_extT (pv 1) (pa_cons (pv 3) pa_nil)))) (pss_one (ps_if ((pw_or (pt_cmpR op_isN (pv 3) pe_non (nomark _)) (pw_or1 (pt_val (pe_callB call_isi2D (by rfl) T.isinstance (by decide +kernel) (pa_cons (pv 3) (pa_cons (pe_tup (pa_cons (pe_bltn (v := V.ty "int") (u := Value.type "int") (by rfl) T.int_ (by decide +kernel) rfl) (pa_cons (pe_bltn (v := V.ty "str") (u := Value.type "str") (by rfl) T.str_ (by decide +kernel) rfl) pa_nil))) pa_nil)))))).pt) (pss_one (ps_aug (i := 2) sc.nd rfl (Or.inl rfl) pe_int ip_add)) (pss_one (ps_raise rfl (takes_of rfl rfl rfl rfl) (L2.pmk_own PySem.F.excBase_ValueError X.x X.g X.k (raises_own X.b X.t) (by rfl)))))))))) (pss_one (ps_if (pt_cmpR op_gt (pv 2) (pe_glob (v := V.int 40) (by rfl) hB ⟨_, rfl⟩) (nomark _)) (pss_one (ps_raise rfl (takes_of rfl rfl rfl rfl) (L2.pmk_own PySem.F.excBase_ValueError X.x X.g X.k (raises_own X.b X.t) (by rfl)))) pss_nil)))), ?_⟩
    refine ⟨_, rfl, by show 1 ≤ sizeLine; decide, fun q hq => ⟨_, _, rfl, ?_⟩⟩
    refine ⟨fun m σ H' => ∃ (xs : List V) (ds : List PyData) (n : Nat) (v5 : Option V), σ = [some v, some (.ref q), some (.int (n : Nat)), v5] ∧ Same H H' ∧ H' q = some (.lst xs) ∧ DpAll K H xs ds ∧ noLs ds = true ∧ n + wts ds = wt d ∧ nodess ds ≤ 900 ∧ m = nodess ds, ⟨_, [v], [d], 0, none, rfl, sameNew (Same.refl H) hq, upd_same, .cons hd .nil, by simp [noLs, nl], by simp [wts], by simp [nodess, big], rfl⟩, ?_⟩
    rintro m σ H' ⟨xs, ds, n, v5, rfl, sm, hQ, hdd, nls, ew, bg, em⟩
    refine ⟨_, rfl, !xs.isEmpty, .inl ⟨xs, SqL.of hQ, rfl⟩, ?_⟩
    rcases xs.eq_nil_or_concat with rfl | ⟨xs0, y, rfl⟩
    · cases hdd
      refine iteF ?_
      have ew : n = wt d := by simpa [wts] using ew
      obtain ⟨k1, k2⟩ := k _ sm
      refine ⟨_, rfl, _, _, rfl, rfl, _, rfl, ?_⟩
      by_cases c : wt d ≤ 40
      · exact iteF' (decide_eq_false (by omega)) (k1 c)
      · exact iteT' (decide_eq_true (by omega)) (k2 (by omega))
    · rw [List.concat_eq_append] at hQ hdd ⊢
      obtain ⟨ds0, e, rfl, hd0, he⟩ := dpAll_snoc2 hdd
      obtain ⟨nl0, nle⟩ := noLs_app.mp nls
      have nle : noL e = true := by simpa [noLs] using nle
      rw [wts_app] at ew
      rw [nodess_app] at bg em
      have ew : n + (wts ds0 + wt e) = wt d := by simpa [wts] using ew
      have em : m = nodess ds0 + nodes e := by simpa [nodess] using em
      have bg : nodess ds0 + nodes e ≤ 900 := by simpa [nodess] using bg
      refine iteT' (by simp) ⟨_, fun _ _ h => h, ?_⟩
      have hQ1 : upd H' q (.lst xs0) q = some (.lst xs0) := upd_same
      have sm1 : ∀ u, Same H (upd H' q u) := fun u b o e => by
        rw [upd_ne (ne_of_none e hq)]
        exact sm b o e
      have he1 := dp_same (sm1 (.lst xs0)) _ he
      refine ⟨_, rfl, .inl ⟨rfl, _, SqL.of hQ⟩, q, _, y, rfl, rfl, hQ, by simp, ?_⟩
      rw [List.dropLast_concat]
      refine ⟨_, rfl, _, _, _, rfl, by simp, he1, _, rfl, ?_⟩
      have s1 := sm1 (.lst xs0)
      generalize upd H' q (.lst xs0) = H1 at hQ1 he1 s1 ⊢
      by_cases ct : isI "tuple" e = true
      · obtain ⟨es, rfl⟩ : ∃ es, e = .tuple es := by
          cases e <;> first | exact ⟨_, rfl⟩ | (simp [isI, isT, tyN] at ct)
        refine iteT' ct ?_
        cases he with
        | @tup a zs _ hS0 hI =>
          have hS := sqT_same s1 hS0
          have lz : zs.length = es.length := dpLen hI
          have lx := dpLen hd0
          have l1 := nodess_len ds0
          have l2 := nodess_len es
          have en : nodes (.tuple es) = 1 + nodess es := by simp [nodes]
          have ewt : wt (.tuple es) = wts es := by simp [wt]
          rw [en] at bg em
          rw [ewt] at ew
          refine ⟨_, rfl, .inl ⟨rfl, _, SqL.of hQ1⟩, _, rfl, q, a, xs0, zs, rfl, rfl, hQ1, hS, ?_, ?_⟩
          · exact Nat.le_of_lt (small1000 (by omega))
          · refine ⟨_, ?_, xs0 ++ zs, ds0 ++ es, n, _, rfl, fun b o e => ?_, upd_same, dpApp hd0 hI, noLs_app.mpr ⟨nl0, by simpa [noL] using nle⟩, by rw [wts_app]; omega, by rw [nodess_app]; omega, rfl⟩
            · rw [nodess_app]; omega
            · rw [upd_ne (ne_of_none e hq)]
              exact s1 _ _ e
      · refine iteF' (by simpa using ct) ?_
        have e1 : wt e = 1 := by cases e <;> first | rfl | (simp [isI, isT, tyN] at ct)
        have fin : ∀ H2, Same H1 H2 → (∀ b o, H1 b = some o → H2 b = some o) → ∃ m', m' < m ∧ ∃ (xs : List V) (ds : List PyData) (n' : Nat) (v5 : Option V), [some v, some (.ref q), some (.int ((n : Nat) + 1)), some y] = [some v, some (.ref q), some (.int (n' : Nat)), v5] ∧ Same H H2 ∧ H2 q = some (.lst xs) ∧ DpAll K H xs ds ∧ noLs ds = true ∧ n' + wts ds = wt d ∧ nodess ds ≤ 900 ∧ m' = nodess ds := fun H2 s2 _ => by
          have := nodes_pos e
          exact ⟨_, by omega, xs0, ds0, n + 1, _, rfl, s1.trans s2, s2 _ _ hQ1, hd0, nl0, by omega, by omega, rfl⟩
        refine ⟨_, rfl, rfl, _, rfl, ?_⟩
        by_cases cn : y = .non
        · refine iteT' (decide_eq_true cn) ?_
          exact ⟨_, rfl, _, _, rfl, rfl, fin _ (Same.refl _) fun _ _ z => z⟩
        · refine iteF' (decide_eq_false cn) ?_
          refine ⟨_, rfl, by show 2 ≤ sizeLine; decide, fun t ht => ?_⟩
          have s2 := sameNew (o := .tup [.ty "int", .ty "str"]) (Same.refl H1) ht
          refine ⟨y, e, t, rfl, upd_same, dp_same s2 _ he1, _, rfl, ?_⟩
          refine iteT' ?_ ⟨_, rfl, _, _, rfl, rfl, fin _ s2 s2⟩
          cases he1 with
          | non => exact absurd rfl cn
          | bl b => simp [isI, isT, tyN]
          | int i => simp [isI, isT, tyN]
          | str z => simp [isI, isT, tyN]
          | lst _ _ => cases nle
          | tup _ _ => exact absurd rfl ct
end
end RS
set_option Elab.async false
set_option maxRecDepth 100000
set_option maxHeartbeats 4000000
set_option pp.maxSteps 400
namespace RS
open PySem PySem.Spec PyProof.Rows L2 GX
/-- what a method comes to: the disk is the other one, all else stays -/
def After (C : Addr) (H : Hp) (x : Addr) (F : List Addr) (S : Dk) (R : Hp → Prop) : Prop := ∀ H' F', DkAt C H' x F' S → FrF F H H' → News H F F' → R H'
theorem News.refl {H : Hp} {F : List Addr} : News H F F := fun _ h => .inl h
theorem News.trans {H H1 : Hp} {F F1 F2 : List Addr} (a : News H F F1) (b : News H1 F1 F2) (f : FrF F H H1) : News H F F2 := fun c h => by
  rcases b c h with q | q
  · exact a c q
  · by_cases z : c ∈ F
    · exact .inl z
    · exact .inr (f.free q z)
theorem After.step {C : Addr} {H H1 : Hp} {x : Addr} {F F1 : List Addr} {S : Dk} {R : Hp → Prop} (k : After C H x F S R) (f : FrF F H H1) (n : News H F F1) : After C H1 x F1 S R := fun H' F' d f' n' => k H' F' d (f.trans f' n) (n.trans n' f)
/-- the same, other kind -/
theorem fall_pen {S : Dk} {bs : List Bool} (h : S.fallen = true) (h2 : S.pen = []) : S.fall bs = S := by
  obtain ⟨a, b, c, d, e⟩ := S
  cases h
  cases h2
  show Dk.mk (fallL [] bs a) [] c d true = _
  cases bs <;> rfl
theorem fallL_step {ps : List (Nat × V)} {bs : List Bool} {l : List V} {i : Nat} {p : Nat × V} {b : Bool} (h1 : ps[i]? = some p) (h2 : bs[i]? = some b) : fallL (ps.take (i + 1)) bs l = if b = true then (fallL (ps.take i) bs l).set p.1 p.2 else fallL (ps.take i) bs l := by
  have hi : i < ps.length := (List.getElem?_eq_some_iff.mp h1).1
  rw [List.take_add_one, h1]
  show fallL (ps.take i ++ [p]) bs l = _
  rw [fallL_snoc, List.length_take, Nat.min_eq_left (Nat.le_of_lt hi), List.getD_eq_getElem?_getD, h2]
  rfl
theorem ixN_natD {n j : Nat} (hj : j < n) : ixN n (j : Int) = some j := by
  unfold ixN
  rw [if_pos (by omega), if_pos (by omega)]
  simp
theorem fallL_min {ps : List (Nat × V)} {bs : List Bool} {l : List V} : fallL (ps.take (min ps.length bs.length)) bs l = fallL ps bs l := by
  rcases Nat.le_total ps.length bs.length with h | h
  · rw [Nat.min_eq_left h, List.take_length]
  · rw [Nat.min_eq_right h]; exact fallL_long.symm
section
variable {P : Program} {w : World} {K : PySem.W.Frag} {mg : Str → Option Value} {base : Heap}
theorem scDkC : FnScope ["self"] ["self"] (defScope s_Disk_check_runs) := ⟨rfl, rfl, rfl, by decide +kernel, rfl, by decide +kernel, by decide +kernel⟩
def spDkC (C CS : Addr) : Sp := fun vs H Q E => ∃ (x dx : Addr) (c n u l p : V) (b : Bool), vs = [.ref x] ∧ H x = some (.ins C dx (fldsD c n u (.bl b) l p)) ∧ (b = false → Q .non H) ∧ (b = true → E (.ref CS) none H)
theorem dkruns_ok {f C CS : Addr} {fd : FuncData} (X : TxD K C) (M : MethAt K C "check_runs" "Disk.check_runs" s_Disk_check_runs f fd) (XS : PlE K mg "Stopped" CS) : MetC P w K mg base (L2.CX P w) 1 C "check_runs" ["self"] (spDkC C CS) := by
  have sc := scDkC
  refine ⟨f, fd, X.cl, M.me, ?_, M.fn.binds (fun _ _ _ _ _ _ us hl => match us, hl with | [_], _ => rfl)⟩
  refine M.fn.okX sc (fun vs H Q E h => ?_) (fun cdv A outer s H vs Q E hr h => ?_)
  · obtain ⟨x, dx, c, n, u, l, p, b, rfl, _⟩ := h
    rfl
  · obtain ⟨x, dx, c, n, u, l, p, b, rfl, hx, k1, k2⟩ := h
    refine ⟨_, (pss_one (ps_if (pt_truth (pe_fld (pv 0) rfl) (by intro _; rfl)) (pss_one (ps_raise rfl (takes_of rfl rfl rfl rfl) (L2.pmk_own PySem.F.excBase_ValueError XS.x XS.g XS.k (raises_own XS.b XS.t) (by rfl)))) pss_nil)), ?_⟩
    refine ⟨_, rfl, x, C, dx, _, _, rfl, hx, X.cl, X.ns, fd_s, b, rfl, ?_⟩
    cases b with
    | true => exact iteT (k2 rfl)
    | false => exact iteF (k1 rfl)
theorem scDkG : FnScope ["self"] ["self"] (defScope s_Disk_let_go) := ⟨rfl, rfl, rfl, by decide +kernel, rfl, by decide +kernel, by decide +kernel⟩
def spDkG (K : PySem.W.Frag) (C : Addr) : Sp := fun vs H Q _ => ∃ (x dx Ac : Addr) (n u s l p : V) (cs : List V), vs = [.ref x] ∧ H x = some (.ins C dx (fldsD (.ref Ac) n u s l p)) ∧ H Ac = some (.lst cs) ∧
  ∀ (H' : Hp) (An Au : Addr), H An = none → H Au = none → An ≠ Au → H' x = some (.ins C dx (fldsD (.ref Ac) (.ref An) (.ref Au) s .non p)) → H' An = some (.lst cs) → H' Au = some (.lst []) → FrF [x] H H' → Q .non H'
theorem dkgo_ok {f C : Addr} {fd : FuncData} (X : TxD K C) (T : Txt K mg) (M : MethAt K C "let_go" "Disk.let_go" s_Disk_let_go f fd) : MetC P w K mg base CX0 1 C "let_go" ["self"] (spDkG K C) := by
  have sc := scDkG
  refine ⟨f, fd, X.cl, M.me, ?_, M.fn.binds (fun _ _ _ _ _ _ us hl => match us, hl with | [_], _ => rfl)⟩
  refine M.fn.ok sc (fun vs H Q E h => ?_) (fun cdv A outer s H vs Q E hr h => ?_)
  · obtain ⟨x, dx, Ac, n, u, s, l, p, cs, rfl, _⟩ := h
    rfl
  · obtain ⟨x, dx, Ac, n, u, s, l, p, cs, rfl, hx, hc, k⟩ := h
    refine ⟨_, (pss_cons (ps_fld (pv 0) (pe_callTy call_list_of (by rfl) T.list_ (by decide +kernel) (pa_cons (pe_fld (pv 0) rfl) pa_nil)) rfl) (pss_cons (ps_fld (pv 0) (pe_lst pa_nil) rfl) (pss_one (ps_fld (pv 0) pe_non rfl)))), ?_⟩
    refine ⟨_, rfl, x, C, dx, _, _, rfl, hx, X.cl, X.nc, fd_c, Ac, cs, rfl, .inl (SqL.of hc), fun An nAn => ?_⟩
    have nxAn : x ≠ An := fun z => by rw [← z, hx] at nAn; cases nAn
    refine ⟨_, rfl, x, C, dx, _, rfl, (upd_ne nxAn).trans hx, X.cl, X.nn, by show 6 < 1000; decide, ?_⟩
    rw [fp_n]
    have hx1 : upd (upd H An (.lst cs)) x (.ins C dx (fldsD (.ref Ac) (.ref An) u s l p)) x = some (.ins C dx (fldsD (.ref Ac) (.ref An) u s l p)) := upd_same
    have hn1 : upd (upd H An (.lst cs)) x (.ins C dx (fldsD (.ref Ac) (.ref An) u s l p)) An = some (.lst cs) := (upd_ne (Ne.symm nxAn)).trans upd_same
    have f1 : FrF [x] H (upd (upd H An (.lst cs)) x (.ins C dx (fldsD (.ref Ac) (.ref An) u s l p))) := (FrF.new nAn).t (.put1 (by simp))
    generalize upd (upd H An (.lst cs)) x (.ins C dx (fldsD (.ref Ac) (.ref An) u s l p)) = H1 at hx1 hn1 f1 ⊢
    refine ⟨Nat.zero_le _, fun Au nAu => ?_⟩
    have nxAu : x ≠ Au := fun z => by rw [← z, hx1] at nAu; cases nAu
    have nnu : An ≠ Au := fun z => by rw [← z, hn1] at nAu; cases nAu
    refine ⟨_, rfl, x, C, dx, _, rfl, (upd_ne nxAu).trans hx1, X.cl, X.nu, by show 6 < 1000; decide, ?_⟩
    rw [fp_u]
    refine ⟨_, rfl, x, C, dx, _, rfl, upd_same, X.cl, X.nl, by show 6 < 1000; decide, ?_⟩
    rw [fp_l]
    refine k _ An Au nAn (f1.free nAu (by simp [Ne.symm nxAu])) nnu upd_same ?_ ?_ ?_
    · rw [upd_ne (Ne.symm nxAn), upd_ne (Ne.symm nxAn), upd_ne nnu]; exact hn1
    · rw [upd_ne (Ne.symm nxAu), upd_ne (Ne.symm nxAu), upd_same]
    · exact f1.t ((FrF.new nAu).t ((FrF.put1 (by simp)).t (.put1 (by simp))))
theorem scDkS : FnScope ["self", "picks", "block", "what", "pick"] ["self", "picks"] (defScope s_Disk_stop) := ⟨rfl, rfl, rfl, by decide +kernel, rfl, by decide +kernel, by decide +kernel⟩
def spDkS (C : Addr) : Sp := fun vs H Q _ => ∃ (x dx Ac An Au Ap pA : Addr) (ts : List Addr) (dp bs : List Bool) (S : Dk) (n : Nat), vs = [.ref x, .ref pA] ∧ DkIn C H x dx Ac An Au Ap ts dp S ∧ Wf n S ∧ H pA = some (.lst (bs.map V.bl)) ∧ pA ≠ Ac ∧
  ∀ (H' : Hp) (An' Au' : Addr) (ts' : List Addr), (An' = An ∧ Au' = Au ∨ H An' = none ∧ H Au' = none) → DkIn C H' x dx Ac An' Au' Ap ts' dp (S.fall bs) → FrF [x, Ac] H H' → Q .non H'
theorem dkstop_ok {f C : Addr} {fd : FuncData} (X : TxD K C) (T : Txt K mg) (M : MethAt K C "stop" "Disk.stop" s_Disk_stop f fd) (cG : MetC P w K mg base CX0 1 C "let_go" ["self"] (spDkG K C)) : MetC P w K mg base CX0 2 C "stop" ["self", "picks"] (spDkS C) := by
  have sc := scDkS
  refine ⟨f, fd, X.cl, M.me, ?_, M.fn.binds (fun _ _ _ _ _ _ us hl => match us, hl with | [_, _], _ => rfl)⟩
  refine M.fn.ok sc (fun vs H Q E h => ?_) (fun cdv A outer s H vs Q E hr h => ?_)
  · obtain ⟨x, dx, Ac, An, Au, Ap, pA, ts, dp, bs, S, n, rfl, _⟩ := h
    rfl
  · obtain ⟨x, dx, Ac, An, Au, Ap, pA, ts, dp, bs, S, n, rfl, d, wf, hp, npc, k⟩ := h
    refine ⟨_, (pss_cons (ps_if (pt_truth (pe_fld (pv 0) rfl) (by intro _; rfl)) (pss_one ps_retN) pss_nil) (pss_cons (ps_for PassesOwn.never rfl (RZ.pi_zipA (by rfl) T.zip (pa_cons (pe_fld (pv 0) rfl) (pa_cons (pv 1) pa_nil))) (pg_tup (by rfl) (pgs_cons (pg_tup (by rfl) (pgs_cons (pg_name (i := 2) sc.nd rfl (Or.inl rfl)) (pgs_cons (pg_name (i := 3) sc.nd rfl (Or.inl rfl)) pgs_nil))) (pgs_cons (pg_name (i := 4) sc.nd rfl (Or.inl rfl)) pgs_nil))) (pss_one (ps_if (pt_truth (pv 4) (by intro _; rfl)) (pss_one (ps_asg (pv 3) (pg_sub (pe_fld (pv 0) rfl) (pv 2) set_list))) pss_nil))) (pss_cons (ps_fld (pv 0) pe_bl rfl) (pss_one (ps_expr (pe_m0 cG hr (by decide) pass0 (pv 0))))))), ?_⟩
    refine ⟨_, rfl, x, C, dx, _, _, rfl, d.x, X.cl, X.ns, fd_s, S.fallen, rfl, ?_⟩
    by_cases hf : S.fallen = true
    · rw [hf]
      refine iteT ?_
      refine k H An Au ts (.inl ⟨rfl, rfl⟩) ?_ fun _ _ e _ => e
      rw [fall_pen hf (wf.fal hf)]
      exact d
    have hf' : S.fallen = false := by simpa using hf
    rw [hf']
    refine iteF ?_
    have lpen : (ts.map V.ref).length = S.pen.length := by rw [List.length_map, d.pe.len]
    have nx : x ≠ Ac ∧ x ≠ An ∧ x ≠ Au ∧ x ≠ Ap ∧ x ≠ pA := by
      have hx := d.x
      refine ⟨fun z => ?_, fun z => ?_, fun z => ?_, fun z => ?_, fun z => ?_⟩
      · rw [z, d.c] at hx; cases hx
      · rw [z, d.n] at hx; cases hx
      · rw [z, d.u] at hx; cases hx
      · rw [z, d.p] at hx; cases hx
      · rw [z, hp] at hx; cases hx
    have nd := d.nd
    simp only [List.nodup_cons, List.mem_cons, List.not_mem_nil, or_false, not_or, not_false_eq_true, List.nodup_nil, and_true] at nd
    refine ⟨_, rfl, x, C, dx, _, _, rfl, d.x, X.cl, X.nu, fd_u, _, rfl, Au, pA, ts.map V.ref, bs.map V.bl, rfl, .inl ⟨SqL.of d.u, SqL.of hp, ?_⟩⟩
    refine for_zipM (xs := ts.map V.ref) (ys := bs.map V.bl) (fun i σ H' => ∃ v2 v3 v4 : Option V, σ = [some (.ref x), some (.ref pA), v2, v3, v4] ∧ FrF [Ac] H H' ∧ H' Ac = some (.lst (fallL (S.pen.take i) bs S.set)))
      ⟨none, none, none, rfl, fun _ _ e _ => e, by rw [d.c]; cases bs <;> rfl⟩ (fun i σ H' h => ?_) ?_ ?_
    · obtain ⟨_, _, _, _, fr, _⟩ := h
      exact ⟨SqL.of (fr _ _ d.u (by simp [Ne.symm nd.1.2.1])), SqL.of (fr _ _ hp (by simp [npc]))⟩
    · rintro i vx vb T σ H1 hvx hvb ⟨v2, v3, v4, rfl, fr, hc⟩ hT
      obtain ⟨t, ht, rfl⟩ : ∃ t, ts[i]? = some t ∧ vx = .ref t := by
        rw [List.getElem?_map] at hvx
        cases q : ts[i]? with
        | none => rw [q] at hvx; cases hvx
        | some t => rw [q] at hvx; exact ⟨t, rfl, (Option.some.inj hvx).symm⟩
      obtain ⟨b, hb, rfl⟩ : ∃ b, bs[i]? = some b ∧ vb = .bl b := by
        rw [List.getElem?_map] at hvb
        cases q : bs[i]? with
        | none => rw [q] at hvb; cases hvb
        | some t => rw [q] at hvb; exact ⟨t, rfl, (Option.some.inj hvb).symm⟩
      have hi : i < S.pen.length := by
        have := (List.getElem?_eq_some_iff.mp ht).1
        rw [d.pe.len] at this
        exact this
      obtain ⟨p, hp1⟩ : ∃ p, S.pen[i]? = some p := ⟨_, List.getElem?_eq_getElem hi⟩
      have htt := d.pe.at_ i t p ht hp1
      have nta : t ≠ Ac := fun z => by rw [z, d.c] at htt; cases htt
      have ht1 := fr _ _ htt (by simp [nta])
      have s2 := sameNew (o := .tup [.ref t, .bl b]) (Same.refl H1) hT
      have hT2 : upd H1 T (.tup [.ref t, .bl b]) T = some (.tup [.ref t, .bl b]) := upd_same
      generalize upd H1 T (.tup [.ref t, .bl b]) = H2 at s2 hT2 ⊢
      have hc2 := s2 _ _ hc
      have hp3 := wf.pen p (List.mem_of_getElem? hp1)
      refine ⟨T, _, rfl, SqT.of hT2, rfl, _, _, rfl, ⟨t, _, rfl, SqT.of (s2 _ _ ht1), rfl, _, _, rfl, _, _, rfl, rfl, _, _, rfl, rfl, _, rfl, b, rfl, ?_⟩⟩
      have st := fallL_step (l := S.set) hp1 hb
      cases b with
      | false =>
        refine iteF ⟨_, _, _, rfl, fr.t (.of s2), ?_⟩
        rw [st]
        exact hc2
      | true =>
        refine iteT ?_
        have hx2 := s2 _ _ (fr _ _ d.x (by simp [nx.1]))
        refine ⟨_, rfl, _, rfl, x, C, dx, _, _, rfl, hx2, X.cl, X.nc, fd_c, _, rfl, Ac, _, _, p.1, rfl, rfl, hc2, ?_, ?_⟩
        · rw [fallL_len, wf.len]
          exact ixN_natD hp3
        · refine ⟨_, _, _, rfl, fr.t ((FrF.of s2).t (.put1 (by simp))), ?_⟩
          rw [st, if_pos rfl]
          exact upd_same
    · rintro σ H1 ⟨v2, v3, v4, rfl, fr, hc⟩
      rw [lpen, List.length_map, fallL_min] at hc
      have hx1 := fr _ _ d.x (by simp [nx.1])
      refine ⟨_, rfl, x, C, dx, _, rfl, hx1, X.cl, X.ns, by show 6 < 1000; decide, ?_⟩
      rw [fp_s]
      have f2 : FrF [x, Ac] H1 (upd H1 x (.ins C dx (fldsD (.ref Ac) (.ref An) (.ref Au) (.bl true) (leftV S) (.ref Ap)))) := .put1 (by simp)
      have hx2 : upd H1 x (.ins C dx (fldsD (.ref Ac) (.ref An) (.ref Au) (.bl true) (leftV S) (.ref Ap))) x = some (.ins C dx (fldsD (.ref Ac) (.ref An) (.ref Au) (.bl true) (leftV S) (.ref Ap))) := upd_same
      have hc2 : upd H1 x (.ins C dx (fldsD (.ref Ac) (.ref An) (.ref Au) (.bl true) (leftV S) (.ref Ap))) Ac = some (.lst (fallL S.pen bs S.set)) := (upd_ne (Ne.symm nx.1)).trans hc
      have hp2 : upd H1 x (.ins C dx (fldsD (.ref Ac) (.ref An) (.ref Au) (.bl true) (leftV S) (.ref Ap))) Ap = some (.lst (dp.map V.bl)) := (upd_ne (Ne.symm nx.2.2.2.1)).trans (fr _ _ d.p (by simp [Ne.symm nd.1.2.2]))
      generalize upd H1 x (.ins C dx (fldsD (.ref Ac) (.ref An) (.ref Au) (.bl true) (leftV S) (.ref Ap))) = H2 at f2 hx2 hc2 hp2 ⊢
      have f02 : FrF [x, Ac] H H2 := (FrF.trans (F := [x, Ac]) (fun b u e n => fr b u e (fun z => n (by simp [List.mem_singleton.mp z]))) f2 fun _ h => .inl h)
      refine ⟨_, rfl, x, dx, _, rfl, hx2, fd_no (by decide +kernel) (by decide +kernel) (by decide +kernel) (by decide +kernel) (by decide +kernel) (by decide +kernel), ?_⟩
      refine ⟨x, dx, Ac, _, _, _, _, _, _, rfl, hx2, hc2, fun H3 An' Au' n1 n2 nnu hx3 hn3 hu3 f3 => ?_⟩
      have hx0 : ∀ c, H2 c = none → c ≠ x ∧ c ≠ Ac ∧ c ≠ Ap := fun c z => ⟨fun e => (by rw [e, hx2] at z; cases z), fun e => (by rw [e, hc2] at z; cases z), fun e => (by rw [e, hp2] at z; cases z)⟩
      have q1 := hx0 _ n1
      have q2 := hx0 _ n2
      refine k H3 An' Au' [] (.inr ⟨f02.free n1 (by simp [q1.1, q1.2.1]), f02.free n2 (by simp [q2.1, q2.2.1])⟩) ⟨hx3, f3 _ _ hc2 (by simp [Ne.symm nx.1]), hn3, hu3, .nil, f3 _ _ hp2 (by simp [Ne.symm nx.2.2.2.1]), ?_, fun z => nomatch z⟩ ?_
      · simp only [List.nodup_cons, List.mem_cons, List.not_mem_nil, or_false, not_or, not_false_eq_true, List.nodup_nil, and_true]
        exact ⟨⟨Ne.symm q1.2.1, Ne.symm q2.2.1, nd.1.2.2⟩, ⟨nnu, q1.2.2⟩, q2.2.2⟩
      · exact f02.trans f3 fun c h => .inl (by simp [List.mem_singleton.mp h])
end
end RS
set_option Elab.async false
set_option maxRecDepth 100000
set_option maxHeartbeats 4000000
set_option pp.maxSteps 400
namespace RS
open PySem PySem.Spec PyProof.Rows L2 GX
theorem nd4 {a b c d : Addr} : [a, b, c, d].Nodup ↔ (a ≠ b ∧ a ≠ c ∧ a ≠ d) ∧ (b ≠ c ∧ b ≠ d) ∧ c ≠ d := by
  simp only [List.nodup_cons, List.mem_cons, List.not_mem_nil, or_false, not_or, not_false_eq_true, List.nodup_nil, and_true]
theorem DkIn.nx {C : Addr} {H : Hp} {x dx Ac An Au Ap : Addr} {ts : List Addr} {dp : List Bool} {S : Dk} (d : DkIn C H x dx Ac An Au Ap ts dp S) : x ≠ Ac ∧ x ≠ An ∧ x ≠ Au ∧ x ≠ Ap := by
  have hx := d.x
  refine ⟨fun z => ?_, fun z => ?_, fun z => ?_, fun z => ?_⟩
  · rw [z, d.c] at hx; cases hx
  · rw [z, d.n] at hx; cases hx
  · rw [z, d.u] at hx; cases hx
  · rw [z, d.p] at hx; cases hx
theorem dk_no {c n u s l p : V} : (fldsD c n u s l p).lookup ("stop" : Str) = none ∧ (fldsD c n u s l p).lookup ("let_go" : Str) = none ∧ (fldsD c n u s l p).lookup ("do_deed" : Str) = none ∧ (fldsD c n u s l p).lookup ("check_runs" : Str) = none :=
  ⟨fd_no (by decide +kernel) (by decide +kernel) (by decide +kernel) (by decide +kernel) (by decide +kernel) (by decide +kernel), fd_no (by decide +kernel) (by decide +kernel) (by decide +kernel) (by decide +kernel) (by decide +kernel) (by decide +kernel), fd_no (by decide +kernel) (by decide +kernel) (by decide +kernel) (by decide +kernel) (by decide +kernel) (by decide +kernel), fd_no (by decide +kernel) (by decide +kernel) (by decide +kernel) (by decide +kernel) (by decide +kernel) (by decide +kernel)⟩
/-- what stop comes to, as After -/
theorem after_stop {C : Addr} {H H' : Hp} {x dx Ac An Au Ap An' Au' : Addr} {ts ts' : List Addr} {dp dp' : List Bool} {S S' : Dk} {R : Hp → Prop} (d : DkIn C H x dx Ac An Au Ap ts dp S) (k : After C H x [x, Ac, An, Au, Ap] S' R) (n : An' = An ∧ Au' = Au ∨ H An' = none ∧ H Au' = none) (d' : DkIn C H' x dx Ac An' Au' Ap ts' dp' S') (f : FrF [x, Ac] H H') : R H' := by
  refine k H' [x, Ac, An', Au', Ap] ⟨dx, Ac, An', Au', Ap, ts', dp', rfl, d'⟩ (fun b u e n' => f b u e fun z => n' (by simp only [List.mem_cons, List.not_mem_nil, or_false] at z ⊢; rcases z with z | z <;> simp [z])) fun c hc => ?_
  simp only [List.mem_cons, List.not_mem_nil, or_false] at hc
  rcases n with ⟨rfl, rfl⟩ | ⟨n1, n2⟩
  · exact .inl (by simpa using hc)
  · rcases hc with rfl | rfl | rfl | rfl | rfl
    · exact .inl (by simp)
    · exact .inl (by simp)
    · exact .inr n1
    · exact .inr n2
    · exact .inl (by simp)
section
variable {P : Program} {w : World} {K : PySem.W.Frag} {mg : Str → Option Value} {base : Heap}
theorem scDkD : FnScope ["self"] ["self"] (defScope s_Disk_do_deed) := ⟨rfl, rfl, rfl, by decide +kernel, rfl, by decide +kernel, by decide +kernel⟩
def spDkD (C CS : Addr) : Sp := fun vs H Q E => ∃ (x : Addr) (F : List Addr) (S : Dk) (n : Nat), vs = [.ref x] ∧ DkAt C H x F S ∧ Wf n S ∧ (S.count.1 = true → After C H x F S.count.2 fun H' => Q .non H') ∧ (S.count.1 = false → After C H x F S.count.2 fun H' => E (.ref CS) none H')
theorem dkdeed_ok {f C CS : Addr} {fd : FuncData} (X : TxD K C) (M : MethAt K C "do_deed" "Disk.do_deed" s_Disk_do_deed f fd) (cS : MetC P w K mg base CX0 2 C "stop" ["self", "picks"] (spDkS C)) (cR : MetC P w K mg base (L2.CX P w) 1 C "check_runs" ["self"] (spDkC C CS)) : MetC P w K mg base (L2.CX P w) 3 C "do_deed" ["self"] (spDkD C CS) := by
  have sc := scDkD
  refine ⟨f, fd, X.cl, M.me, ?_, M.fn.binds (fun _ _ _ _ _ _ us hl => match us, hl with | [_], _ => rfl)⟩
  refine M.fn.okX sc (fun vs H Q E h => ?_) (fun cdv A outer s H vs Q E hr h => ?_)
  · obtain ⟨x, F, S, n, rfl, _⟩ := h
    rfl
  · obtain ⟨x, F, S, n, rfl, ⟨dx, Ac, An, Au, Ap, ts, dp, rfl, d⟩, wf, k1, k2⟩ := h
    refine ⟨_, (pss_cons (ps_if (pt_cmpR op_eq (pe_fld (pv 0) rfl) pe_int (nomark _)) (pss_one (ps_expr (pe_m cS hr (by decide) pass0 (pv 0) (pa_cons (pe_fld (pv 0) rfl) pa_nil)))) pss_nil) (pss_cons (ps_expr (pe_m0 cR hr (by decide) (passes_call (takes_of rfl rfl rfl rfl) fun _ _ _ _ h => h) (pv 0))) (pss_one (ps_if (pt_cmpR op_notN (pe_fld (pv 0) rfl) pe_non (nomark _)) (pss_one (ps_fldaug (pv 0) pe_int in_sub)) pss_nil)))), ?_⟩
    have nd := nd4.mp d.nd
    have nx := d.nx
    refine ⟨_, rfl, x, C, dx, _, _, rfl, d.x, X.cl, X.nl, fd_l, ?_⟩
    by_cases hf : S.fallen = true
    · have el : leftV S = .non := if_pos hf
      have ec : S.count = (false, S) := if_pos hf
      rw [ec] at k2
      rw [el]
      refine ⟨rfl, _, rfl, iteF' (by simp) ?_⟩
      refine ⟨_, rfl, x, dx, _, rfl, d.x, dk_no.2.2.2, x, dx, _, _, _, _, _, true, rfl, (by rw [← hf]; exact d.x), (fun z => nomatch z), fun _ => ?_⟩
      exact k2 rfl _ _ ⟨dx, Ac, An, Au, Ap, ts, dp, rfl, d⟩ (fun _ _ e _ => e) .refl
    have hf' : S.fallen = false := by simpa using hf
    cases hl : S.left with
    | none =>
      have el : leftV S = .non := by unfold leftV; rw [if_neg hf, hl]
      have ec : S.count = (true, S) := by unfold Dk.count; rw [if_neg hf, hl]
      rw [ec] at k1
      rw [el]
      refine ⟨rfl, _, rfl, iteF' (by simp) ?_⟩
      refine ⟨_, rfl, x, dx, _, rfl, d.x, dk_no.2.2.2, x, dx, _, _, _, _, _, false, rfl, (by rw [← hf']; exact d.x), (fun _ => ?_), fun z => nomatch z⟩
      refine ⟨_, rfl, x, C, dx, _, _, rfl, d.x, X.cl, X.nl, fd_l, rfl, _, rfl, ?_⟩
      rw [el]
      refine iteF' (by simp) ?_
      exact k1 rfl _ _ ⟨dx, Ac, An, Au, Ap, ts, dp, rfl, d⟩ (fun _ _ e _ => e) .refl
    | some m =>
      have el : leftV S = .int (m : Nat) := by unfold leftV; rw [if_neg hf, hl]
      have ep : dp = S.picks := d.pk hf' (by rw [hl]; simp)
      cases m with
      | zero =>
        have ec : S.count = (false, S.fall S.picks) := by unfold Dk.count; rw [if_neg hf, hl]
        rw [ec] at k2
        rw [el]
        refine ⟨rfl, _, rfl, iteT' (by simp) ?_⟩
        refine ⟨_, rfl, x, dx, _, rfl, d.x, dk_no.1, _, rfl, x, C, dx, _, _, rfl, d.x, X.cl, X.np, fd_p, ?_⟩
        refine ⟨x, dx, Ac, An, Au, Ap, Ap, ts, dp, dp, S, n, rfl, d, wf, d.p, Ne.symm nd.1.2.2, fun H1 An' Au' ts' n1 d1 f1 => ?_⟩
        refine ⟨_, rfl, x, dx, _, rfl, d1.x, dk_no.2.2.2, x, dx, _, _, _, _, _, true, rfl, d1.x, (fun z => nomatch z), fun _ => ?_⟩
        rw [ep] at d1
        exact after_stop d (k2 rfl) n1 d1 f1
      | succ m =>
        have ec : S.count = (true, { S with left := some m }) := by unfold Dk.count; rw [if_neg hf, hl]
        rw [ec] at k1
        rw [el]
        refine ⟨rfl, _, rfl, iteF' (by simp; omega) ?_⟩
        refine ⟨_, rfl, x, dx, _, rfl, d.x, dk_no.2.2.2, x, dx, _, _, _, _, _, false, rfl, (by rw [← hf']; exact d.x), (fun _ => ?_), fun z => nomatch z⟩
        refine ⟨_, rfl, x, C, dx, _, _, rfl, d.x, X.cl, X.nl, fd_l, rfl, _, rfl, ?_⟩
        rw [el]
        refine iteT' (by simp) ?_
        refine ⟨_, rfl, x, C, dx, _, _, rfl, d.x, X.cl, X.nl, fd_l, _, _, el, rfl, dx, _, d.x, by show 6 < 1000; decide, ?_⟩
        rw [fp_l]
        refine k1 rfl _ _ ⟨dx, Ac, An, Au, Ap, ts, dp, rfl, ⟨?_, ?_, ?_, ?_, ?_, ?_, d.nd, fun _ _ => ep⟩⟩ (.put1 (by simp)) .refl
        · rw [upd_same]
          have : leftV { S with left := some m } = .int (m : Nat) := if_neg hf
          rw [this, show ((m + 1 : Nat) : Int) - 1 = (m : Nat) by omega]
        · exact (upd_ne (Ne.symm nx.1)).trans d.c
        · exact (upd_ne (Ne.symm nx.2.1)).trans d.n
        · exact (upd_ne (Ne.symm nx.2.2.1)).trans d.u
        · exact d.pe.kt (KpT.put1 d.x notup_ins)
        · exact (upd_ne (Ne.symm nx.2.2.2)).trans d.p
end
end RS
set_option Elab.async false
set_option maxRecDepth 100000
set_option maxHeartbeats 4000000
set_option pp.maxSteps 400
namespace RS
open PySem PySem.Spec PyProof.Rows L2 GX
theorem mem5 {x a b c d e : Addr} : e ∈ [x, a, b, c, d] ↔ e = x ∨ e = a ∨ e = b ∨ e = c ∨ e = d := by simp
theorem DkIn.out {C : Addr} {H : Hp} {x dx Ac An Au Ap t : Addr} {ts : List Addr} {dp : List Bool} {S : Dk} (d : DkIn C H x dx Ac An Au Ap ts dp S) (h : H t = none) : t ≠ x ∧ t ≠ Ac ∧ t ≠ An ∧ t ≠ Au ∧ t ≠ Ap := by
  refine ⟨fun z => ?_, fun z => ?_, fun z => ?_, fun z => ?_, fun z => ?_⟩
  · rw [z, d.x] at h; cases h
  · rw [z, d.c] at h; cases h
  · rw [z, d.n] at h; cases h
  · rw [z, d.u] at h; cases h
  · rw [z, d.p] at h; cases h
theorem leftV_pen {S : Dk} {a : List V} {b : List (Nat × V)} : leftV { S with set := a, pen := b } = leftV S := rfl
section
variable {P : Program} {w : World} {K : PySem.W.Frag} {mg : Str → Option Value} {base : Heap}
theorem scDkW : FnScope ["self", "block", "what"] ["self", "block", "what"] (defScope s_Disk_write) := ⟨rfl, rfl, rfl, by decide +kernel, rfl, by decide +kernel, by decide +kernel⟩
def spDkW (K : PySem.W.Frag) (C CB CS : Addr) : Sp := fun vs H Q E => ∃ (x : Addr) (F : List Addr) (S : Dk) (n : Nat) (i : Int) (v : V) (d : PyData), vs = [.ref x, .int i, v] ∧ DkAt C H x F S ∧ Wf n S ∧ n ≤ 900 ∧ Dp K H v d ∧ noL d = true ∧ nodes d ≤ 900 ∧
  (¬ (0 ≤ i ∧ i < 600 ∧ wt d ≤ 40) → ∀ H', Same H H' → E (.ref CB) none H') ∧
  (0 ≤ i ∧ i < 600 ∧ wt d ≤ 40 → S.count.1 = false → After C H x F S.count.2 fun H' => E (.ref CS) none H') ∧
  (0 ≤ i ∧ i < 600 ∧ wt d ≤ 40 → S.count.1 = true → After C H x F (S.count.2.put i.toNat v) fun H' => Q .non H')
theorem dkwrite_ok {f C CB CS : Addr} {fd : FuncData} (X : TxD K C) (M : MethAt K C "write" "Disk.write" s_Disk_write f fd) (cB : Cal P w K mg base (L2.CX P w) 2 "check_block" ["block"] (spBlk CB)) (cW : Cal P w K mg base (L2.CX P w) 1 "check_weight" ["what"] (spWt K CB)) (cD : MetC P w K mg base (L2.CX P w) 3 C "do_deed" ["self"] (spDkD C CS)) : MetC P w K mg base (L2.CX P w) 4 C "write" ["self", "block", "what"] (spDkW K C CB CS) := by
  have sc := scDkW
  refine ⟨f, fd, X.cl, M.me, ?_, M.fn.binds (fun _ _ _ _ _ _ us hl => match us, hl with | [_, _, _], _ => rfl)⟩
  refine M.fn.okX sc (fun vs H Q E h => ?_) (fun cdv A outer s H vs Q E hr h => ?_)
  · obtain ⟨x, F, S, n, i, v, d, rfl, _⟩ := h
    rfl
  · obtain ⟨x, F, S, n, i, v, d, rfl, da, wf, n9, hv, nl, nb, k1, k2, k3⟩ := h
    refine ⟨_, (pss_cons (ps_expr (pe_c cB hr (by decide) (by rfl) (passes_call (takes_of rfl rfl rfl rfl) fun _ _ _ _ h => h) (pa_cons (pv 1) pa_nil))) (pss_cons (ps_expr (pe_c cW hr (by decide) (by rfl) (passes_call (takes_of rfl rfl rfl rfl) fun _ _ _ _ h => h) (pa_cons (pv 2) pa_nil))) (pss_cons (ps_expr (pe_m0 cD hr (by decide) (passes_call (takes_of rfl rfl rfl rfl) fun _ _ _ _ h => h) (pv 0))) (pss_cons (ps_asg (pv 2) (pg_sub (pe_fld (pv 0) rfl) (pv 1) set_list)) (pss_one (ps_expr (pe_bm PySem.F.plainAttrs_list PySem.F.slot_list_append PySem.F.type_list_append mt_append (pe_fld (pv 0) rfl) (pa_cons (pe_tup (pa_cons (pv 1) (pa_cons (pv 2) pa_nil))) pa_nil)))))))), ?_⟩
    refine ⟨_, rfl, i, rfl, (fun hi => ?_), fun hi => k1 (fun z => hi ⟨z.1, z.2.1⟩) _ (Same.refl _)⟩
    refine ⟨_, rfl, v, d, rfl, hv, nl, nb, fun H1 s1 => ⟨fun hw => ?_, fun hw => k1 (fun z => by omega) _ s1⟩⟩
    have da1 := da.same s1
    obtain ⟨dx, Ac, An, Au, Ap, ts, dp, eF, d0⟩ := id da1
    have st : ∀ {S' : Dk} {R : Hp → Prop}, After C H x F S' R → After C H1 x F S' R := fun k => k.step (.of s1) .refl
    refine ⟨_, rfl, x, dx, _, rfl, d0.x, dk_no.2.2.1, x, F, S, n, rfl, da1, wf, fun hc => ?_, fun hc => st (k2 ⟨hi.1, hi.2, hw⟩ hc)⟩
    intro H2 F2 da2 f2 n2
    have wf2 := wf.count
    obtain ⟨al, al2⟩ := count_alive hc
    refine st (k3 ⟨hi.1, hi.2, hw⟩ hc) |>.step f2 n2 |> fun k => ?_
    generalize S.count.2 = S2 at da2 wf2 al2 k ⊢
    obtain ⟨dx, Ac, An, Au, Ap, ts, dp, rfl, d2⟩ := da2
    have nd := nd4.mp d2.nd
    have nx := d2.nx
    obtain ⟨j, rfl⟩ : ∃ j : Nat, i = (j : Nat) := ⟨i.toNat, by omega⟩
    have hj : j < 600 := by omega
    rw [Int.toNat_natCast] at k
    refine ⟨_, rfl, _, rfl, x, C, dx, _, _, rfl, d2.x, X.cl, X.nn, fd_n, _, rfl, An, _, _, j, rfl, rfl, d2.n, ixN_natD (by rw [ovl_len, wf2.len]; exact hj), ?_⟩
    have hn3 : upd H2 An (.lst ((ovl S2.set S2.pen).set j v)) An = some (.lst ((ovl S2.set S2.pen).set j v)) := upd_same
    have f3 : FrF [x, Ac, An, Au, Ap] H2 (upd H2 An (.lst ((ovl S2.set S2.pen).set j v))) := .put1 (by simp)
    have kt3 : KpT H2 (upd H2 An (.lst ((ovl S2.set S2.pen).set j v))) := .put1 d2.n notup_lst
    have e3 : ∀ b, b ≠ An → upd H2 An (.lst ((ovl S2.set S2.pen).set j v)) b = H2 b := fun b n => upd_ne n
    generalize upd H2 An (.lst ((ovl S2.set S2.pen).set j v)) = H3 at hn3 f3 kt3 e3 ⊢
    have hx3 := (e3 _ nx.2.1).trans d2.x
    have hu3 := (e3 _ (Ne.symm nd.2.1.1)).trans d2.u
    refine ⟨_, rfl, x, C, dx, _, _, rfl, hx3, X.cl, X.nu, fd_u, .inl ⟨rfl, _, SqL.of hu3⟩, _, rfl, _, rfl, by show 2 ≤ sizeLine; decide, fun t nt => ?_⟩
    have s4 := sameNew (o := .tup [.int (j : Nat), v]) (Same.refl H3) nt
    have ht4 : upd H3 t (.tup [.int (j : Nat), v]) t = some (.tup [.int (j : Nat), v]) := upd_same
    generalize upd H3 t (.tup [.int (j : Nat), v]) = H4 at s4 ht4 ⊢
    have hu4 := s4 _ _ hu3
    have lts : ts.length = S2.pen.length := d2.pe.len
    refine ⟨Au, ts.map V.ref, .ref t, rfl, rfl, hu4, ?_, ?_⟩
    · have := wf2.many
      rw [List.length_map]
      exact small1000 (by omega)
    have kt5 : KpT H4 (upd H4 Au (.lst (ts.map V.ref ++ [.ref t]))) := .put1 hu4 notup_lst
    have e5 : ∀ b u, H4 b = some u → b ≠ Au → upd H4 Au (.lst (ts.map V.ref ++ [.ref t])) b = some u := fun b u e n => (upd_ne n).trans e
    refine k _ _ ⟨dx, Ac, An, Au, Ap, ts ++ [t], dp, rfl, ⟨?_, ?_, ?_, ?_, ?_, ?_, d2.nd, d2.pk⟩⟩ (f3.t ((FrF.of s4).t (.put1 (by simp)))) .refl
    · exact e5 _ _ (s4 _ _ hx3) nx.2.2.1
    · exact e5 _ _ (s4 _ _ ((e3 _ nd.1.1).trans d2.c)) nd.1.2.1
    · show _ = some (HO.lst (ovl S2.set (S2.pen ++ [(j, v)])))
      rw [ovl_snoc]
      exact e5 _ _ (s4 _ _ hn3) nd.2.1.1
    · rw [upd_same, List.map_append]; rfl
    · exact (((d2.pe.kt kt3).kt (.of s4)).snoc ht4).kt kt5
    · exact e5 _ _ (s4 _ _ ((e3 _ (Ne.symm nd.2.1.2)).trans d2.p)) (Ne.symm nd.2.2)
theorem scDkT : FnScope ["self"] ["self"] (defScope s_Disk_settle) := ⟨rfl, rfl, rfl, by decide +kernel, rfl, by decide +kernel, by decide +kernel⟩
def spDkT (C CS : Addr) : Sp := fun vs H Q E => ∃ (x : Addr) (F : List Addr) (S : Dk) (n : Nat), vs = [.ref x] ∧ DkAt C H x F S ∧ Wf n S ∧
  (S.count.1 = false → After C H x F S.count.2 fun H' => E (.ref CS) none H') ∧
  (S.count.1 = true → After C H x F S.count.2.settle fun H' => Q .non H')
theorem dksettle_ok {f C CS : Addr} {fd : FuncData} (X : TxD K C) (T : Txt K mg) (M : MethAt K C "settle" "Disk.settle" s_Disk_settle f fd) (cD : MetC P w K mg base (L2.CX P w) 3 C "do_deed" ["self"] (spDkD C CS)) : MetC P w K mg base (L2.CX P w) 4 C "settle" ["self"] (spDkT C CS) := by
  have sc := scDkT
  refine ⟨f, fd, X.cl, M.me, ?_, M.fn.binds (fun _ _ _ _ _ _ us hl => match us, hl with | [_], _ => rfl)⟩
  refine M.fn.okX sc (fun vs H Q E h => ?_) (fun cdv A outer s H vs Q E hr h => ?_)
  · obtain ⟨x, F, S, n, rfl, _⟩ := h
    rfl
  · obtain ⟨x, F, S, n, rfl, da, wf, k2, k3⟩ := h
    refine ⟨_, (pss_cons (ps_expr (pe_m0 cD hr (by decide) (passes_call (takes_of rfl rfl rfl rfl) fun _ _ _ _ h => h) (pv 0))) (pss_cons (ps_fld (pv 0) (pe_callTy call_list_of (by rfl) T.list_ (by decide +kernel) (pa_cons (pe_fld (pv 0) rfl) pa_nil)) rfl) (pss_one (ps_fld (pv 0) (pe_lst pa_nil) rfl)))), ?_⟩
    obtain ⟨dx, Ac, An, Au, Ap, ts, dp, eF, d0⟩ := id da
    refine ⟨_, rfl, x, dx, _, rfl, d0.x, dk_no.2.2.1, x, F, S, n, rfl, da, wf, fun hc => ?_, fun hc => k2 hc⟩
    intro H2 F2 da2 f2 n2
    refine (k3 hc).step f2 n2 |> fun k => ?_
    generalize S.count.2 = S2 at da2 k ⊢
    obtain ⟨dx, Ac, An, Au, Ap, ts, dp, rfl, d2⟩ := da2
    have nd := nd4.mp d2.nd
    have nx := d2.nx
    refine ⟨_, rfl, x, C, dx, _, _, rfl, d2.x, X.cl, X.nn, fd_n, An, _, rfl, .inl (SqL.of d2.n), fun c nc => ?_⟩
    have oc := d2.out nc
    have s3 := sameNew (o := .lst (ovl S2.set S2.pen)) (Same.refl H2) nc
    have hc3 : upd H2 c (.lst (ovl S2.set S2.pen)) c = some (.lst (ovl S2.set S2.pen)) := upd_same
    generalize upd H2 c (.lst (ovl S2.set S2.pen)) = H3 at s3 hc3 ⊢
    refine ⟨_, rfl, x, C, dx, _, rfl, s3 _ _ d2.x, X.cl, X.nc, by show 6 < 1000; decide, ?_⟩
    rw [fp_c]
    have f4 : FrF [x, Ac, An, Au, Ap] H2 (upd H3 x (.ins C dx (fldsD (.ref c) (.ref An) (.ref Au) (.bl S2.fallen) (leftV S2) (.ref Ap)))) := (FrF.of s3).t (.put1 (by simp))
    have hx4 : upd H3 x (.ins C dx (fldsD (.ref c) (.ref An) (.ref Au) (.bl S2.fallen) (leftV S2) (.ref Ap))) x = some (.ins C dx (fldsD (.ref c) (.ref An) (.ref Au) (.bl S2.fallen) (leftV S2) (.ref Ap))) := upd_same
    have e4 : ∀ b u, H3 b = some u → b ≠ x → upd H3 x (.ins C dx (fldsD (.ref c) (.ref An) (.ref Au) (.bl S2.fallen) (leftV S2) (.ref Ap))) b = some u := fun b u e n => (upd_ne n).trans e
    generalize upd H3 x (.ins C dx (fldsD (.ref c) (.ref An) (.ref Au) (.bl S2.fallen) (leftV S2) (.ref Ap))) = H4 at f4 hx4 e4 ⊢
    have hc4 := e4 _ _ hc3 oc.1
    refine ⟨Nat.zero_le _, fun u nu => ?_⟩
    have nux : u ≠ x := fun z => by rw [z, hx4] at nu; cases nu
    have nuc : u ≠ c := fun z => by rw [z, hc4] at nu; cases nu
    have nuAn : u ≠ An := fun z => by rw [z, e4 _ _ (s3 _ _ d2.n) (Ne.symm nx.2.1)] at nu; cases nu
    have nuAp : u ≠ Ap := fun z => by rw [z, e4 _ _ (s3 _ _ d2.p) (Ne.symm nx.2.2.2)] at nu; cases nu
    have s5 := sameNew (o := .lst []) (Same.refl H4) nu
    have hu5 : upd H4 u (.lst []) u = some (.lst []) := upd_same
    generalize upd H4 u (.lst []) = H5 at s5 hu5 ⊢
    refine ⟨_, rfl, x, C, dx, _, rfl, s5 _ _ hx4, X.cl, X.nu, by show 6 < 1000; decide, ?_⟩
    rw [fp_u]
    have e6 : ∀ b o, H5 b = some o → b ≠ x → upd H5 x (.ins C dx (fldsD (.ref c) (.ref An) (.ref u) (.bl S2.fallen) (leftV S2) (.ref Ap))) b = some o := fun b u e n => (upd_ne n).trans e
    refine k _ [x, c, An, u, Ap] ⟨dx, c, An, u, Ap, [], dp, rfl, ⟨upd_same, e6 _ _ (s5 _ _ hc4) oc.1, e6 _ _ (s5 _ _ (e4 _ _ (s3 _ _ d2.n) (Ne.symm nx.2.1))) (Ne.symm nx.2.1), e6 _ _ hu5 nux, .nil, e6 _ _ (s5 _ _ (e4 _ _ (s3 _ _ d2.p) (Ne.symm nx.2.2.2))) (Ne.symm nx.2.2.2), ?_, d2.pk⟩⟩ (f4.t ((FrF.of s5).t (.put1 (by simp)))) fun b hb => ?_
    · exact nd4.mpr ⟨⟨oc.2.2.1, Ne.symm nuc, oc.2.2.2.2⟩, ⟨Ne.symm nuAn, nd.2.1.2⟩, nuAp⟩
    · rcases mem5.mp hb with rfl | rfl | rfl | rfl | rfl
      · exact .inl (by simp)
      · exact .inr nc
      · exact .inl (by simp)
      · by_cases z : b ∈ [x, Ac, An, Au, Ap]
        · exact .inl z
        · exact .inr (f4.free nu z)
      · exact .inl (by simp)
theorem scDkRd : FnScope ["self", "block"] ["self", "block"] (defScope s_Disk_read) := ⟨rfl, rfl, rfl, by decide +kernel, rfl, by decide +kernel, by decide +kernel⟩
def spDkRd (C CB CS : Addr) : Sp := fun vs H Q E => ∃ (x : Addr) (F : List Addr) (S : Dk) (n : Nat) (i : Int), vs = [.ref x, .int i] ∧ DkAt C H x F S ∧ Wf n S ∧
  (¬ (0 ≤ i ∧ i < 600) → E (.ref CB) none H) ∧ (0 ≤ i ∧ i < 600 → S.fallen = true → E (.ref CS) none H) ∧ (0 ≤ i ∧ i < 600 → S.fallen = false → Q ((ovl S.set S.pen).getD i.toNat .non) H)
theorem dkread_ok {f C CB CS : Addr} {fd : FuncData} (X : TxD K C) (M : MethAt K C "read" "Disk.read" s_Disk_read f fd) (cB : Cal P w K mg base (L2.CX P w) 2 "check_block" ["block"] (spBlk CB)) (cR : MetC P w K mg base (L2.CX P w) 1 C "check_runs" ["self"] (spDkC C CS)) : MetC P w K mg base (L2.CX P w) 3 C "read" ["self", "block"] (spDkRd C CB CS) := by
  have sc := scDkRd
  refine ⟨f, fd, X.cl, M.me, ?_, M.fn.binds (fun _ _ _ _ _ _ us hl => match us, hl with | [_, _], _ => rfl)⟩
  refine M.fn.okX sc (fun vs H Q E h => ?_) (fun cdv A outer s H vs Q E hr h => ?_)
  · obtain ⟨x, F, S, n, i, rfl, _⟩ := h
    rfl
  · obtain ⟨x, F, S, n, i, rfl, ⟨dx, Ac, An, Au, Ap, ts, dp, rfl, d⟩, wf, k1, k2, k3⟩ := h
    refine ⟨_, (pss_cons (ps_expr (pe_c cB hr (by decide) (by rfl) (passes_call (takes_of rfl rfl rfl rfl) fun _ _ _ _ h => h) (pa_cons (pv 1) pa_nil))) (pss_cons (ps_expr (pe_m0 cR hr (by decide) (passes_call (takes_of rfl rfl rfl rfl) fun _ _ _ _ h => h) (pv 0))) (pss_one (ps_ret (pe_ix ix_list (pe_fld (pv 0) rfl) (pv 1) (fun _ _ => rfl)))))), ?_⟩
    refine ⟨_, rfl, i, rfl, (fun hi => ?_), k1⟩
    refine ⟨_, rfl, x, dx, _, rfl, d.x, dk_no.2.2.2, x, dx, _, _, _, _, _, S.fallen, rfl, d.x, (fun hf => ?_), fun hf => k2 hi hf⟩
    obtain ⟨j, rfl⟩ : ∃ j : Nat, i = (j : Nat) := ⟨i.toNat, by omega⟩
    have hj : j < (ovl S.set S.pen).length := by rw [ovl_len, wf.len]; omega
    refine ⟨_, rfl, x, C, dx, _, _, rfl, d.x, X.cl, X.nn, fd_n, _, rfl, An, _, j, _, rfl, rfl, SqL.of d.n, atI_nat (List.getElem?_eq_getElem hj), ?_⟩
    have := k3 hi hf
    rw [Int.toNat_natCast, List.getD_eq_getElem?_getD, List.getElem?_eq_getElem hj] at this
    exact this
theorem scDkA : FnScope ["self", "deeds", "picks"] ["self", "deeds", "picks"] (defScope s_Disk_arm) := ⟨rfl, rfl, rfl, by decide +kernel, rfl, by decide +kernel, by decide +kernel⟩
def spDkA (C : Addr) : Sp := fun vs H Q _ => ∃ (x pA : Addr) (F : List Addr) (S : Dk) (m : Nat) (bs : List Bool), vs = [.ref x, .int (m : Nat), .ref pA] ∧ DkAt C H x F S ∧ H pA = some (.lst (bs.map V.bl)) ∧ After C H x F (S.arm m bs) fun H' => Q .non H'
theorem dkarm_ok {f C : Addr} {fd : FuncData} (X : TxD K C) (T : Txt K mg) (M : MethAt K C "arm" "Disk.arm" s_Disk_arm f fd) : MetC P w K mg base CX0 1 C "arm" ["self", "deeds", "picks"] (spDkA C) := by
  have sc := scDkA
  refine ⟨f, fd, X.cl, M.me, ?_, M.fn.binds (fun _ _ _ _ _ _ us hl => match us, hl with | [_, _, _], _ => rfl)⟩
  refine M.fn.ok sc (fun vs H Q E h => ?_) (fun cdv A outer s H vs Q E hr h => ?_)
  · obtain ⟨x, pA, F, S, m, bs, rfl, _⟩ := h
    rfl
  · obtain ⟨x, pA, F, S, m, bs, rfl, ⟨dx, Ac, An, Au, Ap, ts, dp, rfl, d⟩, hp, k⟩ := h
    refine ⟨_, (pss_one (ps_if (pt_not (pt_truth (pe_fld (pv 0) rfl) (by intro _; rfl))) (pss_cons (ps_fld (pv 0) (pv 1) rfl) (pss_one (ps_fld (pv 0) (pe_callTy call_list_of (by rfl) T.list_ (by decide +kernel) (pa_cons (pv 2) pa_nil)) rfl))) pss_nil)), ?_⟩
    have nd := nd4.mp d.nd
    have nx := d.nx
    refine ⟨_, rfl, x, C, dx, _, _, rfl, d.x, X.cl, X.ns, fd_s, S.fallen, rfl, ?_⟩
    by_cases hf : S.fallen = true
    · rw [hf]
      refine iteF ?_
      have : S.arm m bs = S := if_pos hf
      rw [this] at k
      exact k _ _ ⟨dx, Ac, An, Au, Ap, ts, dp, rfl, d⟩ (fun _ _ e _ => e) .refl
    have hf' : S.fallen = false := by simpa using hf
    have ea : S.arm m bs = { S with left := some m, picks := bs } := if_neg hf
    rw [ea] at k
    have el : leftV { S with left := some m, picks := bs } = .int (m : Nat) := if_neg hf
    rw [hf']
    refine iteT ?_
    refine ⟨_, rfl, _, rfl, x, C, dx, _, rfl, d.x, X.cl, X.nl, by show 6 < 1000; decide, ?_⟩
    rw [fp_l]
    have f1 : FrF [x, Ac, An, Au, Ap] H (upd H x (.ins C dx (fldsD (.ref Ac) (.ref An) (.ref Au) (.bl S.fallen) (.int (m : Nat)) (.ref Ap)))) := .put1 (by simp)
    have hx1 : upd H x (.ins C dx (fldsD (.ref Ac) (.ref An) (.ref Au) (.bl S.fallen) (.int (m : Nat)) (.ref Ap))) x = some (.ins C dx (fldsD (.ref Ac) (.ref An) (.ref Au) (.bl S.fallen) (.int (m : Nat)) (.ref Ap))) := upd_same
    have e1 : ∀ b u, H b = some u → b ≠ x → upd H x (.ins C dx (fldsD (.ref Ac) (.ref An) (.ref Au) (.bl S.fallen) (.int (m : Nat)) (.ref Ap))) b = some u := fun b u e n => (upd_ne n).trans e
    have kt1 : KpT H (upd H x (.ins C dx (fldsD (.ref Ac) (.ref An) (.ref Au) (.bl S.fallen) (.int (m : Nat)) (.ref Ap)))) := .put1 d.x notup_ins
    generalize upd H x (.ins C dx (fldsD (.ref Ac) (.ref An) (.ref Au) (.bl S.fallen) (.int (m : Nat)) (.ref Ap))) = H1 at f1 hx1 e1 kt1 ⊢
    have npx : pA ≠ x := fun z => by rw [z, d.x] at hp; cases hp
    refine ⟨_, rfl, pA, _, rfl, .inl (SqL.of (e1 _ _ hp npx)), fun q nq => ?_⟩
    have hc1 := e1 _ _ d.c (Ne.symm nx.1)
    have hn1 := e1 _ _ d.n (Ne.symm nx.2.1)
    have hu1 := e1 _ _ d.u (Ne.symm nx.2.2.1)
    have nqx : q ≠ x := fun z => by rw [z, hx1] at nq; cases nq
    have nqc : q ≠ Ac := fun z => by rw [z, hc1] at nq; cases nq
    have nqn : q ≠ An := fun z => by rw [z, hn1] at nq; cases nq
    have nqu : q ≠ Au := fun z => by rw [z, hu1] at nq; cases nq
    have s2 := sameNew (o := .lst (bs.map V.bl)) (Same.refl H1) nq
    have hq2 : upd H1 q (.lst (bs.map V.bl)) q = some (.lst (bs.map V.bl)) := upd_same
    generalize upd H1 q (.lst (bs.map V.bl)) = H2 at s2 hq2 ⊢
    refine ⟨_, rfl, x, C, dx, _, rfl, s2 _ _ hx1, X.cl, X.np, by show 6 < 1000; decide, ?_⟩
    rw [fp_p]
    have e3 : ∀ b o, H2 b = some o → b ≠ x → upd H2 x (.ins C dx (fldsD (.ref Ac) (.ref An) (.ref Au) (.bl S.fallen) (.int (m : Nat)) (.ref q))) b = some o := fun b u e n => (upd_ne n).trans e
    refine k _ [x, Ac, An, Au, q] ⟨dx, Ac, An, Au, q, ts, bs, rfl, ⟨?_, e3 _ _ (s2 _ _ hc1) (Ne.symm nx.1), e3 _ _ (s2 _ _ hn1) (Ne.symm nx.2.1), e3 _ _ (s2 _ _ hu1) (Ne.symm nx.2.2.1), ((d.pe.kt kt1).kt (.of s2)).kt (.put1 (s2 _ _ hx1) notup_ins), e3 _ _ hq2 nqx, ?_, fun _ _ => rfl⟩⟩ (f1.t ((FrF.of s2).t (.put1 (by simp)))) fun b hb => ?_
    · rw [upd_same, el]
    · exact nd4.mpr ⟨⟨nd.1.1, nd.1.2.1, Ne.symm nqc⟩, ⟨nd.2.1.1, Ne.symm nqn⟩, Ne.symm nqu⟩
    · rcases mem5.mp hb with rfl | rfl | rfl | rfl | rfl
      · exact .inl (by simp)
      · exact .inl (by simp)
      · exact .inl (by simp)
      · exact .inl (by simp)
      · by_cases z : b ∈ [x, Ac, An, Au, Ap]
        · exact .inl z
        · exact .inr (f1.free nq z)
def spDkSt (C : Addr) : Sp := fun vs H Q _ => ∃ (x pA : Addr) (F : List Addr) (S : Dk) (n : Nat) (bs : List Bool), vs = [.ref x, .ref pA] ∧ DkAt C H x F S ∧ Wf n S ∧ H pA = some (.lst (bs.map V.bl)) ∧ pA ∉ F ∧ After C H x F (S.fall bs) fun H' => Q .non H'
theorem spDkSt.to {C : Addr} {vs : List V} {H : Hp} {Q : VK} {E : XK} (h : spDkSt C vs H Q E) : spDkS C vs H Q E := by
  obtain ⟨x, pA, F, S, n, bs, rfl, ⟨dx, Ac, An, Au, Ap, ts, dp, rfl, d⟩, wf, hp, np, k⟩ := h
  exact ⟨x, dx, Ac, An, Au, Ap, pA, ts, dp, bs, S, n, rfl, d, wf, hp, fun z => np (by simp [z]), fun H' An' Au' ts' n1 d1 f1 => after_stop d k n1 d1 f1⟩
theorem scDkG2 : FnScope ["self"] ["self"] (defScope s_Disk_again) := ⟨rfl, rfl, rfl, by decide +kernel, rfl, by decide +kernel, by decide +kernel⟩
def spDkG2 (C : Addr) : Sp := fun vs H Q _ => ∃ (x : Addr) (F : List Addr) (S : Dk), vs = [.ref x] ∧ DkAt C H x F S ∧ After C H x F S.again fun H' => Q .non H'
theorem dkagain_ok {f C : Addr} {fd : FuncData} (X : TxD K C) (M : MethAt K C "again" "Disk.again" s_Disk_again f fd) (cG : MetC P w K mg base CX0 1 C "let_go" ["self"] (spDkG K C)) : MetC P w K mg base CX0 2 C "again" ["self"] (spDkG2 C) := by
  have sc := scDkG2
  refine ⟨f, fd, X.cl, M.me, ?_, M.fn.binds (fun _ _ _ _ _ _ us hl => match us, hl with | [_], _ => rfl)⟩
  refine M.fn.ok sc (fun vs H Q E h => ?_) (fun cdv A outer s H vs Q E hr h => ?_)
  · obtain ⟨x, F, S, rfl, _⟩ := h
    rfl
  · obtain ⟨x, F, S, rfl, ⟨dx, Ac, An, Au, Ap, ts, dp, rfl, d⟩, k⟩ := h
    refine ⟨_, (pss_cons (ps_fld (pv 0) pe_bl rfl) (pss_one (ps_expr (pe_m0 cG hr (by decide) pass0 (pv 0))))), ?_⟩
    have nd := nd4.mp d.nd
    have nx := d.nx
    refine ⟨_, rfl, x, C, dx, _, rfl, d.x, X.cl, X.ns, by show 6 < 1000; decide, ?_⟩
    rw [fp_s]
    have f1 : FrF [x] H (upd H x (.ins C dx (fldsD (.ref Ac) (.ref An) (.ref Au) (.bl false) (leftV S) (.ref Ap)))) := .put1 (by simp)
    have hx1 : upd H x (.ins C dx (fldsD (.ref Ac) (.ref An) (.ref Au) (.bl false) (leftV S) (.ref Ap))) x = some (.ins C dx (fldsD (.ref Ac) (.ref An) (.ref Au) (.bl false) (leftV S) (.ref Ap))) := upd_same
    generalize upd H x (.ins C dx (fldsD (.ref Ac) (.ref An) (.ref Au) (.bl false) (leftV S) (.ref Ap))) = H1 at f1 hx1 ⊢
    have hc1 := f1 _ _ d.c (by simp [Ne.symm nx.1])
    have hp1 := f1 _ _ d.p (by simp [Ne.symm nx.2.2.2])
    refine ⟨_, rfl, x, dx, _, rfl, hx1, dk_no.2.1, x, dx, Ac, _, _, _, _, _, _, rfl, hx1, hc1, fun H2 An' Au' n1 n2 nnu hx2 hn2 hu2 f2 => ?_⟩
    have o : ∀ c, H1 c = none → c ≠ x ∧ c ≠ Ac ∧ c ≠ Ap := fun c z => ⟨fun e => (by rw [e, hx1] at z; cases z), fun e => (by rw [e, hc1] at z; cases z), fun e => (by rw [e, hp1] at z; cases z)⟩
    have q1 := o _ n1
    have q2 := o _ n2
    have g1 := f1.free n1 (by simp [q1.1])
    have g2 := f1.free n2 (by simp [q2.1])
    have f := f1.t f2
    refine k H2 [x, Ac, An', Au', Ap] ⟨dx, Ac, An', Au', Ap, [], dp, rfl, ⟨hx2, f2 _ _ hc1 (by simp [Ne.symm nx.1]), hn2, hu2, .nil, f2 _ _ hp1 (by simp [Ne.symm nx.2.2.2]), nd4.mpr ⟨⟨Ne.symm q1.2.1, Ne.symm q2.2.1, nd.1.2.2⟩, ⟨nnu, q1.2.2⟩, q2.2.2⟩, fun _ z => absurd rfl z⟩⟩ (fun b u e n => f b u e fun z => n (by simp [List.mem_singleton.mp z])) fun b hb => ?_
    rcases mem5.mp hb with rfl | rfl | rfl | rfl | rfl
    · exact .inl (by simp)
    · exact .inl (by simp)
    · exact .inr g1
    · exact .inr g2
    · exact .inl (by simp)
theorem scDkB : FnScope ["self"] ["self"] (defScope s_Disk_blocks) := ⟨rfl, rfl, rfl, by decide +kernel, rfl, by decide +kernel, by decide +kernel⟩
def spDkB (C : Addr) : Sp := fun vs H Q _ => ∃ (x : Addr) (F : List Addr) (S : Dk), vs = [.ref x] ∧ DkAt C H x F S ∧ ∀ l, H l = none → Q (.ref l) (upd H l (.lst S.set))
theorem dkblocks_ok {f C : Addr} {fd : FuncData} (X : TxD K C) (T : Txt K mg) (M : MethAt K C "blocks" "Disk.blocks" s_Disk_blocks f fd) : MetC P w K mg base CX0 1 C "blocks" ["self"] (spDkB C) := by
  have sc := scDkB
  refine ⟨f, fd, X.cl, M.me, ?_, M.fn.binds (fun _ _ _ _ _ _ us hl => match us, hl with | [_], _ => rfl)⟩
  refine M.fn.ok sc (fun vs H Q E h => ?_) (fun cdv A outer s H vs Q E hr h => ?_)
  · obtain ⟨x, F, S, rfl, _⟩ := h
    rfl
  · obtain ⟨x, F, S, rfl, ⟨dx, Ac, An, Au, Ap, ts, dp, rfl, d⟩, k⟩ := h
    refine ⟨_, (pss_one (ps_ret (pe_callTy call_list_of (by rfl) T.list_ (by decide +kernel) (pa_cons (pe_fld (pv 0) rfl) pa_nil)))), ?_⟩
    exact ⟨_, rfl, x, C, dx, _, _, rfl, d.x, X.cl, X.nc, fd_c, Ac, _, rfl, .inl (SqL.of d.c), fun l nl => k l nl⟩
theorem scDkI : FnScope ["self"] ["self"] (defScope s_Disk_init) := ⟨rfl, rfl, rfl, by decide +kernel, rfl, by decide +kernel, by decide +kernel⟩
def spDkI (C : Addr) : Sp := fun vs H Q _ => ∃ (x dx : Addr), vs = [.ref x] ∧ H x = some (.ins C dx []) ∧ ∀ (H' : Hp) (F : List Addr), DkAt C H' x F .new → (∀ b ∈ F, b = x ∨ H b = none) → FrF [x] H H' → Q .non H'
theorem dkinit_ok {f C : Addr} {fd : FuncData} {t6 : Tok} (M : Mk K C f) (F : L2.Fun K "__init__" "Disk.__init__" s_Disk_init f fd) (X : TxD K C) (hm : mg "Disk" = some (.ref C)) (hB : mg "MANY_BLOCKS" = some (.int 600 t6)) :
    MakC P w K mg base CX0 1 "Disk" C ["self"] (spDkI C) := by
  have sc := scDkI
  refine ⟨f, fd, M, ?_, hm, F.binds (fun _ _ _ _ _ _ us hl => match us, hl with | [_], _ => rfl)⟩
  refine F.ok sc (fun vs H Q E h => ?_) (fun cdv A outer s H vs Q E hr h => ?_)
  · obtain ⟨x, dx, rfl, _⟩ := h
    rfl
  · obtain ⟨x, dx, rfl, hx, k⟩ := h
    refine ⟨_, (pss_cons (ps_fld (pv 0) (pe_op op_rep (pe_lst (pa_cons pe_non pa_nil)) (pe_glob (v := V.int 600) (by rfl) hB ⟨_, rfl⟩)) rfl) (pss_cons (ps_fld (pv 0) (pe_op op_rep (pe_lst (pa_cons pe_non pa_nil)) (pe_glob (v := V.int 600) (by rfl) hB ⟨_, rfl⟩)) rfl) (pss_cons (ps_fld (pv 0) (pe_lst pa_nil) rfl) (pss_cons (ps_fld (pv 0) pe_bl rfl) (pss_cons (ps_fld (pv 0) pe_non rfl) (pss_one (ps_fld (pv 0) (pe_lst pa_nil) rfl))))))), ?_⟩
    have rep : (List.replicate (600 : Int).toNat [V.non]).flatten = List.replicate 600 V.non := by
      show (List.replicate 600 [V.non]).flatten = _
      generalize 600 = q
      induction q with
      | zero => rfl
      | succ q ih => rw [List.replicate_succ, List.flatten_cons, ih, List.replicate_succ]; rfl
    refine ⟨by show 1 ≤ sizeLine; decide, fun l1 nl1 => ?_⟩
    have s1 := sameNew (o := .lst [.non]) (Same.refl H) nl1
    have hl1 : upd H l1 (.lst [.non]) l1 = some (.lst [.non]) := upd_same
    generalize upd H l1 (.lst [.non]) = H1 at s1 hl1 ⊢
    refine ⟨l1, 600, _, rfl, rfl, hl1, by decide, by decide, by show 1 * 600 ≤ sizeLine; decide, fun c1 nc1 => ?_⟩
    rw [rep]
    have s2 := sameNew (o := .lst (List.replicate 600 V.non)) (Same.refl H1) nc1
    have hc1 : upd H1 c1 (.lst (List.replicate 600 V.non)) c1 = some (.lst (List.replicate 600 V.non)) := upd_same
    generalize upd H1 c1 (.lst (List.replicate 600 V.non)) = H2 at s2 hc1 ⊢
    have hx2 := s2 _ _ (s1 _ _ hx)
    refine ⟨_, rfl, x, C, dx, _, rfl, hx2, X.cl, X.nc, by show 0 < 1000; decide, ?_⟩
    have p1 : putF "certain" (.ref c1) [] = [(("certain" : Str), V.ref c1)] := rfl
    rw [p1]
    have x3 : upd H2 x (.ins C dx [(("certain" : Str), V.ref c1)]) x = some (.ins C dx [(("certain" : Str), V.ref c1)]) := upd_same
    have f3 : ∀ b o, H2 b = some o → b ≠ x → upd H2 x (.ins C dx [(("certain" : Str), V.ref c1)]) b = some o := fun b o e n => (upd_ne n).trans e
    generalize upd H2 x (.ins C dx [(("certain" : Str), V.ref c1)]) = H3 at x3 f3 ⊢
    have nxc : c1 ≠ x := fun z => by rw [z, s1 _ _ hx] at nc1; cases nc1
    refine ⟨by show 1 ≤ sizeLine; decide, fun l2 nl2 => ?_⟩
    have s4 := sameNew (o := .lst [.non]) (Same.refl H3) nl2
    have hl2 : upd H3 l2 (.lst [.non]) l2 = some (.lst [.non]) := upd_same
    generalize upd H3 l2 (.lst [.non]) = H4 at s4 hl2 ⊢
    refine ⟨l2, 600, _, rfl, rfl, hl2, by decide, by decide, by show 1 * 600 ≤ sizeLine; decide, fun N nN => ?_⟩
    rw [rep]
    have hc4 := s4 _ _ (f3 _ _ hc1 nxc)
    have ncN : c1 ≠ N := fun z => by rw [← z, hc4] at nN; cases nN
    have s5 := sameNew (o := .lst (List.replicate 600 V.non)) (Same.refl H4) nN
    have hN : upd H4 N (.lst (List.replicate 600 V.non)) N = some (.lst (List.replicate 600 V.non)) := upd_same
    generalize upd H4 N (.lst (List.replicate 600 V.non)) = H5 at s5 hN ⊢
    have hx5 := s5 _ _ (s4 _ _ x3)
    have nxN : N ≠ x := fun z => by rw [z, s4 _ _ x3] at nN; cases nN
    refine ⟨_, rfl, x, C, dx, _, rfl, hx5, X.cl, X.nn, by show 1 < 1000; decide, ?_⟩
    have p2 : putF "newest" (.ref N) [(("certain" : Str), V.ref c1)] = [(("certain" : Str), V.ref c1), ("newest", V.ref N)] := by
      rw [putF_ne (Ne.symm nd10)]; rfl
    rw [p2]
    have x6 : upd H5 x (.ins C dx [(("certain" : Str), V.ref c1), ("newest", V.ref N)]) x = some (.ins C dx [(("certain" : Str), V.ref c1), ("newest", V.ref N)]) := upd_same
    have f6 : ∀ b o, H5 b = some o → b ≠ x → upd H5 x (.ins C dx [(("certain" : Str), V.ref c1), ("newest", V.ref N)]) b = some o := fun b o e n => (upd_ne n).trans e
    generalize upd H5 x (.ins C dx [(("certain" : Str), V.ref c1), ("newest", V.ref N)]) = H6 at x6 f6 ⊢
    have hc6 := f6 _ _ (s5 _ _ hc4) nxc
    have hN6 := f6 _ _ hN nxN
    refine ⟨Nat.zero_le _, fun u nu => ?_⟩
    have nxu : u ≠ x := fun z => by rw [z, x6] at nu; cases nu
    have ncu : c1 ≠ u := fun z => by rw [← z, hc6] at nu; cases nu
    have nNu : N ≠ u := fun z => by rw [← z, hN6] at nu; cases nu
    have s7 := sameNew (o := .lst []) (Same.refl H6) nu
    have hu : upd H6 u (.lst []) u = some (.lst []) := upd_same
    generalize upd H6 u (.lst []) = H7 at s7 hu ⊢
    refine ⟨_, rfl, x, C, dx, _, rfl, s7 _ _ x6, X.cl, X.nu, by show 2 < 1000; decide, ?_⟩
    have p3 : putF "unsettled" (.ref u) [(("certain" : Str), V.ref c1), ("newest", V.ref N)] = [(("certain" : Str), V.ref c1), ("newest", V.ref N), ("unsettled", V.ref u)] := by
      rw [putF_ne (Ne.symm nd20), putF_ne (Ne.symm nd21)]; rfl
    rw [p3]
    refine ⟨_, rfl, x, C, dx, _, rfl, upd_same, X.cl, X.ns, by show 3 < 1000; decide, ?_⟩
    have p4 : putF "has_stopped" (.bl false) [(("certain" : Str), V.ref c1), ("newest", V.ref N), ("unsettled", V.ref u)] = [(("certain" : Str), V.ref c1), ("newest", V.ref N), ("unsettled", V.ref u), ("has_stopped", .bl false)] := by
      rw [putF_ne (Ne.symm nd30), putF_ne (Ne.symm nd31), putF_ne (Ne.symm nd32)]; rfl
    rw [p4]
    refine ⟨_, rfl, x, C, dx, _, rfl, upd_same, X.cl, X.nl, by show 4 < 1000; decide, ?_⟩
    have p5 : putF "deeds_left" .non [(("certain" : Str), V.ref c1), ("newest", V.ref N), ("unsettled", V.ref u), ("has_stopped", .bl false)] = [(("certain" : Str), V.ref c1), ("newest", V.ref N), ("unsettled", V.ref u), ("has_stopped", .bl false), ("deeds_left", .non)] := by
      rw [putF_ne (Ne.symm nd40), putF_ne (Ne.symm nd41), putF_ne (Ne.symm nd42), putF_ne (Ne.symm nd43)]; rfl
    rw [p5]
    rw [upd_upd, upd_upd]
    have xA : upd H7 x (.ins C dx [(("certain" : Str), V.ref c1), ("newest", V.ref N), ("unsettled", V.ref u), ("has_stopped", .bl false), ("deeds_left", .non)]) x = some (.ins C dx [(("certain" : Str), V.ref c1), ("newest", V.ref N), ("unsettled", V.ref u), ("has_stopped", .bl false), ("deeds_left", .non)]) := upd_same
    have fA : ∀ b o, H7 b = some o → b ≠ x → upd H7 x (.ins C dx [(("certain" : Str), V.ref c1), ("newest", V.ref N), ("unsettled", V.ref u), ("has_stopped", .bl false), ("deeds_left", .non)]) b = some o := fun b o e n => (upd_ne n).trans e
    generalize upd H7 x (.ins C dx [(("certain" : Str), V.ref c1), ("newest", V.ref N), ("unsettled", V.ref u), ("has_stopped", .bl false), ("deeds_left", .non)]) = HA at xA fA ⊢
    have hcA := fA _ _ (s7 _ _ hc6) nxc
    have hNA := fA _ _ (s7 _ _ hN6) nxN
    have huA := fA _ _ hu nxu
    refine ⟨Nat.zero_le _, fun pk npk => ?_⟩
    have nxp : pk ≠ x := fun z => by rw [z, xA] at npk; cases npk
    have ncp : c1 ≠ pk := fun z => by rw [← z, hcA] at npk; cases npk
    have nNp : N ≠ pk := fun z => by rw [← z, hNA] at npk; cases npk
    have nup : u ≠ pk := fun z => by rw [← z, huA] at npk; cases npk
    have sB := sameNew (o := .lst []) (Same.refl HA) npk
    have hpk : upd HA pk (.lst []) pk = some (.lst []) := upd_same
    generalize upd HA pk (.lst []) = HB at sB hpk ⊢
    refine ⟨_, rfl, x, C, dx, _, rfl, sB _ _ xA, X.cl, X.np, by show 5 < 1000; decide, ?_⟩
    have p6 : putF "picks" (.ref pk) [(("certain" : Str), V.ref c1), ("newest", V.ref N), ("unsettled", V.ref u), ("has_stopped", .bl false), ("deeds_left", .non)] = fldsD (.ref c1) (.ref N) (.ref u) (.bl false) .non (.ref pk) := by
      rw [putF_ne (Ne.symm nd50), putF_ne (Ne.symm nd51), putF_ne (Ne.symm nd52), putF_ne (Ne.symm nd53), putF_ne (Ne.symm nd54)]; rfl
    rw [p6]
    have eC : ∀ b o, HB b = some o → b ≠ x → upd HB x (.ins C dx (fldsD (.ref c1) (.ref N) (.ref u) (.bl false) .non (.ref pk))) b = some o := fun b o e n => (upd_ne n).trans e
    have fr : ∀ b o, H b = some o → b ≠ x → HB b = some o := fun b o e n => sB _ _ (fA _ _ (s7 _ _ (f6 _ _ (s5 _ _ (s4 _ _ (f3 _ _ (s2 _ _ (s1 _ _ e)) n))) n)) n)
    have free : ∀ b, b ≠ x → HA b = none → H b = none := fun b n z => by
      cases e : H b with
      | none => rfl
      | some o => rw [fA _ _ (s7 _ _ (f6 _ _ (s5 _ _ (s4 _ _ (f3 _ _ (s2 _ _ (s1 _ _ e)) n))) n)) n] at z; cases z
    have free6 : H u = none := by
      cases e : H u with
      | none => rfl
      | some o => rw [f6 _ _ (s5 _ _ (s4 _ _ (f3 _ _ (s2 _ _ (s1 _ _ e)) nxu))) nxu] at nu; cases nu
    have freeN : H N = none := by
      cases e : H N with
      | none => rfl
      | some o => rw [s4 _ _ (f3 _ _ (s2 _ _ (s1 _ _ e)) nxN)] at nN; cases nN
    refine k _ [x, c1, N, u, pk] ⟨dx, c1, N, u, pk, [], [], rfl, ⟨upd_same, eC _ _ (sB _ _ hcA) nxc, eC _ _ (sB _ _ hNA) nxN, eC _ _ (sB _ _ huA) nxu, .nil, eC _ _ hpk nxp, nd4.mpr ⟨⟨ncN, ncu, ncp⟩, ⟨nNu, nNp⟩, nup⟩, fun _ z => absurd rfl z⟩⟩ (fun b hb => ?_) fun b o e n => ?_
    · rcases mem5.mp hb with rfl | rfl | rfl | rfl | rfl
      · exact .inl rfl
      · exact .inr (s1.free nc1)
      · exact .inr freeN
      · exact .inr free6
      · exact .inr (free _ nxp npk)
    · exact eC _ _ (fr b o e (by simpa using n)) (by simpa using n)
end
end RS
set_option Elab.async false
set_option maxRecDepth 100000
set_option maxHeartbeats 4000000
namespace RS
open PySem PySem.Spec PyProof.Rows L2 GX
/-! ### d.update(pairs), the pairs in a list -/
theorem pairs_of {P : Program} {w : World} {H : Hp} {h : Heap} (ok : HOk P w H h) : ∀ (Ts : List Addr) (more : List (Key × V)), Ts.length = more.length → (∀ (j : Nat) (T : Addr) (kv : Key × V), Ts[j]? = some T → more[j]? = some kv → H T = some (.tup [kV kv.1, kv.2])) →
    ∃ (ps : List (Value × Value)) (rs : List (Key × Value)), ps.length = more.length ∧ rs.length = more.length ∧ KV more rs ∧ (∀ (j : Nat) (k v : Value), ps[j]? = some (k, v) → ∃ T, Ts[j]? = some T ∧ PairAt h T k v) ∧ ∀ (j : Nat) (k v : Value), ps[j]? = some (k, v) → ∃ k', rs[j]? = some (k', v) ∧ (mixKind P w).is k' k = true
  | [], [], _, _ => ⟨[], [], rfl, rfl, .nil, (fun j k v z => by simp at z), fun j k v z => by simp at z⟩
  | [], _ :: _, z, _ => by cases z
  | _ :: _, [], z, _ => by cases z
  | T :: Ts, kv :: more, hl, hp => by
    obtain ⟨ps, rs, l1, l2, rel, a, b⟩ := pairs_of ok Ts more (Nat.succ.inj hl) fun j T kv h1 h2 => hp (j + 1) T kv h1 h2
    have hT := hp 0 T kv rfl rfl
    obtain ⟨_, its, rv, o, h1, h2, n, h3⟩ := (show ObjOk P w H h T (.tup [kV kv.1, kv.2]) from ok T _ hT)
    cases rv with
    | @cons _ u1 _ _ r1 rr =>
      cases rr with
      | @cons _ u2 _ _ r2 rr =>
        cases rr
        refine ⟨(u1, u2) :: ps, (kv.1, u2) :: rs, by simp [l1], by simp [l2], .cons ⟨rfl, r2⟩ rel, fun j k v z => ?_, fun j k v z => ?_⟩
        · cases j with
          | zero =>
            cases z
            exact ⟨T, rfl, .inl ⟨o, h1, h2, n, h3⟩⟩
          | succ j => exact a j k v z
        · cases j with
          | zero =>
            cases z
            exact ⟨kv.1, rfl, kV_is r1⟩
          | succ j => exact b j k v z
theorem refs_vals : ∀ {Ts : List Addr} {its : List Value}, Vals (Ts.map V.ref) its → its = Ts.map Value.ref
  | [], _, .nil => rfl
  | T :: Ts, _, .cons r t => by
    cases (show _ = Value.ref T from r)
    rw [refs_vals t]
    rfl
def tDUpd (td ty : TE) : TE := fun σ H Q => td σ H fun x H1 => ∃ a, x = .ref a ∧ IsD H1 a ∧ ty σ H1 fun y H2 => ∃ (l : Addr) (Ts : List Addr) (kvs more : List (Key × V)), y = .ref l ∧ H2 a = some (.dK kvs) ∧ H2 l = some (.lst (Ts.map V.ref)) ∧ Ts.length = more.length ∧
  (∀ (j : Nat) (T : Addr) (kv : Key × V), Ts[j]? = some T → more[j]? = some kv → H2 T = some (.tup [kV kv.1, kv.2])) ∧ kvs.length + more.length ≤ sizeLine ∧ Q .non (upd H2 a (.dK (mergeK kvs more)))
theorem pe_dupdL {X : Cx} {o e : Expr} {apos cpos : Pos} {td ty : TE} (hc : X.calm = true) (ho : PE X o td) (he : PE X e ty) (m : M1 X o "update" apos e cpos) : PE X (.Call (.Attribute o "update" apos) [e] [] cpos) (tDUpd td ty) := by
  refine ⟨fun pins s σ H Q I h => ?_⟩
  refine wpAny_Call_method m.base m.few m.line PySem.F.plainAttrs_dict PySem.F.slot_dict_update PySem.F.type_dict_update (thn (ho.run pins s σ H _ I h) fun u s1 ⟨x, H1, I1, rx, a, ex, d, q1⟩ => ?_)
  subst ex
  obtain rfl : u = Value.ref a := rx
  obtain ⟨t1, t2, _⟩ := isD_at I1 d
  refine ⟨t1, t2, ?_⟩
  rw [m.trees]
  refine Calls.callWith_builtin rfl (Calls.evalArgs_plain (Calls.spliced_cons (thn (he.run pins s1 σ H1 _ I1 q1) fun iv s2 ⟨y, H2, I2, ry, l, Ts, kvs, more, ey, ha, hl, hlen, hT, hz, q2⟩ => Calls.spliced_nil ?_)))
  subst ey
  obtain rfl : iv = Value.ref l := ry
  obtain ⟨z, hd, vs, rel, dd⟩ := dk_of I2.hok ha
  obtain ⟨its, n, r, hlo, _⟩ := I2.lst hl
  obtain ⟨ps, rs, lp, lr, kv, pa, pb⟩ := pairs_of I2.hok Ts more hlen hT
  have hi := refs_vals r
  have items : PairItems s2.heap its.toArray (fun j => (Ts[j]?).getD 0) ps := by
    refine ⟨by rw [hi]; simp [lp, hlen], fun j k v hj => ?_⟩
    obtain ⟨T, hTj, hp⟩ := pa j k v hj
    refine ⟨by rw [hi]; simp [hTj], ?_⟩
    show PairAt _ (Ts[j]?.getD 0) k v
    rw [hTj]
    exact hp
  have hal : a ≠ l := fun z => by rw [z, hl] at ha; cases ha
  refine call_update_pairs (knd := mixKind X.prog X.w) (acc := vs) (kvs := rs) (PairArg.list (prog := X.prog) (w := X.w) l its.toArray (fun j => (Ts[j]?).getD 0) ps) (I2.ok.hd hc) ⟨⟨_, n, hlo, rfl, rfl, rfl⟩, items⟩ (fun hm => ?_) ⟨by rw [lr, lp], fun i key v hv => pb i key v hv⟩ dd (by rw [← rel.length, lp]; exact hz) fun h' tk hd' hk => ?_
  · rcases List.mem_cons.mp hm with e | hm
    · exact hal e
    · obtain ⟨j, hj, e⟩ := List.mem_map.mp hm
      have hj := List.mem_range.mp hj
      rw [lp, ← hlen] at hj
      obtain ⟨T, hTj⟩ : ∃ T, Ts[j]? = some T := ⟨_, List.getElem?_eq_getElem hj⟩
      obtain ⟨kvj, hkj⟩ : ∃ kv, more[j]? = some kv := ⟨_, List.getElem?_eq_getElem (by omega)⟩
      have := hT j T kvj hTj hkj
      rw [hTj] at e
      have e : T = a := e
      rw [e, ha] at this
      cases this
  · refine ⟨.non, _, ?_, rfl, q2⟩
    refine I2.write (x := a) (e := a) (by rw [ha]; exact True.intro) (.inl rfl) (fun b u hb q => hk b u hb (by simp) q) ?_ (dk_new ?_ hd (kv.merge rel) hd')
    · obtain ⟨q, _, _, hq, _⟩ := hd'
      exact ⟨q, hq⟩
    · have := length_mergeK more kvs
      omega
end RS
set_option Elab.async false
set_option maxRecDepth 100000
set_option maxHeartbeats 4000000
namespace RS
open PySem PySem.Spec PyProof.Rows L2 GX
section
variable {P : Program} {w : World} {K : PySem.W.Frag} {mg : Str → Option Value} {base : Heap}
theorem scTake : FnScope ["_law_box", "_law_many", "_law_number"] ["_law_box", "_law_many"] (defScope sTake) := ⟨rfl, rfl, rfl, by decide +kernel, rfl, by decide +kernel, by decide +kernel⟩
def spTake : Sp := fun vs H Q _ => ∃ (B L : Addr) (m : Int), vs = [.ref B, .int m] ∧ BoxAt H B L ∧ 1 ≤ m ∧ m ≤ 1000000000000000000 ∧
  ∀ (H' : Hp) (k : Int), SameX B L H H' → BoxAt H' B L → 0 ≤ k → k < m → Q (.int k) H'
theorem eqv_nil (ds : List PyData) : PyData.eqv (.list ds) (.list []) = ds.isEmpty := by
  cases ds <;> simp [PyData.eqv, PyData.eqvAll]
theorem shaped_ints (ms : List Int) : SeqAt.shaped (.list (ms.map .int)) = true := by
  have h1 : PyData.canLayAll0 (ms.map .int) = true := by
    induction ms with
    | nil => simp [PyData.canLayAll0]
    | cons m ms ih => simp [PyData.canLayAll0, PyData.canLay0, ih]
  have h2 : PyData.depthAll (ms.map .int) = 0 := depth0 fun d hd => by
    obtain ⟨n, _, rfl⟩ := List.mem_map.mp hd
    simp [PyData.depth]
  simp [SeqAt.shaped, PyData.canLay0, PyData.depth, h1, h2]
theorem take_ok {c : Addr} (D : DefAt K mg "_law_take" sTake c) : Cal P w K mg base CX0 1 "_law_take" ["_law_box", "_law_many"] spTake := by
  have sc := scTake
  refine def_ok0 D sc (fun vs H Q E h => ?_) (fun _ _ _ _ _ _ us hl => match us, hl with | [_, _], _ => rfl) (fun f A outer s H vs Q E hr h => ?_)
  · obtain ⟨B, L, m, rfl, _⟩ := h
    rfl
  · obtain ⟨B, L, m, rfl, ⟨nBL, ⟨st, hB⟩, ⟨ms, hL⟩⟩, hm, hm2, k⟩ := h
    have hu := hr.units
    refine ⟨_, (pss_cons (ps_if (pt_cmpR (op_eqD hu) (pe_ix ix_list (pv 0) pe_int (fun _ _ => rfl)) (pe_lst pa_nil) (nomark _)) (pss_cons (ps_asg (pe_op op_mod (pe_op op_mul (pe_ix ix_list (pv 0) pe_int (fun _ _ => rfl)) pe_int) pe_int) (pg_sub (pv 0) pe_int set_list)) (pss_one (ps_ret (pe_op op_mod (pe_op op_fdiv (pe_ix ix_list (pv 0) pe_int (fun _ _ => rfl)) pe_int) (pv 1))))) pss_nil) (pss_cons (ps_set (i := 2) sc.nd rfl (Or.inl rfl) (pe_ix ix_list (pe_ix ix_list (pv 0) pe_int (fun _ _ => rfl)) pe_int (fun _ _ => rfl))) (pss_cons (ps_asg (pe_op op_fdivW (pv 2) (pv 1)) (pg_sub (pe_ix ix_list (pv 0) pe_int (fun _ _ => rfl)) pe_int set_list)) (pss_cons (ps_if ((pw_or (pt_cmpR op_eq (pe_ix ix_list (pe_ix ix_list (pv 0) pe_int (fun _ _ => rfl)) pe_int (fun _ _ => rfl)) pe_int (nomark _)) (pw_or1 (pt_cmpR op_eq (pe_ix ix_list (pe_ix ix_list (pv 0) pe_int (fun _ _ => rfl)) pe_int (fun _ _ => rfl)) (pe_un un_neg pe_int) (nomark _)))).pt) (pss_one (ps_expr (pe_bm PySem.F.plainAttrs_list PySem.F.slot_list_pop PySem.F.type_list_pop mt_popAt (pe_ix ix_list (pv 0) pe_int (fun _ _ => rfl)) (pa_cons pe_int pa_nil)))) pss_nil) (pss_one (ps_ret (pe_op op_mod (pv 2) (pv 1)))))))), ?_⟩
    refine ⟨_, rfl, B, _, _, _, rfl, rfl, SqL.of hB, rfl, Nat.zero_le _, fun e0 he0 => ?_⟩
    have s0 : Same H (upd H e0 (.lst [])) := fun b o e => by
      rw [upd_ne (ne_of_none e he0)]
      exact e
    refine ⟨.list (ms.map .int), .list [], .lst (s0.seq (SqL.of hL)) dpInts, .lst (SqL.of upd_same) .nil, ?_, rfl, _, rfl, ?_⟩
    · exact shaped_ints ms
    rw [eqv_nil]
    have hB0 := s0 _ _ hB
    have hL0 := s0 _ _ hL
    cases ms with
    | nil =>
      refine iteT ⟨_, rfl, B, _, _, _, rfl, rfl, SqL.of hB0, atI_nat (j := 1) rfl, _, _, rfl, rfl, .inr ⟨by decide, by decide⟩, ?_⟩
      refine ⟨_, _, rfl, rfl, (by show (0 : Int) < 2147483647; decide), ?_⟩
      refine ⟨_, rfl, B, _, _, 1, rfl, rfl, hB0, rfl, ?_⟩
      refine ⟨_, rfl, B, _, _, _, rfl, rfl, SqL.of upd_same, atI_nat (j := 1) rfl, ?_⟩
      refine ⟨_, _, rfl, rfl, ⟨by decide, by decide⟩, _, rfl, _, _, rfl, rfl, (by show (0 : Int) < m; omega), ?_⟩
      refine k _ _ (fun b o h1 h2 e => ?_) ⟨nBL, ⟨_, upd_same⟩, ⟨[], (upd_ne (Ne.symm nBL)).trans hL0⟩⟩ (Int.emod_nonneg _ (by omega)) (Int.emod_lt_of_pos _ (by omega))
      rw [upd_ne h1]
      exact s0 _ _ e
    | cons m0 ms =>
      refine iteF ⟨_, rfl, B, _, _, _, rfl, rfl, SqL.of hB0, atI_nat (j := 0) rfl, L, _, _, _, rfl, rfl, SqL.of hL0, atI_nat (j := 0) rfl, ?_⟩
      refine ⟨_, rfl, _, rfl, _, _, rfl, rfl, wide_div (b := 64) (by omega) (by show m.natAbs < 18446744073709551616; omega) (by decide) (by decide), ?_⟩
      refine ⟨_, rfl, B, _, _, _, rfl, rfl, SqL.of hB0, atI_nat (j := 0) rfl, L, _, _, 0, rfl, rfl, hL0, by simp [ixN], ?_⟩
      have hB1 : upd (upd H e0 (.lst [])) L (.lst (((m0 :: ms).map V.int).set 0 (.int (m0 / m)))) B = some (.lst [.ref L, .int st]) := (upd_ne nBL).trans hB0
      refine ⟨_, rfl, B, _, _, _, rfl, rfl, SqL.of hB1, atI_nat (j := 0) rfl, L, _, _, _, rfl, rfl, SqL.of upd_same, atI_nat (j := 0) rfl, ?_⟩
      have sx : ∀ (u : HO) (b : Addr) (o : HO), b ≠ B → b ≠ L → H b = some o → upd (upd H e0 (.lst [])) L u b = some o := fun u b o h1 h2 e => by
        rw [upd_ne h2]
        exact s0 _ _ e
      have ret : ∀ (H2 : Hp), SameX B L H H2 → BoxAt H2 B L → (∃ v, (some (V.int m0) : Option V) = some v ∧ v = .int m0) → Q (.int (m0 % m)) H2 := fun H2 s2 b2 _ => k H2 _ s2 b2 (Int.emod_nonneg _ (by omega)) (Int.emod_lt_of_pos _ (by omega))
      have box1 : BoxAt (upd (upd H e0 (.lst [])) L (.lst (V.int (m0 / m) :: ms.map V.int))) B L := ⟨nBL, ⟨_, hB1⟩, ⟨m0 / m :: ms, upd_same⟩⟩
      have box2 : BoxAt (upd (upd (upd H e0 (.lst [])) L (.lst (V.int (m0 / m) :: ms.map V.int))) L (.lst (ms.map V.int))) B L := ⟨nBL, ⟨_, (upd_ne nBL).trans hB1⟩, ⟨ms, upd_same⟩⟩
      have sx2 : SameX B L H (upd (upd (upd H e0 (.lst [])) L (.lst (V.int (m0 / m) :: ms.map V.int))) L (.lst (ms.map V.int))) := fun b o h1 h2 e => by
        rw [upd_ne h2]
        exact sx _ b o h1 h2 e
      have sk : seqIndex? 0 (V.int (m0 / m) :: ms.map V.int).length = some 0 := by
        simp [seqIndex?]
      refine ⟨rfl, _, rfl, ?_⟩
      refine ite2 (fun h1 => ?_) (fun h1 => ?_)
      · refine iteT ⟨_, rfl, B, _, _, _, rfl, rfl, SqL.of hB1, atI_nat (j := 0) rfl, .inl ⟨rfl, _, SqL.of upd_same⟩, L, _, 0, 0, _, rfl, rfl, upd_same, by decide, by decide, sk, rfl, ?_⟩
        exact ⟨_, rfl, _, rfl, _, _, rfl, rfl, (by show (0 : Int) < m; omega), ret _ sx2 box2 ⟨_, rfl, rfl⟩⟩
      · refine ⟨_, rfl, B, _, _, _, rfl, rfl, SqL.of hB1, atI_nat (j := 0) rfl, L, _, _, _, rfl, rfl, SqL.of upd_same, atI_nat (j := 0) rfl, ?_⟩
        refine ⟨_, rfl, rfl, _, rfl, ?_⟩
        refine ite2 (fun h1 => ?_) (fun h1 => ?_)
        · refine ⟨_, rfl, B, _, _, _, rfl, rfl, SqL.of hB1, atI_nat (j := 0) rfl, .inl ⟨rfl, _, SqL.of upd_same⟩, L, _, 0, 0, _, rfl, rfl, upd_same, by decide, by decide, sk, rfl, ?_⟩
          exact ⟨_, rfl, _, rfl, _, _, rfl, rfl, (by show (0 : Int) < m; omega), ret _ sx2 box2 ⟨_, rfl, rfl⟩⟩
        · exact ⟨_, rfl, _, rfl, _, _, rfl, rfl, (by show (0 : Int) < m; omega), ret _ (sx _) box1 ⟨_, rfl, rfl⟩⟩
end
end RS
set_option Elab.async false
set_option maxRecDepth 100000
set_option maxHeartbeats 4000000
set_option pp.maxSteps 400
namespace RS
open PySem PySem.Spec PyProof.Rows L2 GX
theorem le64D {n : Nat} (h : n + 64 < cLine) : n + 1 < cLine := by omega
theorem ok10 : ¬ ((Sum.inr ("pending" : Str) : Key) = Sum.inr ("settled" : Str)) := fun z => absurd (Sum.inr.inj z) (by decide +kernel)
theorem ok20 : ¬ ((Sum.inr ("left" : Str) : Key) = Sum.inr ("settled" : Str)) := fun z => absurd (Sum.inr.inj z) (by decide +kernel)
theorem ok30 : ¬ ((Sum.inr ("picks" : Str) : Key) = Sum.inr ("settled" : Str)) := fun z => absurd (Sum.inr.inj z) (by decide +kernel)
theorem ok40 : ¬ ((Sum.inr ("fallen" : Str) : Key) = Sum.inr ("settled" : Str)) := fun z => absurd (Sum.inr.inj z) (by decide +kernel)
theorem ok21 : ¬ ((Sum.inr ("left" : Str) : Key) = Sum.inr ("pending" : Str)) := fun z => absurd (Sum.inr.inj z) (by decide +kernel)
theorem ok31 : ¬ ((Sum.inr ("picks" : Str) : Key) = Sum.inr ("pending" : Str)) := fun z => absurd (Sum.inr.inj z) (by decide +kernel)
theorem ok41 : ¬ ((Sum.inr ("fallen" : Str) : Key) = Sum.inr ("pending" : Str)) := fun z => absurd (Sum.inr.inj z) (by decide +kernel)
theorem ok32 : ¬ ((Sum.inr ("picks" : Str) : Key) = Sum.inr ("left" : Str)) := fun z => absurd (Sum.inr.inj z) (by decide +kernel)
theorem ok42 : ¬ ((Sum.inr ("fallen" : Str) : Key) = Sum.inr ("left" : Str)) := fun z => absurd (Sum.inr.inj z) (by decide +kernel)
theorem ok43 : ¬ ((Sum.inr ("fallen" : Str) : Key) = Sum.inr ("picks" : Str)) := fun z => absurd (Sum.inr.inj z) (by decide +kernel)
/-- the law's own table of a disk -/
def ownL (s p l k : V) (b : Bool) : List (Key × V) := [(.inr "settled", s), (.inr "pending", p), (.inr "left", l), (.inr "picks", k), (.inr "fallen", .bl b)]
section
variable {s p l k z : V} {b c : Bool}
theorem ov0 : valV (ownL s p l k b) (Sum.inr ("settled" : Str)) = some s := (valV_pos rfl)
theorem ov1 : valV (ownL s p l k b) (Sum.inr ("pending" : Str)) = some p := ((valV_neg (Ne.symm ok10)).trans (valV_pos rfl))
theorem ov2 : valV (ownL s p l k b) (Sum.inr ("left" : Str)) = some l := ((valV_neg (Ne.symm ok20)).trans ((valV_neg (Ne.symm ok21)).trans (valV_pos rfl)))
theorem ov3 : valV (ownL s p l k b) (Sum.inr ("picks" : Str)) = some k := ((valV_neg (Ne.symm ok30)).trans ((valV_neg (Ne.symm ok31)).trans ((valV_neg (Ne.symm ok32)).trans (valV_pos rfl))))
theorem ov4 : valV (ownL s p l k b) (Sum.inr ("fallen" : Str)) = some (.bl b) := ((valV_neg (Ne.symm ok40)).trans ((valV_neg (Ne.symm ok41)).trans ((valV_neg (Ne.symm ok42)).trans ((valV_neg (Ne.symm ok43)).trans (valV_pos rfl)))))
theorem op0 : putK (ownL s p l k b) (Sum.inr ("settled" : Str)) z = ownL z p l k b := by
  unfold putK
  rw [valV_any, ov0]
  refine Eq.trans (if_pos (by rfl)) ?_
  unfold ownL
  simp only [List.map_cons, List.map_nil]
  rw [if_neg ok10, if_neg ok20, if_neg ok30, if_neg ok40, if_pos trivial]
theorem op1 : putK (ownL s p l k b) (Sum.inr ("pending" : Str)) z = ownL s z l k b := by
  unfold putK
  rw [valV_any, ov1]
  refine Eq.trans (if_pos (by rfl)) ?_
  unfold ownL
  simp only [List.map_cons, List.map_nil]
  rw [if_neg (Ne.symm ok10), if_neg ok21, if_neg ok31, if_neg ok41, if_pos trivial]
theorem op2 : putK (ownL s p l k b) (Sum.inr ("left" : Str)) z = ownL s p z k b := by
  unfold putK
  rw [valV_any, ov2]
  refine Eq.trans (if_pos (by rfl)) ?_
  unfold ownL
  simp only [List.map_cons, List.map_nil]
  rw [if_neg (Ne.symm ok20), if_neg (Ne.symm ok21), if_neg ok32, if_neg ok42, if_pos trivial]
theorem op3 : putK (ownL s p l k b) (Sum.inr ("picks" : Str)) z = ownL s p l z b := by
  unfold putK
  rw [valV_any, ov3]
  refine Eq.trans (if_pos (by rfl)) ?_
  unfold ownL
  simp only [List.map_cons, List.map_nil]
  rw [if_neg (Ne.symm ok30), if_neg (Ne.symm ok31), if_neg (Ne.symm ok32), if_neg ok43, if_pos trivial]
theorem op4 : putK (ownL s p l k b) (Sum.inr ("fallen" : Str)) (.bl c) = ownL s p l k c := by
  unfold putK
  rw [valV_any, ov4]
  refine Eq.trans (if_pos (by rfl)) ?_
  unfold ownL
  simp only [List.map_cons, List.map_nil]
  rw [if_neg (Ne.symm ok40), if_neg (Ne.symm ok41), if_neg (Ne.symm ok42), if_neg (Ne.symm ok43), if_pos trivial]
theorem own_make : mergeK [] (ownL s p l k b) = ownL s p l k b := by
  unfold mergeK ownL
  simp only [List.foldl_cons, List.foldl_nil]
  rw [putK_new _ valV_nil]
  simp only [List.nil_append, List.cons_append]
  rw [putK_new _ ((valV_neg (Ne.symm ok10)).trans valV_nil)]
  simp only [List.nil_append, List.cons_append]
  rw [putK_new _ ((valV_neg (Ne.symm ok20)).trans ((valV_neg (Ne.symm ok21)).trans valV_nil))]
  simp only [List.nil_append, List.cons_append]
  rw [putK_new _ ((valV_neg (Ne.symm ok30)).trans ((valV_neg (Ne.symm ok31)).trans ((valV_neg (Ne.symm ok32)).trans valV_nil)))]
  simp only [List.nil_append, List.cons_append]
  rw [putK_new _ ((valV_neg (Ne.symm ok40)).trans ((valV_neg (Ne.symm ok41)).trans ((valV_neg (Ne.symm ok42)).trans ((valV_neg (Ne.symm ok43)).trans valV_nil))))]
  simp only [List.nil_append, List.cons_append]
end
end RS
set_option Elab.async false
set_option maxRecDepth 100000
set_option maxHeartbeats 4000000
set_option pp.maxSteps 400
namespace RS
open PySem PySem.Spec PyProof.Rows L2 GX
abbrev kS : Key := .inr "settled"
abbrev kP : Key := .inr "pending"
abbrev kL : Key := .inr "left"
abbrev kK : Key := .inr "picks"
abbrev kF : Key := .inr "fallen"
def lftV (o : Option Nat) : V := match o with
  | none => .non
  | some n => .int (n : Nat)
structure OwnIn (H : Hp) (o Ls Lp Lk : Addr) (ts : List Addr) (S : Dk) : Prop where
  o : H o = some (.dK (ownL (.ref Ls) (.ref Lp) (lftV S.left) (.ref Lk) S.fallen))
  s : H Ls = some (.lst S.set)
  p : H Lp = some (.lst (ts.map V.ref))
  pe : Pens H ts S.pen
  k : H Lk = some (.lst (S.picks.map V.bl))
  nd : Ls ≠ Lp ∧ Ls ≠ Lk ∧ Lp ≠ Lk
def OwnAt (H : Hp) (o : Addr) (G : List Addr) (S : Dk) : Prop := ∃ Ls Lp Lk ts, G = [o, Ls, Lp, Lk] ∧ OwnIn H o Ls Lp Lk ts S
theorem OwnIn.no {H : Hp} {o Ls Lp Lk : Addr} {ts : List Addr} {S : Dk} (d : OwnIn H o Ls Lp Lk ts S) : o ≠ Ls ∧ o ≠ Lp ∧ o ≠ Lk := by
  have h := d.o
  refine ⟨fun z => ?_, fun z => ?_, fun z => ?_⟩
  · rw [z, d.s] at h; cases h
  · rw [z, d.p] at h; cases h
  · rw [z, d.k] at h; cases h
theorem OwnIn.notu {H : Hp} {o Ls Lp Lk : Addr} {ts : List Addr} {S : Dk} (d : OwnIn H o Ls Lp Lk ts S) : ∀ b ∈ [o, Ls, Lp, Lk], NoTu H b := fun b h => by
  simp only [List.mem_cons, List.not_mem_nil, or_false] at h
  rcases h with rfl | rfl | rfl | rfl
  · exact ⟨_, d.o, notup_dk⟩
  · exact ⟨_, d.s, notup_lst⟩
  · exact ⟨_, d.p, notup_lst⟩
  · exact ⟨_, d.k, notup_lst⟩
theorem OwnAt.notu {H : Hp} {o : Addr} {G : List Addr} {S : Dk} (d : OwnAt H o G S) : ∀ b ∈ G, NoTu H b := by
  obtain ⟨Ls, Lp, Lk, ts, rfl, d⟩ := d
  exact d.notu
theorem OwnAt.fr {H H' : Hp} {o : Addr} {F G : List Addr} {S : Dk} (d : OwnAt H o F S) (f : FrF G H H') (k : KpT H H') (n : ∀ b ∈ F, b ∉ G) : OwnAt H' o F S := by
  obtain ⟨Ls, Lp, Lk, ts, rfl, d⟩ := d
  exact ⟨Ls, Lp, Lk, ts, rfl, f _ _ d.o (n _ (by simp)), f _ _ d.s (n _ (by simp)), f _ _ d.p (n _ (by simp)), d.pe.kt k, f _ _ d.k (n _ (by simp)), d.nd⟩
theorem OwnAt.same {H H' : Hp} {o : Addr} {F : List Addr} {S : Dk} (d : OwnAt H o F S) (s : Same H H') : OwnAt H' o F S := d.fr (G := []) (.of s) (.of s) (fun _ _ z => nomatch z)
/-- the law's table is the other one, all else stays -/
def AfterO (H : Hp) (o : Addr) (G : List Addr) (S : Dk) (R : Hp → Prop) : Prop := ∀ H' G', OwnAt H' o G' S → FrF G H H' → News H G G' → R H'
theorem AfterO.step {H H1 : Hp} {x : Addr} {F F1 : List Addr} {S : Dk} {R : Hp → Prop} (k : AfterO H x F S R) (f : FrF F H H1) (n : News H F F1) : AfterO H1 x F1 S R := fun H' F' d f' n' => k H' F' d (f.trans f' n) (n.trans n' f)
theorem mem4 {a b c d e : Addr} : e ∈ [a, b, c, d] ↔ e = a ∨ e = b ∨ e = c ∨ e = d := by simp
section
variable {P : Program} {w : World} {K : PySem.W.Frag} {mg : Str → Option Value} {base : Heap}
theorem scMade : FnScope [] [] (defScope s__law_made) := ⟨rfl, rfl, rfl, by decide +kernel, rfl, by decide +kernel, by decide +kernel⟩
def spMade : Sp := fun vs H Q _ => vs = [] ∧ ∀ (H' : Hp) (o : Addr) (G : List Addr), Same H H' → OwnAt H' o G .new → (∀ b ∈ G, H b = none) → Q (.ref o) H'
theorem made_ok {c : Addr} (D : DefAt K mg "_law_made" s__law_made c) : Cal P w K mg base CX0 1 "_law_made" [] spMade := by
  have sc := scMade
  refine def_ok0 D sc (fun vs H Q E h => ?_) (fun _ _ _ _ _ _ us hl => match us, hl with | [], _ => rfl) (fun f A outer s H vs Q E hr h => ?_)
  · obtain ⟨rfl, _⟩ := h
    rfl
  · obtain ⟨rfl, k⟩ := h
    refine ⟨_, (pss_one (ps_ret (pe_disp (pps_cons pe_str (pe_op op_rep (pe_lst (pa_cons pe_non pa_nil)) pe_int) (pps_cons pe_str (pe_lst pa_nil) (pps_cons pe_str pe_non (pps_cons pe_str (pe_lst pa_nil) (pps_cons pe_str pe_bl pps_nil))))) (by rfl) (by rfl) (by simp) (by decide)))), ?_⟩
    intro o no
    have s1 := sameNew (o := .dK []) (Same.refl H) no
    have h1 : upd H o (.dK []) o = some (.dK []) := upd_same
    generalize upd H o (.dK []) = H1 at s1 h1 ⊢
    have rep : (List.replicate (600 : Int).toNat [V.non]).flatten = List.replicate 600 V.non := by
      show (List.replicate 600 [V.non]).flatten = _
      generalize 600 = q
      induction q with
      | zero => rfl
      | succ q ih => rw [List.replicate_succ, List.flatten_cons, ih, List.replicate_succ]; rfl
    refine ⟨by show 1 ≤ sizeLine; decide, fun l1 nl1 => ?_⟩
    have s2 := sameNew (o := .lst [.non]) (Same.refl H1) nl1
    have hl1 : upd H1 l1 (.lst [.non]) l1 = some (.lst [.non]) := upd_same
    generalize upd H1 l1 (.lst [.non]) = H2 at s2 hl1 ⊢
    refine ⟨l1, 600, _, rfl, rfl, hl1, by decide, by decide, by show 1 * 600 ≤ sizeLine; decide, fun Ls nLs => ?_⟩
    rw [rep]
    have s3 := sameNew (o := .lst (List.replicate 600 V.non)) (Same.refl H2) nLs
    have hLs : upd H2 Ls (.lst (List.replicate 600 V.non)) Ls = some (.lst (List.replicate 600 V.non)) := upd_same
    generalize upd H2 Ls (.lst (List.replicate 600 V.non)) = H3 at s3 hLs ⊢
    refine ⟨Nat.zero_le _, fun Lp nLp => ?_⟩
    have n1 : Ls ≠ Lp := fun z => by rw [← z, hLs] at nLp; cases nLp
    have s4 := sameNew (o := .lst []) (Same.refl H3) nLp
    have hLp : upd H3 Lp (.lst []) Lp = some (.lst []) := upd_same
    generalize upd H3 Lp (.lst []) = H4 at s4 hLp ⊢
    refine ⟨Nat.zero_le _, fun Lk nLk => ?_⟩
    have hLs4 := s4 _ _ hLs
    have n2 : Ls ≠ Lk := fun z => by rw [← z, hLs4] at nLk; cases nLk
    have n3 : Lp ≠ Lk := fun z => by rw [← z, hLp] at nLk; cases nLk
    have s5 := sameNew (o := .lst []) (Same.refl H4) nLk
    have hLk : upd H4 Lk (.lst []) Lk = some (.lst []) := upd_same
    generalize upd H4 Lk (.lst []) = H5 at s5 hLk ⊢
    have s15 := ((s2.trans s3).trans s4).trans s5
    have ho5 := s15 _ _ h1
    refine ⟨ho5, ownL (.ref Ls) (.ref Lp) .non (.ref Lk) false, rfl, by show 5 ≤ 15; decide, ?_⟩
    rw [own_make]
    have fo : ∀ b u, H5 b = some u → b ≠ o → upd H5 o (.dK (ownL (.ref Ls) (.ref Lp) .non (.ref Lk) false)) b = some u := fun b u e n => (upd_ne n).trans e
    have nso : Ls ≠ o := fun z => by rw [z, s2 _ _ h1] at nLs; cases nLs
    have npo : Lp ≠ o := fun z => by rw [z, s3 _ _ (s2 _ _ h1)] at nLp; cases nLp
    have nko : Lk ≠ o := fun z => by rw [z, s4 _ _ (s3 _ _ (s2 _ _ h1))] at nLk; cases nLk
    refine k _ o [o, Ls, Lp, Lk] (fun b u e => ?_) ⟨Ls, Lp, Lk, [], rfl, upd_same, fo _ _ (s5 _ _ hLs4) nso, fo _ _ (s5 _ _ hLp) npo, .nil, fo _ _ hLk nko, n1, n2, n3⟩ fun b hb => ?_
    · exact fo _ _ (s15 _ _ (s1 _ _ e)) (ne_of_none e no)
    · rcases mem4.mp hb with rfl | rfl | rfl | rfl
      · exact no
      · exact (s1.trans s2).free nLs
      · exact ((s1.trans s2).trans s3).free nLp
      · exact (((s1.trans s2).trans s3).trans s4).free nLk
theorem scFall : FnScope ["_law_own", "_law_picks", "_law_k", "_law_block", "_law_what_here"] ["_law_own", "_law_picks"] (defScope s__law_fall) := ⟨rfl, rfl, rfl, by decide +kernel, rfl, by decide +kernel, by decide +kernel⟩
def spFall : Sp := fun vs H Q _ => ∃ (o pA : Addr) (G : List Addr) (S : Dk) (n : Nat) (bs : List Bool), vs = [.ref o, .ref pA] ∧ OwnAt H o G S ∧ Wf n S ∧ n ≤ 200 ∧ bs.length ≤ 200 ∧ H pA = some (.lst (bs.map V.bl)) ∧ (∀ Ls, G[1]? = some Ls → pA ≠ Ls) ∧ AfterO H o G (S.fall bs) fun H' => Q .non H'
theorem fall_ok {c : Addr} (D : DefAt K mg "_law_fall" s__law_fall c) (T : Txt K mg) : Cal P w K mg base CX0 1 "_law_fall" ["_law_own", "_law_picks"] spFall := by
  have sc := scFall
  refine def_ok0 D sc (fun vs H Q E h => ?_) (fun _ _ _ _ _ _ us hl => match us, hl with | [_, _], _ => rfl) (fun f A outer s H vs Q E hr h => ?_)
  · obtain ⟨o, pA, G, S, n, bs, rfl, _⟩ := h
    rfl
  · obtain ⟨o, pA, G, S, n, bs, rfl, ⟨Ls, Lp, Lk, ts, rfl, d⟩, wf, n2, lb, hp, np, k⟩ := h
    have hu := hr.units
    have np : pA ≠ Ls := np Ls rfl
    refine ⟨_, (pss_cons (ps_for PassesOwn.never rfl (pi_range1 (by rfl) T.range (pa_cons (pe_callB call_len_seq (by rfl) T.len PySem.boot_len (pa_cons (pe_dget (le64D hu) (pv 0) pe_str (by intro _ _; rfl)) pa_nil)) pa_nil)) (pg_name (i := 2) sc.nd rfl (Or.inl rfl)) (pss_cons (ps_asg (pe_ix ix_list (pe_dget (le64D hu) (pv 0) pe_str (by intro _ _; rfl)) (pv 2) (fun _ _ => rfl)) (pg_tup (by rfl) (pgs_cons (pg_name (i := 3) sc.nd rfl (Or.inl rfl)) (pgs_cons (pg_name (i := 4) sc.nd rfl (Or.inl rfl)) pgs_nil)))) (pss_one (ps_if (pt_truth (pe_ix ix_list (pe_op op_cat (pe_callTy call_list_of (by rfl) T.list_ (by decide +kernel) (pa_cons (pv 1) pa_nil)) (pe_op op_rep (pe_lst (pa_cons pe_bl pa_nil)) pe_int)) (pv 2) (fun _ _ => rfl)) (by intro _; rfl)) (pss_one (ps_asg (pv 4) (pg_sub (pe_dget (le64D hu) (pv 0) pe_str (by intro _ _; rfl)) (pv 3) set_list))) pss_nil)))) (pss_cons (ps_dput (le64D hu) (pv 0) pe_str (pe_lst pa_nil) (by rfl)) (pss_one (ps_dput (le64D hu) (pv 0) pe_str pe_bl (by rfl))))), ?_⟩
    have nx := d.no
    have lts := d.pe.len
    have lpen := wf.many
    refine ⟨_, rfl, o, _, rfl, (by rw [← ov1]; exact DGet.k (k := kP) d.o), Lp, _, rfl, .inl (SqL.of d.p), _, rfl, ?_⟩
    rw [List.length_map, lts]
    refine ⟨by omega, by omega, ?_⟩
    rw [Int.toNat_natCast]
    refine for_range (fun i σ H' => ∃ v2 v3 v4 : Option V, σ = [some (.ref o), some (.ref pA), v2, v3, v4] ∧ FrF [Ls] H H' ∧ H' Ls = some (.lst (fallL (S.pen.take i) bs S.set)))
      ⟨none, none, none, rfl, fun _ _ e _ => e, by rw [d.s]; cases bs <;> rfl⟩ ?_ ?_
    · rintro i σ H1 hi ⟨v2, v3, v4, rfl, fr, hs⟩
      dsimp only [gName, List.set]
      have ho := fr _ _ d.o (by simp [nx.1])
      have hp1 := fr _ _ d.p (by simp [Ne.symm d.nd.1])
      have hA := fr _ _ hp (by simp [np])
      obtain ⟨p, hpi⟩ : ∃ p, S.pen[i]? = some p := ⟨_, List.getElem?_eq_getElem hi⟩
      obtain ⟨t, hti⟩ : ∃ t, ts[i]? = some t := ⟨_, List.getElem?_eq_getElem (by omega)⟩
      have htt := d.pe.at_ i t p hti hpi
      have nta : t ≠ Ls := fun z => by rw [z, d.s] at htt; cases htt
      have ht1 := fr _ _ htt (by simp [nta])
      have hp3 := wf.pen p (List.mem_of_getElem? hpi)
      have ei : (0 : Int) + (i : Nat) = ((i : Nat) : Int) := by omega
      rw [ei]
      refine ⟨_, rfl, o, _, rfl, (by rw [← ov1]; exact DGet.k (k := kP) ho), _, rfl, Lp, _, i, .ref t, rfl, rfl, SqL.of hp1, atI_nat (by rw [List.getElem?_map, hti]; rfl), ?_⟩
      refine ⟨t, _, rfl, SqT.of ht1, rfl, _, _, rfl, _, _, rfl, rfl, ?_⟩
      refine ⟨_, rfl, pA, _, rfl, .inl (SqL.of hA), fun q1 nq1 => ?_⟩
      have s2 := sameNew (o := .lst (bs.map V.bl)) (Same.refl H1) nq1
      have hq1 : upd H1 q1 (.lst (bs.map V.bl)) q1 = some (.lst (bs.map V.bl)) := upd_same
      generalize upd H1 q1 (.lst (bs.map V.bl)) = H2 at s2 hq1 ⊢
      refine ⟨by show 1 ≤ sizeLine; decide, fun q2 nq2 => ?_⟩
      have s3 := sameNew (o := .lst [.bl false]) (Same.refl H2) nq2
      have hq2 : upd H2 q2 (.lst [.bl false]) q2 = some (.lst [.bl false]) := upd_same
      generalize upd H2 q2 (.lst [.bl false]) = H3 at s3 hq2 ⊢
      refine ⟨q2, 200, _, rfl, rfl, hq2, by decide, by decide, by show 1 * 200 ≤ sizeLine; decide, fun q3 nq3 => ?_⟩
      have rep : (List.replicate (200 : Int).toNat [V.bl false]).flatten = (List.replicate 200 false).map V.bl := by
        show (List.replicate 200 [V.bl false]).flatten = _
        generalize 200 = q
        induction q with
        | zero => rfl
        | succ q ih => rw [List.replicate_succ, List.flatten_cons, ih, List.replicate_succ]; rfl
      rw [rep]
      have s4 := sameNew (o := .lst ((List.replicate 200 false).map V.bl)) (Same.refl H3) nq3
      have hq3 : upd H3 q3 (.lst ((List.replicate 200 false).map V.bl)) q3 = some (.lst ((List.replicate 200 false).map V.bl)) := upd_same
      generalize upd H3 q3 (.lst ((List.replicate 200 false).map V.bl)) = H4 at s4 hq3 ⊢
      have big : (1000 : Nat) ≤ sizeLine := by decide
      refine ⟨q1, q3, _, _, rfl, rfl, s4 _ _ (s3 _ _ hq1), hq3, by rw [List.length_map, List.length_map, List.length_replicate]; omega, fun q4 nq4 => ?_⟩
      rw [← List.map_append]
      have s5 := sameNew (o := .lst ((bs ++ List.replicate 200 false).map V.bl)) (Same.refl H4) nq4
      have hq4 : upd H4 q4 (.lst ((bs ++ List.replicate 200 false).map V.bl)) q4 = some (.lst ((bs ++ List.replicate 200 false).map V.bl)) := upd_same
      generalize upd H4 q4 (.lst ((bs ++ List.replicate 200 false).map V.bl)) = H5 at s5 hq4 ⊢
      have s15 := ((s2.trans s3).trans s4).trans s5
      have gb : (bs ++ List.replicate 200 false)[i]? = some (bs.getD i false) := by
        by_cases h : i < bs.length
        · rw [List.getElem?_append_left h, List.getD_eq_getElem?_getD, List.getElem?_eq_getElem h]; rfl
        · rw [List.getElem?_append_right (by omega), List.getElem?_replicate, if_pos (by omega), List.getD_eq_getElem?_getD, List.getElem?_eq_none (by omega : bs.length ≤ i)]; rfl
      refine ⟨_, rfl, q4, _, i, .bl (bs.getD i false), rfl, rfl, SqL.of hq4, atI_nat (by rw [List.getElem?_map, gb]; rfl), _, rfl, ?_⟩
      have st : fallL (S.pen.take (i + 1)) bs S.set = if bs.getD i false = true then (fallL (S.pen.take i) bs S.set).set p.1 p.2 else fallL (S.pen.take i) bs S.set := by
        rw [List.take_add_one, hpi]
        show fallL (S.pen.take i ++ [p]) bs S.set = _
        rw [fallL_snoc, List.length_take, Nat.min_eq_left (Nat.le_of_lt hi)]
      cases hb : bs.getD i false with
      | false =>
        refine iteF ⟨_, _, _, rfl, fr.t (.of s15), ?_⟩
        rw [st, hb]
        exact s15 _ _ hs
      | true =>
        refine iteT ?_
        have hs5 := s15 _ _ hs
        refine ⟨_, rfl, _, rfl, o, _, rfl, (by rw [← ov0]; exact DGet.k (k := kS) (s15 _ _ ho)), _, rfl, Ls, _, _, p.1, rfl, rfl, hs5, ixN_natD (by rw [fallL_len, wf.len]; exact hp3), ?_⟩
        refine ⟨_, _, _, rfl, fr.t ((FrF.of s15).t (.put1 (by simp))), ?_⟩
        rw [st, hb, if_pos rfl]
        exact upd_same
    · rintro σ H1 ⟨v2, v3, v4, rfl, fr, hs⟩
      rw [List.take_length] at hs
      have ho := fr _ _ d.o (by simp [nx.1])
      refine ⟨Nat.zero_le _, fun q nq => ?_⟩
      have s2 := sameNew (o := .lst []) (Same.refl H1) nq
      have hq : upd H1 q (.lst []) q = some (.lst []) := upd_same
      generalize upd H1 q (.lst []) = H2 at s2 hq ⊢
      have nqo : q ≠ o := fun z => by rw [z, ho] at nq; cases nq
      have nqs : q ≠ Ls := fun z => by rw [z, hs] at nq; cases nq
      have hk1 := fr _ _ d.k (by simp [Ne.symm d.nd.2.1])
      have nqk : q ≠ Lk := fun z => by rw [z, hk1] at nq; cases nq
      have ho2 := s2 _ _ ho
      refine ⟨_, rfl, o, _, rfl, DPut.k (k := kP) ho2 (by show 5 < sizeLine; decide), ?_⟩
      rw [op1]
      refine ⟨_, rfl, o, _, rfl, DPut.k (k := kF) upd_same (by show 5 < sizeLine; decide), ?_⟩
      rw [op4, upd_upd]
      have eo : ∀ b u, H2 b = some u → b ≠ o → upd H2 o (.dK (ownL (.ref Ls) (.ref q) (lftV S.left) (.ref Lk) true)) b = some u := fun b u e n => (upd_ne n).trans e
      refine k _ [o, Ls, q, Lk] ⟨Ls, q, Lk, [], rfl, upd_same, eo _ _ (s2 _ _ hs) (Ne.symm nx.1), eo _ _ hq nqo, .nil, eo _ _ (s2 _ _ hk1) (Ne.symm nx.2.2), Ne.symm nqs, d.nd.2.1, nqk⟩ ?_ fun b hb => ?_
      · refine fun b u e n => ?_
        simp only [List.mem_cons, List.not_mem_nil, or_false, not_or] at n
        exact eo _ _ (s2 _ _ (fr _ _ e (by simp [n.2.1]))) n.1
      · rcases mem4.mp hb with rfl | rfl | rfl | rfl
        · exact .inl (by simp)
        · exact .inl (by simp)
        · by_cases z : b ∈ [o, Ls, Lp, Lk]
          · exact .inl z
          · exact .inr (fr.free nq (by simp [nqs]))
        · exact .inl (by simp)
theorem scCount : FnScope ["_law_own"] ["_law_own"] (defScope s__law_count) := ⟨rfl, rfl, rfl, by decide +kernel, rfl, by decide +kernel, by decide +kernel⟩
def spCount : Sp := fun vs H Q _ => ∃ (o : Addr) (G : List Addr) (S : Dk) (n : Nat), vs = [.ref o] ∧ OwnAt H o G S ∧ Wf n S ∧ n ≤ 200 ∧ AfterO H o G S.count.2 fun H' => Q (.bl S.count.1) H'
theorem count_ok {c : Addr} (D : DefAt K mg "_law_count" s__law_count c) (cF : Cal P w K mg base CX0 1 "_law_fall" ["_law_own", "_law_picks"] spFall) : Cal P w K mg base CX0 2 "_law_count" ["_law_own"] spCount := by
  have sc := scCount
  refine def_ok0 D sc (fun vs H Q E h => ?_) (fun _ _ _ _ _ _ us hl => match us, hl with | [_], _ => rfl) (fun f A outer s H vs Q E hr h => ?_)
  · obtain ⟨o, G, S, n, rfl, _⟩ := h
    rfl
  · obtain ⟨o, G, S, n, rfl, ⟨Ls, Lp, Lk, ts, rfl, d⟩, wf, n2, k⟩ := h
    have hu := hr.units
    refine ⟨_, (pss_cons (ps_if (pt_truth (pe_dget (le64D hu) (pv 0) pe_str (by intro _ _; rfl)) (by intro _; rfl)) (pss_one (ps_ret pe_bl)) pss_nil) (pss_cons (ps_if (pt_cmpR op_eq (pe_dget (le64D hu) (pv 0) pe_str (by intro _ _; rfl)) pe_int (nomark _)) (pss_cons (ps_expr (pe_c cF hr (by decide) (by rfl) pass0 (pa_cons (pv 0) (pa_cons (pe_dget (le64D hu) (pv 0) pe_str (by intro _ _; rfl)) pa_nil)))) (pss_one (ps_ret pe_bl))) pss_nil) (pss_cons (ps_if (pt_cmpR op_notN (pe_dget (le64D hu) (pv 0) pe_str (by intro _ _; rfl)) pe_non (nomark _)) (pss_one (ps_dput (le64D hu) (pv 0) pe_str (pe_op op_sub (pe_dget (le64D hu) (pv 0) pe_str (by intro _ _; rfl)) pe_int) (by rfl))) pss_nil) (pss_one (ps_ret pe_bl))))), ?_⟩
    have nx := d.no
    have dA : OwnAt H o [o, Ls, Lp, Lk] S := ⟨Ls, Lp, Lk, ts, rfl, d⟩
    refine ⟨_, rfl, o, .bl S.fallen, rfl, (by rw [← ov4]; exact DGet.k (k := kF) d.o), S.fallen, rfl, ?_⟩
    by_cases hf : S.fallen = true
    · have ec : S.count = (false, S) := if_pos hf
      rw [ec] at k
      rw [hf]
      exact iteT (k _ _ dA (fun _ _ e _ => e) .refl)
    have hf' : S.fallen = false := by simpa using hf
    rw [hf']
    refine iteF ?_
    refine ⟨_, rfl, o, _, rfl, (by rw [← ov2]; exact DGet.k (k := kL) d.o), ?_⟩
    cases hl : S.left with
    | none =>
      have ec : S.count = (true, S) := by unfold Dk.count; rw [if_neg hf, hl]
      rw [ec] at k
      refine ⟨rfl, _, rfl, iteF' (by simp [lftV]) ?_⟩
      refine ⟨_, rfl, o, _, rfl, (by rw [← ov2]; exact DGet.k (k := kL) d.o), rfl, _, rfl, ?_⟩
      rw [hl]
      exact iteF' (by simp [lftV]) (k _ _ dA (fun _ _ e _ => e) .refl)
    | some m =>
      cases m with
      | zero =>
        have ec : S.count = (false, S.fall S.picks) := by unfold Dk.count; rw [if_neg hf, hl]
        rw [ec] at k
        refine ⟨rfl, _, rfl, iteT' (by simp [lftV]) ?_⟩
        refine ⟨_, rfl, _, rfl, o, _, rfl, (by rw [← ov3]; exact DGet.k (k := kK) d.o), ?_⟩
        have := wf.pk
        refine ⟨o, Lk, [o, Ls, Lp, Lk], S, n, S.picks, rfl, dA, wf, n2, by omega, d.k, (fun L hL => ?_), fun H' G' d' f' n' => ?_⟩
        · have : Ls = L := Option.some.inj hL
          rw [← this]
          exact Ne.symm d.nd.2.1
        · exact k _ _ d' f' n'
      | succ m =>
        have ec : S.count = (true, { S with left := some m }) := by unfold Dk.count; rw [if_neg hf, hl]
        rw [ec] at k
        refine ⟨rfl, _, rfl, iteF' (by simp [lftV]; omega) ?_⟩
        refine ⟨_, rfl, o, _, rfl, (by rw [← ov2]; exact DGet.k (k := kL) d.o), rfl, _, rfl, ?_⟩
        rw [hl]
        refine iteT' (by simp [lftV]) ?_
        refine ⟨_, rfl, o, _, rfl, (by rw [← ov2]; exact DGet.k (k := kL) d.o), _, _, by rw [hl]; rfl, rfl, _, rfl, o, _, rfl, DPut.k (k := kL) d.o (by show 5 < sizeLine; decide), ?_⟩
        rw [op2]
        have eo : ∀ b u, H b = some u → b ≠ o → upd H o (.dK (ownL (.ref Ls) (.ref Lp) (.int (((m + 1 : Nat) : Int) - 1)) (.ref Lk) S.fallen)) b = some u := fun b u e n => (upd_ne n).trans e
        refine k _ _ ⟨Ls, Lp, Lk, ts, rfl, ?_, eo _ _ d.s (Ne.symm nx.1), eo _ _ d.p (Ne.symm nx.2.1), d.pe.kt (.put1 d.o notup_dk), eo _ _ d.k (Ne.symm nx.2.2), d.nd⟩ (.put1 (by simp)) .refl
        rw [upd_same]
        show some (HO.dK (ownL _ _ (.int (((m + 1 : Nat) : Int) - 1)) _ _)) = some (HO.dK (ownL _ _ (.int (m : Nat)) _ _))
        rw [show ((m + 1 : Nat) : Int) - 1 = (m : Nat) by omega]
end
end RS
set_option Elab.async false
set_option maxRecDepth 100000
set_option maxHeartbeats 4000000
namespace RS
open PySem PySem.Spec PyProof.Rows L2 GX
theorem BoxAt.nb {H : Hp} {B L a : Addr} (h : BoxAt H B L) (ha : H a = none) : a ≠ B ∧ a ≠ L := by
  obtain ⟨_, ⟨s, hb⟩, ⟨ms, hl⟩⟩ := h
  exact ⟨fun z => (by rw [z, hb] at ha; cases ha), fun z => (by rw [z, hl] at ha; cases ha)⟩
theorem BoxAt.upd_ {H : Hp} {B L a : Addr} {o : HO} (h : BoxAt H B L) (nB : a ≠ B) (nL : a ≠ L) : BoxAt (upd H a o) B L := by
  obtain ⟨n, ⟨s, hb⟩, ⟨ms, hl⟩⟩ := h
  exact ⟨n, ⟨s, (upd_ne (Ne.symm nB)).trans hb⟩, ⟨ms, (upd_ne (Ne.symm nL)).trans hl⟩⟩
theorem SameX.new {B L a : Addr} {H H' : Hp} {o : HO} (s : SameX B L H H') (ha : H a = none) : SameX B L H (upd H' a o) := fun b u h1 h2 e => by
  rw [upd_ne (ne_of_none e ha)]
  exact s b u h1 h2 e
theorem SameX.free {B L a : Addr} {H H' : Hp} (s : SameX B L H H') (_b : BoxAt H B L) (ha : H' a = none) (b' : BoxAt H' B L) : H a = none := by
  cases e : H a with
  | none => rfl
  | some o =>
    obtain ⟨n1, n2⟩ := b'.nb ha
    rw [s a o n1 n2 e] at ha
    cases ha
theorem ix_listC {X : Cx} {K : PySem.W.Frag} (e : X.K = K) : IxR X (rIxL K) := by
  subst e
  exact ix_list
theorem ix_tupC {X : Cx} {K : PySem.W.Frag} (e : X.K = K) : IxR X (rIxT K) := by
  subst e
  exact ix_tup
theorem ixDC {X : Cx} {K : PySem.W.Frag} (e : X.K = K) : IxR X (fun x y H Q => ∃ d ds i d', Dp K H x d ∧ itemsD d = some ds ∧ y = .int i ∧ atI ds i = some d' ∧ ∀ v, Dp K H v d' → Q v H) := by
  subst e
  exact ixD
/-- what has no list of its own stays -/
theorem sqT_x {K : PySem.W.Frag} {H H' : Hp} {B L a : Addr} {xs : List V} (b : BoxAt H B L) (s : SameX B L H H') (h : SqT K H a xs) : SqT K H' a xs := by
  obtain ⟨_, ⟨st, hb⟩, ⟨ms, hl⟩⟩ := b
  rcases h with (h | ⟨o, h⟩) | h
  · exact .inl (.inl (s a _ (fun z => by rw [z, hb] at h; cases h) (fun z => by rw [z, hl] at h; cases h) h))
  · exact .inl (.inr ⟨o, s a _ (fun z => by rw [z, hb] at h; cases h) (fun z => by rw [z, hl] at h; cases h) h⟩)
  · exact .inr h
mutual
theorem dp_x {K : PySem.W.Frag} {H H' : Hp} {B L : Addr} (b : BoxAt H B L) (s : SameX B L H H') : ∀ (d : PyData) {v : V}, noL d = true → Dp K H v d → Dp K H' v d
  | .none, _, _, .non => .non
  | .bool x, _, _, .bl _ => .bl x
  | .int i, _, _, .int _ => .int i
  | .str x, _, _, .str _ => .str x
  | .list ds, _, h, _ => by cases h
  | .tuple ds, _, h, .tup q hs => .tup (sqT_x b s q) (dpAll_x b s ds h hs)
  | .dict _, _, h, _ => by cases h
theorem dpAll_x {K : PySem.W.Frag} {H H' : Hp} {B L : Addr} (b : BoxAt H B L) (s : SameX B L H H') : ∀ (ds : List PyData) {vs : List V}, noLs ds = true → DpAll K H vs ds → DpAll K H' vs ds
  | [], _, _, .nil => .nil
  | d :: ds, _, h, .cons q hs => by
    unfold noLs at h
    rw [Bool.and_eq_true] at h
    exact .cons (dp_x b s d h.1 q) (dpAll_x b s ds h.2 hs)
end
end RS
set_option Elab.async false
set_option maxRecDepth 100000
set_option maxHeartbeats 8000000
namespace RS
open PySem PySem.Spec PyProof.Rows L2 GX
mutual
def few : PyData → Prop
  | .list ds => ds.length ≤ 1000000 ∧ fews ds
  | .tuple ds => ds.length ≤ 1000000 ∧ fews ds
  | .dict _ => False
  | _ => True
def fews : List PyData → Prop
  | [] => True
  | d :: ds => few d ∧ fews ds
end
theorem fews_iff : ∀ {ds : List PyData}, fews ds ↔ ∀ d ∈ ds, few d
  | [] => by simp [fews]
  | d :: ds => by
    unfold fews
    rw [fews_iff]
    simp
theorem depth_mem : ∀ {ds : List PyData} {d : PyData}, d ∈ ds → d.depth ≤ PyData.depthAll ds
  | [], _, h => by cases h
  | e :: ds, d, h => by
    simp only [PyData.depthAll]
    rcases List.mem_cons.mp h with q | q
    · subst q
      omega
    · have := depth_mem q
      omega
end RS
set_option Elab.async false
set_option maxRecDepth 100000
set_option maxHeartbeats 4000000
set_option pp.maxSteps 400
namespace RS
open PySem PySem.Spec PyProof.Rows L2 GX
theorem cutD_from {xs : List V} {k : Nat} (h : k ≤ xs.length) : cutV xs (some (k : Nat)) none = xs.drop k := by
  unfold cutV
  rw [HT.sIx_nat, HT.sIx_none, Nat.min_eq_left h, List.take_of_length_le]
  rw [List.length_drop]
  exact Nat.le_refl _
theorem cutD_to {xs : List V} {k : Nat} (h : k ≤ xs.length) : cutV xs none (some (k : Nat)) = xs.take k := by
  unfold cutV
  rw [HT.sIx_nat, HT.sIx_none, Nat.min_eq_left h, List.drop_zero, Nat.sub_zero]
theorem dpAll_take2 {K : PySem.W.Frag} {H : Hp} : ∀ {xs : List V} {ds : List PyData}, DpAll K H xs ds → ∀ k : Nat, DpAll K H (xs.take k) (ds.take k)
  | _, _, _, 0 => .nil
  | _, _, .nil, _ + 1 => .nil
  | _, _, .cons h t, k + 1 => .cons h (dpAll_take2 t k)
theorem dpAll_drop2 {K : PySem.W.Frag} {H : Hp} : ∀ {xs : List V} {ds : List PyData}, DpAll K H xs ds → ∀ k : Nat, DpAll K H (xs.drop k) (ds.drop k)
  | _, _, h, 0 => h
  | _, _, .nil, _ + 1 => .nil
  | _, _, .cons _ t, k + 1 => dpAll_drop2 t k
theorem wts_take {ds : List PyData} {i : Nat} {d : PyData} (h : ds[i]? = some d) : wts (ds.take (i + 1)) = wts (ds.take i) + wt d := by
  rw [List.take_add_one, h, wts_app]
  show _ + (wt d + 0) = _
  rw [Nat.add_zero]
/-! ### what is light enough to go on with -/
structure Lt (m N : Nat) (d : PyData) : Prop where
  no : noL d = true
  fw : few d
  dp : d.depth ≤ m
  nd : nodes d ≤ N
  cl : PyData.canLay0 d = true
theorem Lt.mono {m n N M : Nat} {d : PyData} (h : Lt m N d) (h1 : m ≤ n) (h2 : N ≤ M) : Lt n M d := ⟨h.no, h.fw, Nat.le_trans h.dp h1, Nat.le_trans h.nd h2, h.cl⟩
structure Lts (m N : Nat) (ds : List PyData) : Prop where
  no : noLs ds = true
  fw : fews ds
  dp : PyData.depthAll ds ≤ m
  nd : nodess ds ≤ N
  cl : PyData.canLayAll0 ds = true
theorem Lts.nil {m : Nat} : Lts m 0 [] := ⟨rfl, trivial, by simp [PyData.depthAll], by simp [nodess], by simp [PyData.canLayAll0]⟩
theorem Lts.cons {m N M : Nat} {d : PyData} {ds : List PyData} (h : Lt m N d) (t : Lts m M ds) : Lts m (N + M) (d :: ds) := ⟨by simp [noLs, h.no, t.no], ⟨h.fw, t.fw⟩, by
  have := h.dp
  have := t.dp
  simp only [PyData.depthAll]
  omega, by
  have := h.nd
  have := t.nd
  simp only [nodess]
  omega, by simp [PyData.canLayAll0, h.cl, t.cl]⟩
theorem Lts.app {m N M : Nat} : ∀ {a b : List PyData}, Lts m N a → Lts m M b → Lts m (N + M) (a ++ b)
  | [], b, _, h => ⟨h.no, h.fw, h.dp, Nat.le_trans h.nd (by omega), h.cl⟩
  | d :: a, b, h1, h2 => by
    obtain ⟨n1, f1, d1, k1, c1⟩ := h1
    simp only [PyData.canLayAll0, Bool.and_eq_true] at c1
    simp only [noLs, Bool.and_eq_true] at n1
    simp only [PyData.depthAll] at d1
    simp only [nodess] at k1
    have h3 := Lts.app (m := m) (N := N - nodes d) (a := a) (b := b) ⟨n1.2, f1.2, by omega, by omega, c1.2⟩ h2
    have := Lts.cons (m := m) (N := nodes d) (d := d) ⟨n1.1, f1.1, by omega, Nat.le_refl _, c1.1⟩ h3
    exact ⟨this.no, this.fw, this.dp, Nat.le_trans this.nd (by omega), this.cl⟩
theorem Lts.mono {m n N M : Nat} {ds : List PyData} (h : Lts m N ds) (h1 : m ≤ n) (h2 : N ≤ M) : Lts n M ds := ⟨h.no, h.fw, Nat.le_trans h.dp h1, Nat.le_trans h.nd h2, h.cl⟩
theorem Lts.tup {m N : Nat} {ds : List PyData} (h : Lts m N ds) (hN : N ≤ 900) : Lt (m + 1) (N + 1) (.tuple ds) := ⟨by simp [noL, h.no], ⟨by
  have := nodess_len ds
  have := h.nd
  omega, h.fw⟩, by
  have := h.dp
  simp only [PyData.depth]
  omega, by
  have := h.nd
  simp only [nodes]
  omega, by simp [PyData.canLay0, h.cl]⟩
theorem lts_of {m : Nat} : ∀ {ds : List PyData}, (∀ d ∈ ds, Lt m 1 d) → Lts m ds.length ds
  | [], _ => .nil
  | d :: ds, h => (Lts.cons (h d List.mem_cons_self) (lts_of fun e he => h e (List.mem_cons_of_mem _ he))).mono (Nat.le_refl _) (by rw [List.length_cons]; omega)
theorem depth_memD {d : PyData} : ∀ {ds : List PyData}, d ∈ ds → d.depth ≤ PyData.depthAll ds
  | e :: ds, h => by
    simp only [PyData.depthAll]
    rcases List.mem_cons.mp h with rfl | h
    · omega
    · have := depth_memD h
      omega
theorem nodes_memD {d : PyData} : ∀ {ds : List PyData}, d ∈ ds → nodes d ≤ nodess ds
  | e :: ds, h => by
    simp only [nodess]
    rcases List.mem_cons.mp h with rfl | h
    · omega
    · have := nodes_memD h
      omega
def gN : Nat → Nat
  | 0 => 1
  | k + 1 => 3 + 2 * gN k
section
variable {P : Program} {w : World} {K : PySem.W.Frag} {mg : Str → Option Value} {base : Heap}
theorem scWgt : FnScope ["_law_what_here", "_law_one"] ["_law_what_here"] (defScope s__law_weight) := ⟨rfl, rfl, rfl, by decide +kernel, rfl, by decide +kernel, by decide +kernel⟩
def spWgt (K : PySem.W.Frag) (n : Nat) : Sp := fun vs H Q _ => ∃ (v : V) (d : PyData), vs = [v] ∧ Dp K H v d ∧ Lt n 900 d ∧ ∀ H', Same H H' → Q (.int (wt d : Nat)) H'
set_option linter.unusedVariables false in
theorem wgt_none {c : Addr} (D : DefAt K mg "_law_weight" s__law_weight c) : Cal P w K mg base CX0 1 "_law_weight" ["_law_what_here"] (fun _ _ _ _ => False) :=
  def_ok0 D scWgt (fun vs H Q E h => h.elim) (fun _ _ _ _ _ _ us hl => match us, hl with | [_], _ => rfl) (fun f A outer s H vs Q E hr h => h.elim)
theorem wgt_step {c : Addr} (D : DefAt K mg "_law_weight" s__law_weight c) (T : Txt K mg) {j : Nat} (n : Nat) {sp : Sp} (hj : 1 ≤ j) (cR : Cal P w K mg base CX0 j "_law_weight" ["_law_what_here"] sp)
    (hsp : ∀ (v : V) (d : PyData) (H : Hp) (Q : VK) (E : XK) (m : Nat), m + 1 ≤ n → Dp K H v d → Lt m 900 d → (∀ H', Same H H' → Q (.int (wt d : Nat)) H') → sp [v] H Q E) : Cal P w K mg base CX0 (j + 1) "_law_weight" ["_law_what_here"] (spWgt K n) := by
  have sc := scWgt
  refine def_ok0 D sc (fun vs H Q E h => ?_) (fun _ _ _ _ _ _ us hl => match us, hl with | [_], _ => rfl) (fun f A outer s H vs Q E hr h => ?_)
  · obtain ⟨v, d, rfl, _⟩ := h
    rfl
  · obtain ⟨v, d, rfl, hd, lt, k⟩ := h
    refine ⟨_, (pss_cons (ps_if (pt_not (pt_val (pe_callB call_isiD (by rfl) T.isinstance (by decide +kernel) (pa_cons (pv 0) (pa_cons (pe_bltn (v := V.ty "tuple") (u := Value.type "tuple") (by rfl) T.tuple_ (by decide +kernel) rfl) pa_nil))))) (pss_one (ps_ret pe_int)) pss_nil) (pss_one (ps_ret (pe_callB (cr_sum (by rfl)) (by rfl) T.sum (by decide +kernel) (pa_cons (pe_lc (own := [("_law_one", 1)]) (tt := tYes) rfl sc.nd (pi_tup (pv 0)) (blkOk_by (N := ["_law_what_here", "_law_one"]) (sc := defScope s__law_weight) (own := [("_law_one", 1)]) (by decide +kernel)) (fun _ _ _ _ _ => (pg_name (i := 1) sc.nd rfl (Or.inl rfl))) (fun _ _ _ _ _ => pts_nil) (fun _ _ _ _ _ => (pe_c cR hr (by omega) (by rfl) pass0 (pa_cons (pv 1) pa_nil)))) pa_nil))))), ?_⟩
    refine ⟨_, rfl, _, _, _, rfl, by simp, hd, _, rfl, ?_⟩
    by_cases ct : isI "tuple" d = true
    · obtain ⟨ds, rfl⟩ : ∃ ds, d = .tuple ds := by
        cases d <;> first | exact ⟨_, rfl⟩ | (simp [isI, isT, tyN] at ct)
      rw [ct]
      refine iteF ?_
      have hd0 := hd
      obtain ⟨no, fw, dp, nd, cl⟩ := lt
      simp only [PyData.canLay0] at cl
      simp only [noL] at no
      simp only [PyData.depth] at dp
      simp only [nodes] at nd
      have fw : ds.length ≤ 1000000 ∧ fews ds := fw
      have nds := nodess_len ds
      cases hd with
      | @tup a xs _ hS hI =>
        have lx : xs.length = ds.length := dpLen hI
        refine ⟨_, rfl, a, rfl, ⟨_, hS⟩, fun DD hD => ?_⟩
        refine lc_tup (K := K) (a := a) (xs := xs) (fun i H' => Same H H' ∧ ∃ ns : List Int, H' DD = some (.lst (ns.map V.int)) ∧ ns.length = i ∧ ns.sum = (wts (ds.take i) : Nat))
          ⟨sameNew (Same.refl H) hD, [], upd_same, rfl, by simp [wts]⟩ (fun i H' _ h => sqT_same h.1 hS) ?_ ?_
        · rintro i y H' hy ⟨s1, ns, hl, ln, es⟩
          obtain ⟨d1, ed, hd1⟩ := dpGet hI hy
          have hm := List.mem_of_getElem? ed
          have hi : i < ds.length := (List.getElem?_eq_some_iff.mp ed).1
          have dl := depth_memD hm
          have nl := nodes_memD hm
          refine ⟨rfl, _, rfl, ?_⟩
          refine hsp y d1 H' _ _ (n - 1) (by omega) (dp_same s1 _ hd1) ⟨noLs_iff.mp no _ hm, fews_iff.mp fw.2 _ hm, by omega, by omega, PyData.canLay0_of_mem _ _ cl hm⟩ fun H2 s2 => ?_
          refine ⟨_, s2 _ _ hl, small1000 (by rw [List.length_map]; omega), fun b o e => ?_, ns ++ [(wt d1 : Int)], by rw [upd_same, List.map_append]; rfl, by rw [List.length_append, ln]; rfl, ?_⟩
          · rw [upd_ne (ne_of_none e hD)]
            exact s2 _ _ (s1 _ _ e)
          · rw [wts_take ed, List.sum_append, es]
            simp
        · rintro H' ⟨s1, ns, hl, ln, es⟩
          rw [lx] at ln
          refine ⟨DD, ns, rfl, SqL.of hl, ?_⟩
          rw [es, List.take_of_length_le (by omega)]
          exact k _ s1
    · rw [show isI "tuple" d = false by simpa using ct]
      refine iteT ?_
      have e1 : wt d = 1 := by cases d <;> first | rfl | (simp [isI, isT, tyN] at ct)
      have := k H (Same.refl H)
      rw [e1] at this
      exact this
theorem wgt_ok {c : Addr} (D : DefAt K mg "_law_weight" s__law_weight c) (T : Txt K mg) : ∀ n : Nat, Cal P w K mg base CX0 (n + 2) "_law_weight" ["_law_what_here"] (spWgt K n)
  | 0 => wgt_step D T 0 (Nat.le_refl _) (wgt_none D) fun v d H Q E m h => absurd h (by omega)
  | n + 1 => wgt_step D T (n + 1) (by omega) (wgt_ok D T n) fun v d H Q E m h hd lt q => ⟨v, d, rfl, hd, lt.mono (by omega) (Nat.le_refl _), q⟩
theorem lts_take {m : Nat} {ds : List PyData} (h : ∀ d ∈ ds, Lt m 1 d) (k : Nat) : ∀ d ∈ ds.take k, Lt m 1 d := fun d hd => h d (List.mem_of_mem_take hd)
theorem scNest : FnScope ["_law_box", "_law_parts", "_law_deep", "_law_at"] ["_law_box", "_law_parts", "_law_deep"] (defScope s__law_nest) := ⟨rfl, rfl, rfl, by decide +kernel, rfl, by decide +kernel, by decide +kernel⟩
def spNest (K : PySem.W.Frag) (n : Nat) : Sp := fun vs H Q _ => ∃ (B L pA : Addr) (k : Nat) (xs : List V) (ds : List PyData), vs = [.ref B, .ref pA, .int (k : Nat)] ∧ BoxAt H B L ∧ H pA = some (.lst xs) ∧ pA ≠ B ∧ pA ≠ L ∧ DpAll K H xs ds ∧ (∀ d ∈ ds, Lt 0 1 d) ∧ ds.length ≤ 50 ∧ k ≤ n ∧ k ≤ 3 ∧
  ∀ (H' : Hp) (v : V) (d : PyData), SameX B L H H' → BoxAt H' B L → Dp K H' v d → (∃ ds', d = .tuple ds') → Lt (k + 1) (ds.length + gN k) d → Q v H'
set_option linter.unusedVariables false in
theorem nest_none {c : Addr} (D : DefAt K mg "_law_nest" s__law_nest c) : Cal P w K mg base CX0 1 "_law_nest" ["_law_box", "_law_parts", "_law_deep"] (fun _ _ _ _ => False) :=
  def_ok0 D scNest (fun vs H Q E h => h.elim) (fun _ _ _ _ _ _ us hl => match us, hl with | [_, _, _], _ => rfl) (fun f A outer s H vs Q E hr h => h.elim)
theorem nest_step {c : Addr} (D : DefAt K mg "_law_nest" s__law_nest c) (T : Txt K mg) (cT : Cal P w K mg base CX0 1 "_law_take" ["_law_box", "_law_many"] spTake) {j : Nat} (n : Nat) {sp : Sp} (hj : 1 ≤ j) (cR : Cal P w K mg base CX0 j "_law_nest" ["_law_box", "_law_parts", "_law_deep"] sp)
    (hsp : ∀ (B L pA : Addr) (k : Nat) (xs : List V) (ds : List PyData) (H : Hp) (Q : VK) (E : XK), k + 1 ≤ n → k + 1 ≤ 3 → BoxAt H B L → H pA = some (.lst xs) → pA ≠ B → pA ≠ L → DpAll K H xs ds → (∀ d ∈ ds, Lt 0 1 d) → ds.length ≤ 50 →
      (∀ (H' : Hp) (v : V) (d : PyData), SameX B L H H' → BoxAt H' B L → Dp K H' v d → (∃ ds', d = .tuple ds') → Lt (k + 1) (ds.length + gN k) d → Q v H') → sp [.ref B, .ref pA, .int (k : Nat)] H Q E) : Cal P w K mg base CX0 (j + 1) "_law_nest" ["_law_box", "_law_parts", "_law_deep"] (spNest K n) := by
  have sc := scNest
  refine def_ok0 D sc (fun vs H Q E h => ?_) (fun _ _ _ _ _ _ us hl => match us, hl with | [_, _, _], _ => rfl) (fun f A outer s H vs Q E hr h => ?_)
  · obtain ⟨B, L, pA, k, xs, ds, rfl, _⟩ := h
    rfl
  · obtain ⟨B, L, pA, k, xs, ds, rfl, b, hA, nAB, nAL, hd, lt, l50, kn, k3, fin⟩ := h
    refine ⟨_, (pss_cons (ps_set (i := 3) sc.nd rfl (Or.inl rfl) (pe_c cT hr (by omega) (by rfl) pass0 (pa_cons (pv 0) (pa_cons (pe_op op_add (pe_callB call_len_seq (by rfl) T.len PySem.boot_len (pa_cons (pv 1) pa_nil)) pe_int) pa_nil)))) (pss_cons (ps_if (pt_cmpR op_eq (pv 2) pe_int (nomark _)) (pss_one (ps_ret (pe_callTy call_tuple_of (by rfl) T.tuple_ (by decide +kernel) (pa_cons (pv 1) pa_nil)))) pss_nil) (pss_cons (ps_if (pt_cmpR op_eq (pe_c cT hr (by omega) (by rfl) pass0 (pa_cons (pv 0) (pa_cons pe_int pa_nil))) pe_int (nomark _)) (pss_one (ps_ret (pe_tup (pa_cons (pe_c cR hr (by omega) (by rfl) pass0 (pa_cons (pv 0) (pa_cons (pe_slice sl_list (pv 1) po_none (po_some (pv 3))) (pa_cons (pe_op op_sub (pv 2) pe_int) pa_nil)))) (pa_cons (pe_tup pa_nil) (pa_cons (pe_c cR hr (by omega) (by rfl) pass0 (pa_cons (pv 0) (pa_cons (pe_slice sl_list (pv 1) (po_some (pv 3)) po_none) (pa_cons (pe_op op_sub (pv 2) pe_int) pa_nil)))) pa_nil)))))) pss_nil) (pss_one (ps_ret (pe_op op_catA (pe_callTy call_tuple_of (by rfl) T.tuple_ (by decide +kernel) (pa_cons (pe_slice sl_list (pv 1) po_none (po_some (pv 3))) pa_nil)) (pe_tup (pa_cons (pe_c cR hr (by omega) (by rfl) pass0 (pa_cons (pv 0) (pa_cons (pe_slice sl_list (pv 1) (po_some (pv 3)) po_none) (pa_cons (pe_op op_sub (pv 2) pe_int) pa_nil)))) pa_nil)))))))), ?_⟩
    have lx : xs.length = ds.length := dpLen hd
    have no : noLs ds = true := (lts_of lt).no
    refine ⟨_, rfl, _, rfl, pA, _, rfl, .inl (SqL.of hA), _, _, rfl, rfl, B, L, _, rfl, b, by omega, by omega, fun H1 z s1 b1 z0 z1 => ?_⟩
    obtain ⟨i, rfl⟩ : ∃ i : Nat, z = (i : Nat) := ⟨z.toNat, by omega⟩
    have hi : i ≤ xs.length := by omega
    have hA1 := s1 _ _ nAB nAL hA
    have hd1 := dpAll_x b s1 _ no hd
    refine ⟨_, rfl, rfl, _, rfl, ?_⟩
    cases k with
    | zero =>
      refine iteT' (by simp) ?_
      refine ⟨_, rfl, pA, _, rfl, .inl ⟨SqL.of hA1, fun t nt => ?_⟩⟩
      have s2 := sameNew (o := .tup xs) (Same.refl H1) nt
      refine fin _ _ (.tuple ds) (s1.trans (.of s2)) (b1.same s2) (.tup (SqT.of upd_same) (dpAll_same s2 _ hd1)) ⟨_, rfl⟩ ?_
      exact ((lts_of lt).tup (by omega)).mono (Nat.le_refl _) (by show ds.length + 1 ≤ ds.length + 1; omega)
    | succ k =>
      refine iteF' (by simp; omega) ?_
      have ek : ((k + 1 : Nat) : Int) - 1 = (k : Nat) := by omega
      have g3 : gN k ≤ 25 := by
        have : ∀ k < 3, gN k ≤ 25 := by decide +kernel
        exact this k (by omega)
      have eg : gN (k + 1) = 3 + 2 * gN k := rfl
      refine ⟨_, rfl, B, L, 3, rfl, b1, by decide, by decide, fun H2 q s2 b2 q0 q1 => ⟨rfl, _, rfl, ?_⟩⟩
      have hA2 := s2 _ _ nAB nAL hA1
      have hd2 := dpAll_x b1 s2 _ no hd1
      have s02 := s1.trans s2
      by_cases cq : q = 0
      · refine iteT' (by simp [cq]) ?_
        refine ⟨_, rfl, _, rfl, _, rfl, _, rfl, pA, _, rfl, SqL.of hA2, fun c nc => ?_⟩
        obtain ⟨ncB, ncL⟩ := b2.nb nc
        rw [cutD_to hi]
        have s3 := sameNew (o := .lst (xs.take i)) (Same.refl H2) nc
        have hc3 : upd H2 c (.lst (xs.take i)) c = some (.lst (xs.take i)) := upd_same
        generalize upd H2 c (.lst (xs.take i)) = H3 at s3 hc3 ⊢
        refine ⟨_, rfl, _, _, rfl, rfl, ?_⟩
        dsimp only
        rw [ek]
        refine hsp B L c k (xs.take i) (ds.take i) _ _ _ (by omega) (by omega) (b2.same s3) hc3 ncB ncL (dpAll_take2 (dpAll_same s3 _ hd2) i) (lts_take lt i) (by rw [List.length_take]; omega) fun H4 v1 d1 s4 b4 hv1 _ l1 => ?_
        refine ⟨Nat.zero_le _, fun e0 ne0 => ?_⟩
        have s5 := sameNew (o := .tup []) (Same.refl H4) ne0
        have he5 : Dp K (upd H4 e0 (.tup [])) (.ref e0) (.tuple []) := .tup (SqT.of upd_same) .nil
        generalize upd H4 e0 (.tup []) = H5 at s5 he5 ⊢
        have s25 : SameX B L H2 H5 := ((SameX.of s3).trans s4).trans (.of s5)
        have b5 := b4.same s5
        have hA5 := s25 _ _ nAB nAL hA2
        have hd5 := dpAll_x b2 s25 _ no hd2
        refine ⟨_, rfl, _, rfl, _, rfl, _, rfl, pA, _, rfl, SqL.of hA5, fun c2 nc2 => ?_⟩
        obtain ⟨nc2B, nc2L⟩ := b5.nb nc2
        rw [cutD_from hi]
        have s6 := sameNew (o := .lst (xs.drop i)) (Same.refl H5) nc2
        have hc6 : upd H5 c2 (.lst (xs.drop i)) c2 = some (.lst (xs.drop i)) := upd_same
        generalize upd H5 c2 (.lst (xs.drop i)) = H6 at s6 hc6 ⊢
        refine ⟨_, rfl, _, _, rfl, rfl, ?_⟩
        dsimp only
        rw [ek]
        refine hsp B L c2 k (xs.drop i) (ds.drop i) _ _ _ (by omega) (by omega) (b5.same s6) hc6 nc2B nc2L (dpAll_drop2 (dpAll_same s6 _ hd5) i) (fun d hd => lt d (List.mem_of_mem_drop hd)) (by rw [List.length_drop]; omega) fun H7 v2 d2 s7 b7 hv2 _ l2 => ?_
        have hv1' := dp_x b5 ((SameX.of s6).trans s7) _ l1.no (dp_same s5 _ hv1)
        have he7 := dp_x b5 ((SameX.of s6).trans s7) _ rfl he5
        refine ⟨by show 3 ≤ sizeLine; decide, fun t nt => ?_⟩
        have s8 := sameNew (o := .tup [v1, .ref e0, v2]) (Same.refl H7) nt
        refine fin _ _ (.tuple [d1, .tuple [], d2]) (((s02.trans s25).trans ((SameX.of s6).trans s7)).trans (.of s8)) (b7.same s8) (.tup (SqT.of upd_same) (.cons (dp_same s8 _ hv1') (.cons (dp_same s8 _ he7) (.cons (dp_same s8 _ hv2) .nil)))) ⟨_, rfl⟩ ?_
        have l0 : Lt (k + 1) 1 (.tuple []) := ⟨rfl, ⟨Nat.zero_le _, trivial⟩, by simp [PyData.depth, PyData.depthAll], by simp [nodes, nodess], by simp [PyData.canLay0, PyData.canLayAll0]⟩
        refine ((Lts.cons l1 (Lts.cons l0 (Lts.cons l2 .nil))).tup ?_).mono (Nat.le_refl _) ?_
        · rw [List.length_take, List.length_drop]; omega
        · rw [List.length_take, List.length_drop, eg]; omega
      · refine iteF' (by simp [cq]) ?_
        refine ⟨_, rfl, _, rfl, _, rfl, pA, _, rfl, SqL.of hA2, fun c nc => ?_⟩
        rw [cutD_to hi]
        have s3 := sameNew (o := .lst (xs.take i)) (Same.refl H2) nc
        have hc3 : upd H2 c (.lst (xs.take i)) c = some (.lst (xs.take i)) := upd_same
        generalize upd H2 c (.lst (xs.take i)) = H3 at s3 hc3 ⊢
        refine ⟨c, _, rfl, .inl ⟨SqL.of hc3, fun t1 nt1 => ?_⟩⟩
        have s4 := sameNew (o := .tup (xs.take i)) s3 nt1
        have ht4 : upd H3 t1 (.tup (xs.take i)) t1 = some (.tup (xs.take i)) := upd_same
        generalize upd H3 t1 (.tup (xs.take i)) = H4 at s4 ht4 ⊢
        have b4 := b2.same s4
        have hA4 := s4 _ _ hA2
        have hd4 := dpAll_same s4 _ hd2
        refine ⟨_, rfl, _, rfl, _, rfl, _, rfl, pA, _, rfl, SqL.of hA4, fun c2 nc2 => ?_⟩
        obtain ⟨nc2B, nc2L⟩ := b4.nb nc2
        rw [cutD_from hi]
        have s6 := sameNew (o := .lst (xs.drop i)) (Same.refl H4) nc2
        have hc6 : upd H4 c2 (.lst (xs.drop i)) c2 = some (.lst (xs.drop i)) := upd_same
        generalize upd H4 c2 (.lst (xs.drop i)) = H6 at s6 hc6 ⊢
        refine ⟨_, rfl, _, _, rfl, rfl, ?_⟩
        dsimp only
        rw [ek]
        refine hsp B L c2 k (xs.drop i) (ds.drop i) _ _ _ (by omega) (by omega) (b4.same s6) hc6 nc2B nc2L (dpAll_drop2 (dpAll_same s6 _ hd4) i) (fun d hd => lt d (List.mem_of_mem_drop hd)) (by rw [List.length_drop]; omega) fun H7 v2 d2 s7 b7 hv2 _ l2 => ?_
        have s47 : SameX B L H4 H7 := (SameX.of s6).trans s7
        obtain ⟨nB, ⟨sB, hB4⟩, ⟨mL, hL4⟩⟩ := id b4
        have ht7 := s47 t1 _ (fun z => by rw [z, hB4] at ht4; cases ht4) (fun z => by rw [z, hL4] at ht4; cases ht4) ht4
        have hd7 := dpAll_x b4 s47 _ no hd4
        refine ⟨by show 1 ≤ sizeLine; decide, fun t nt => ?_⟩
        have s8 := sameNew (o := .tup [v2]) (Same.refl H7) nt
        have ht8 : upd H7 t (.tup [v2]) t = some (.tup [v2]) := upd_same
        generalize upd H7 t (.tup [v2]) = H8 at s8 ht8 ⊢
        have s08 := ((s02.trans (.of s4)).trans s47).trans (SameX.of s8)
        have b8 := b7.same s8
        have big : (1000 : Nat) ≤ sizeLine := by decide
        have lts1 : Lts (k + 1) (ds.take i).length (ds.take i) := (lts_of (lts_take lt i)).mono (Nat.zero_le _) (Nat.le_refl _)
        have lfin : Lt (k + 1 + 1) (ds.length + gN (k + 1)) (.tuple (ds.take i ++ [d2])) := by
          refine ((Lts.app lts1 (Lts.cons l2 .nil)).tup ?_).mono (Nat.le_refl _) ?_
          · rw [List.length_take, List.length_drop]; omega
          · rw [List.length_take, List.length_drop, eg]; omega
        have dx : DpAll K H8 (xs.take i ++ [v2]) (ds.take i ++ [d2]) := dpApp (dpAll_take2 (dpAll_same s8 _ hd7) i) (.cons (dp_same s8 _ hv2) .nil)
        refine ⟨t1, t, _, _, rfl, rfl, SqT.of (s8 _ _ ht7), SqT.of ht8, by rw [List.length_take, List.length_singleton]; omega, fun e0 => ?_, fun _ z => (by cases z), fun _ _ p np => ?_⟩
        · refine fin _ _ (.tuple (ds.take i ++ [d2])) s08 b8 (.tup (SqT.of (by rw [ht8, e0]; rfl)) dx) ⟨_, rfl⟩ lfin
        · have s9 := sameNew (o := .tup (xs.take i ++ [v2])) (Same.refl H8) np
          exact fin _ _ (.tuple (ds.take i ++ [d2])) (s08.trans (.of s9)) (b8.same s9) (.tup (SqT.of upd_same) (dpAll_same s9 _ dx)) ⟨_, rfl⟩ lfin
theorem nest_ok {c : Addr} (D : DefAt K mg "_law_nest" s__law_nest c) (T : Txt K mg) (cT : Cal P w K mg base CX0 1 "_law_take" ["_law_box", "_law_many"] spTake) : ∀ n : Nat, Cal P w K mg base CX0 (n + 2) "_law_nest" ["_law_box", "_law_parts", "_law_deep"] (spNest K n)
  | 0 => nest_step D T cT 0 (Nat.le_refl _) (nest_none D) fun B L pA k xs ds H Q E h => absurd h (by omega)
  | n + 1 => nest_step D T cT (n + 1) (by omega) (nest_ok D T cT n) fun B L pA k xs ds H Q E h h3 b hA n1 n2 hd lt l5 q => ⟨B, L, pA, k, xs, ds, rfl, b, hA, n1, n2, hd, lt, l5, by omega, by omega, q⟩
end
end RS
set_option Elab.async false
set_option maxRecDepth 100000
set_option maxHeartbeats 4000000
set_option pp.maxSteps 400
namespace RS
open PySem PySem.Spec PyProof.Rows L2 GX
abbrev NWh : List Str := ["_law_box", "_law_way", "_law_some", "_law_parts", "_law_k"]
theorem lt_non : Lt 0 1 .none := ⟨rfl, trivial, by simp [PyData.depth], by simp [nodes], by simp [PyData.canLay0]⟩
theorem lt_bl (b : Bool) : Lt 0 1 (.bool b) := ⟨rfl, trivial, by simp [PyData.depth], by simp [nodes], by simp [PyData.canLay0]⟩
theorem lt_int (i : Int) : Lt 0 1 (.int i) := ⟨rfl, trivial, by simp [PyData.depth], by simp [nodes], by simp [PyData.canLay0]⟩
theorem lt_str (x : Str) (h : PyData.canLay0 (.str x) = true) : Lt 0 1 (.str x) := ⟨rfl, trivial, by simp [PyData.depth], by simp [nodes], h⟩
theorem nodess_snoc1 {ds : List PyData} {d : PyData} (h : ∀ e ∈ ds, Lt 0 1 e) (h2 : Lt 0 1 d) : ∀ e ∈ ds ++ [d], Lt 0 1 e := fun e he => by
  rcases List.mem_append.mp he with he | he
  · exact h e he
  · rw [List.mem_singleton.mp he]; exact h2
section
variable {P : Program} {w : World} {K : PySem.W.Frag} {mg : Str → Option Value} {base : Heap}
theorem scWhat : FnScope NWh ["_law_box"] (defScope s__law_what) := ⟨rfl, rfl, rfl, by decide +kernel, rfl, by decide +kernel, by decide +kernel⟩
def spWhat (K : PySem.W.Frag) : Sp := fun vs H Q _ => ∃ (B L : Addr), vs = [.ref B] ∧ BoxAt H B L ∧
  ∀ (H' : Hp) (v : V) (d : PyData), SameX B L H H' → BoxAt H' B L → Dp K H' v d → Lt 5 100 d → Q v H'
theorem what_ok {c : Addr} (D : DefAt K mg "_law_what" s__law_what c) (T : Txt K mg) (cT : Cal P w K mg base CX0 1 "_law_take" ["_law_box", "_law_many"] spTake) (cN : Cal P w K mg base CX0 5 "_law_nest" ["_law_box", "_law_parts", "_law_deep"] (spNest K 3)) : Cal P w K mg base CX0 6 "_law_what" ["_law_box"] (spWhat K) := by
  have sc := scWhat
  refine def_ok0 D sc (fun vs H Q E h => ?_) (fun _ _ _ _ _ _ us hl => match us, hl with | [_], _ => rfl) (fun f A outer s H vs Q E hr h => ?_)
  · obtain ⟨B, L, rfl, _⟩ := h
    rfl
  · obtain ⟨B, L, rfl, b, fin⟩ := h
    refine ⟨_, (pss_cons (ps_set (i := 1) sc.nd rfl (Or.inl rfl) (pe_c cT hr (by decide) (by rfl) pass0 (pa_cons (pv 0) (pa_cons pe_int pa_nil)))) (pss_cons (ps_if (pt_cmpR op_eq (pv 1) pe_int (nomark _)) (pss_cons (ps_set (i := 2) sc.nd rfl (Or.inr rfl) (pe_lst (pa_cons (pe_c cT hr (by decide) (by rfl) pass0 (pa_cons (pv 0) (pa_cons pe_int pa_nil))) (pa_cons pe_str (pa_cons pe_non (pa_cons pe_bl pa_nil)))))) (pss_cons (ps_setLc (own := [("_law_k", 4)]) (tt := tYes) rfl sc.nd (i := 3) rfl rfl (by rfl) (pi_range1 (by rfl) T.range (pa_cons (pe_op op_add pe_int (pe_c cT hr (by decide) (by rfl) pass0 (pa_cons (pv 0) (pa_cons pe_int pa_nil)))) pa_nil)) (blkOk_by (N := NWh) (sc := defScope s__law_what) (own := [("_law_k", 4)]) (by decide +kernel)) (fun _ _ _ _ _ => (pg_name (i := 4) sc.nd rfl (Or.inl rfl))) (fun _ _ _ _ _ => pts_nil) (fun _ _ _ _ _ => (pe_ix (ix_listC (K := K) rfl) (pv 2) (pe_c cT hr (by decide) (by rfl) pass0 (pa_cons (pv 0) (pa_cons pe_int pa_nil))) (fun _ _ => rfl)))) (pss_one (ps_ret (pe_c cN hr (by decide) (by rfl) pass0 (pa_cons (pv 0) (pa_cons (pv 3) (pa_cons (pe_c cT hr (by decide) (by rfl) pass0 (pa_cons (pv 0) (pa_cons pe_int pa_nil))) pa_nil)))))))) pss_nil) (pss_cons (ps_set (i := 2) sc.nd rfl (Or.inr rfl) (pe_lst (pa_cons pe_non (pa_cons (pe_c cT hr (by decide) (by rfl) pass0 (pa_cons (pv 0) (pa_cons pe_int pa_nil))) (pa_cons (pe_tup (pa_cons pe_str (pa_cons (pe_tup (pa_cons pe_int (pa_cons (pe_c cT hr (by decide) (by rfl) pass0 (pa_cons (pv 0) (pa_cons pe_int pa_nil))) (pa_cons pe_non pa_nil)))) pa_nil))) (pa_cons pe_str (pa_cons (pe_tup (pa_cons (pe_tup pa_nil) (pa_cons (pe_tup (pa_cons pe_bl (pa_cons (pe_tup (pa_cons (pe_tup (pa_cons pe_int pa_nil)) pa_nil)) pa_nil))) pa_nil))) pa_nil))))))) (pss_one (ps_ret (pe_ix ix_list (pv 2) (pv 1) (fun _ _ => rfl))))))), ?_⟩
    refine ⟨_, rfl, B, L, 6, rfl, b, by decide, by decide, fun H1 way s1 b1 w0 w6 => ⟨_, rfl, rfl, _, rfl, ?_⟩⟩
    by_cases c5 : way = 5
    · refine iteT' (by simp [c5]) ?_
      refine ⟨_, rfl, B, L, 9, rfl, b1, by decide, by decide, fun H2 x s2 b2 x0 x9 => ⟨by show 4 ≤ sizeLine; decide, fun Z nZ => ?_⟩⟩
      obtain ⟨nZB, nZL⟩ := b2.nb nZ
      have s3 := sameNew (o := .lst [.int x, .str "text", .non, .bl true]) (Same.refl H2) nZ
      have hZ3 : upd H2 Z (.lst [.int x, .str "text", .non, .bl true]) Z = some (.lst [.int x, .str "text", .non, .bl true]) := upd_same
      generalize upd H2 Z (.lst [.int x, .str "text", .non, .bl true]) = H3 at s3 hZ3 ⊢
      have b3 := b2.same s3
      have s03 : SameX B L H H3 := (s1.trans s2).trans (.of s3)
      refine ⟨_, rfl, B, L, 8, rfl, b3, by decide, by decide, fun H4 q s4 b4 q0 q8 => ⟨_, _, rfl, rfl, _, rfl, by omega, by omega, fun DD hD => ?_⟩⟩
      obtain ⟨nDB, nDL⟩ := b4.nb hD
      obtain ⟨m, em, m43⟩ : ∃ m : Nat, (36 + q).toNat = m ∧ m ≤ 43 := ⟨_, rfl, by omega⟩
      rw [em]
      have hZ4 := s4 _ _ nZB nZL hZ3
      have nDZ : DD ≠ Z := fun z => by rw [z, hZ4] at hD; cases hD
      refine lc_range (fun i H' => SameX B L H4 H' ∧ BoxAt H' B L ∧ ∃ (ys : List V) (ds : List PyData), H' DD = some (.lst ys) ∧ DpAll K H' ys ds ∧ (∀ d ∈ ds, Lt 0 1 d) ∧ ds.length = i)
        ⟨SameX.of (sameNew (Same.refl H4) hD), b4.upd_ nDB nDL, [], [], upd_same, .nil, (fun d h => nomatch h), rfl⟩ ?_ ?_
      · rintro i H5 hi ⟨s5, b5, ys, ds, hl, hd, lt, ln⟩
        refine ⟨rfl, _, rfl, _, rfl, B, L, 4, rfl, b5, by decide, by decide, fun H6 j s6 b6 j0 j4 => ?_⟩
        obtain ⟨y, dy, hy, ly, hdy⟩ : ∃ y dy, atI [V.int x, .str "text", .non, .bl true] j = some y ∧ Lt 0 1 dy ∧ ∀ HX, Dp K HX y dy := by
          rcases (by omega : j = 0 ∨ j = 1 ∨ j = 2 ∨ j = 3) with e | e | e | e <;> subst e
          · exact ⟨_, .int x, rfl, lt_int _, fun _ => .int _⟩
          · exact ⟨_, .str "text", rfl, lt_str _ (by decide +kernel), fun _ => .str _⟩
          · exact ⟨_, .none, rfl, lt_non, fun _ => .non⟩
          · exact ⟨_, .bool true, rfl, lt_bl _, fun _ => .bl _⟩
        have hl6 := s6 _ _ nDB nDL hl
        have ly2 : ys.length = ds.length := dpLen hd
        refine ⟨Z, _, j, y, rfl, rfl, SqL.of (s6 _ _ nZB nZL (s5 _ _ nZB nZL hZ4)), hy, ys, hl6, small1000 (by omega), (s5.trans s6).new hD, b6.upd_ nDB nDL, ys ++ [y], ds ++ [dy], upd_same, ?_, nodess_snoc1 lt ly, by rw [List.length_append, ln]; rfl⟩
        have no : noLs (ds ++ [dy]) = true := (lts_of (nodess_snoc1 lt ly)).no
        exact dpAll_upd hl6 _ no (dpApp (dpAll_x b5 s6 _ (lts_of lt).no hd) (.cons (hdy _) .nil))
      · rintro H5 ⟨s5, b5, ys, ds, hl, hd, lt, ln⟩
        refine ⟨_, rfl, _, rfl, _, rfl, B, L, 4, rfl, b5, by decide, by decide, fun H6 j s6 b6 j0 j4 => ?_⟩
        obtain ⟨jn, rfl⟩ : ∃ jn : Nat, j = (jn : Nat) := ⟨j.toNat, by omega⟩
        refine ⟨B, L, DD, jn, ys, ds, rfl, b6, s6 _ _ nDB nDL hl, nDB, nDL, dpAll_x b5 s6 _ (lts_of lt).no hd, lt, by omega, by omega, by omega, fun H7 v d s7 b7 hv _ l7 => ?_⟩
        have g3 : gN jn ≤ 45 := by
          have : ∀ k < 4, gN k ≤ 45 := by decide +kernel
          exact this jn (by omega)
        exact fin _ _ d ((((s03.trans s4).trans s5).trans s6).trans s7) b7 hv (l7.mono (by omega) (by omega))
    · refine iteF' (by simp [c5]) ?_
      refine ⟨_, rfl, B, L, 100, rfl, b1, by decide, by decide, fun H2 x s2 b2 x0 x9 => ⟨_, rfl, B, L, 9, rfl, b2, by decide, by decide, fun H3 y s3 b3 y0 y9 => ⟨by show 3 ≤ sizeLine; decide, fun t1 nt1 => ?_⟩⟩⟩
      have s4 := sameNew (o := .tup [.int 1, .int y, .non]) (Same.refl H3) nt1
      have h4 : upd H3 t1 (.tup [.int 1, .int y, .non]) t1 = some (.tup [.int 1, .int y, .non]) := upd_same
      generalize upd H3 t1 (.tup [.int 1, .int y, .non]) = H4 at s4 h4 ⊢
      refine ⟨by show 2 ≤ sizeLine; decide, fun t2 nt2 => ?_⟩
      have s5 := sameNew (o := .tup [.str "a", .ref t1]) (Same.refl H4) nt2
      have h5 : upd H4 t2 (.tup [.str "a", .ref t1]) t2 = some (.tup [.str "a", .ref t1]) := upd_same
      generalize upd H4 t2 (.tup [.str "a", .ref t1]) = H5 at s5 h5 ⊢
      refine ⟨Nat.zero_le _, fun t3 nt3 => ?_⟩
      have s6 := sameNew (o := .tup []) (Same.refl H5) nt3
      have h6 : upd H5 t3 (.tup []) t3 = some (.tup []) := upd_same
      generalize upd H5 t3 (.tup []) = H6 at s6 h6 ⊢
      refine ⟨by show 1 ≤ sizeLine; decide, fun t4 nt4 => ?_⟩
      have s7 := sameNew (o := .tup [.int 2]) (Same.refl H6) nt4
      have h7 : upd H6 t4 (.tup [.int 2]) t4 = some (.tup [.int 2]) := upd_same
      generalize upd H6 t4 (.tup [.int 2]) = H7 at s7 h7 ⊢
      refine ⟨by show 1 ≤ sizeLine; decide, fun t5 nt5 => ?_⟩
      have s8 := sameNew (o := .tup [.ref t4]) (Same.refl H7) nt5
      have h8 : upd H7 t5 (.tup [.ref t4]) t5 = some (.tup [.ref t4]) := upd_same
      generalize upd H7 t5 (.tup [.ref t4]) = H8 at s8 h8 ⊢
      refine ⟨by show 2 ≤ sizeLine; decide, fun t6 nt6 => ?_⟩
      have s9 := sameNew (o := .tup [.bl true, .ref t5]) (Same.refl H8) nt6
      have h9 : upd H8 t6 (.tup [.bl true, .ref t5]) t6 = some (.tup [.bl true, .ref t5]) := upd_same
      generalize upd H8 t6 (.tup [.bl true, .ref t5]) = H9 at s9 h9 ⊢
      refine ⟨by show 2 ≤ sizeLine; decide, fun t7 nt7 => ?_⟩
      have sA := sameNew (o := .tup [.ref t3, .ref t6]) (Same.refl H9) nt7
      have hA : upd H9 t7 (.tup [.ref t3, .ref t6]) t7 = some (.tup [.ref t3, .ref t6]) := upd_same
      generalize upd H9 t7 (.tup [.ref t3, .ref t6]) = HA at sA hA ⊢
      refine ⟨by show 5 ≤ sizeLine; decide, fun Z nZ => ?_⟩
      have sB := sameNew (o := .lst [.non, .int x, .ref t2, .str "text", .ref t7]) (Same.refl HA) nZ
      have hB : upd HA Z (.lst [.non, .int x, .ref t2, .str "text", .ref t7]) Z = some (.lst [.non, .int x, .ref t2, .str "text", .ref t7]) := upd_same
      generalize upd HA Z (.lst [.non, .int x, .ref t2, .str "text", .ref t7]) = HB at sB hB ⊢
      have b4B : Same H4 HB := ((((((s5.trans s6).trans s7).trans s8).trans s9).trans sA).trans sB)
      have b5B : Same H5 HB := (((((s6.trans s7).trans s8).trans s9).trans sA).trans sB)
      have b6B : Same H6 HB := ((((s7.trans s8).trans s9).trans sA).trans sB)
      have b7B : Same H7 HB := (((s8.trans s9).trans sA).trans sB)
      have b8B : Same H8 HB := ((s9.trans sA).trans sB)
      have b9B : Same H9 HB := sA.trans sB
      have d2 : Dp K HB (.ref t2) (.tuple [.str "a", .tuple [.int 1, .int y, .none]]) := .tup (SqT.of (b5B _ _ h5)) (.cons (.str _) (.cons (.tup (SqT.of (b4B _ _ h4)) (.cons (.int _) (.cons (.int _) (.cons .non .nil)))) .nil))
      have d7 : Dp K HB (.ref t7) (.tuple [.tuple [], .tuple [.bool true, .tuple [.tuple [.int 2]]]]) := .tup (SqT.of (sB _ _ hA)) (.cons (.tup (SqT.of (b6B _ _ h6)) .nil) (.cons (.tup (SqT.of (b9B _ _ h9)) (.cons (.bl _) (.cons (.tup (SqT.of (b8B _ _ h8)) (.cons (.tup (SqT.of (b7B _ _ h7)) (.cons (.int _) .nil)) .nil)) .nil))) .nil))
      obtain ⟨z, dz, hz, lz, hdz⟩ : ∃ z dz, atI [V.non, .int x, .ref t2, .str "text", .ref t7] way = some z ∧ Lt 5 100 dz ∧ Dp K HB z dz := by
        rcases (by omega : way = 0 ∨ way = 1 ∨ way = 2 ∨ way = 3 ∨ way = 4) with e | e | e | e | e <;> subst e
        · exact ⟨_, .none, rfl, lt_non.mono (by decide) (by decide), .non⟩
        · exact ⟨_, .int x, rfl, (lt_int _).mono (by decide) (by decide), .int _⟩
        · exact ⟨_, _, rfl, ⟨by simp [noL, noLs], by simp [few, fews], by simp [PyData.depth, PyData.depthAll], by simp [nodes, nodess], by simp [PyData.canLay0, PyData.canLayAll0]; decide +kernel⟩, d2⟩
        · exact ⟨_, .str "text", rfl, (lt_str _ (by decide +kernel)).mono (by decide) (by decide), .str _⟩
        · exact ⟨_, _, rfl, ⟨by simp [noL, noLs], by simp [few, fews], by simp [PyData.depth, PyData.depthAll], by simp [nodes, nodess], by simp [PyData.canLay0, PyData.canLayAll0]⟩, d7⟩
      have s3B : Same H3 HB := s4.trans b4B
      refine ⟨_, rfl, _, rfl, Z, _, way, z, rfl, rfl, SqL.of hB, hz, ?_⟩
      exact fin _ _ dz (((s1.trans s2).trans s3).trans (.of s3B)) (b3.same s3B) hdz lz
end
end RS
set_option Elab.async false
set_option maxRecDepth 100000
set_option maxHeartbeats 4000000
namespace LM
open PySem PySem.Spec PyProof.Rows L2
/-! ### defs that are called within an except suite, and raise nothing -/
/-- the handled exception, its class, its dict -/
abbrev SpW := Addr → Value → Option Addr → Sp
structure FnW (P : Program) (w : World) (K : PySem.W.Frag) (mg : Str → Option Value) (base : Heap) (k : Nat) (f : Addr) (fd : FuncData) (ps : List Str) (sp : SpW) : Prop where
  len : ∀ a cls d vs H Q E, sp a cls d vs H Q E → vs.length = ps.length
  run : ∀ (A : Around) (outer : List Env) (s : Shared) (H : Hp) (args : Args) (us : List Value) (vs : List V) (Q : VK) (E : XK) (p : Addr × Obj) (cls : Value) (d : Option Addr), L2H.RoomH k A → L2H.PinOk outer H s p → Zc cls d p.2 → (∃ us, p.2.data = .fields us) → Env0 P w K mg base A outer s H → BindsTo s fd args (ps.zip us) → Vals vs us → sp p.1 cls d vs H Q E →
    codeAny (model P w) A (.call (.ref f) args) (CR C8.CX0 outer P w H s Q E) s
structure CalW (P : Program) (w : World) (K : PySem.W.Frag) (mg : Str → Option Value) (base : Heap) (k : Nat) (x : Str) (ps : List Str) (sp : SpW) : Prop where
  ex : ∃ (f : Addr) (fd : FuncData), FnW P w K mg base k f fd ps sp ∧ mg x = some (.ref f) ∧ PySem.W.keepIn K (.ref f) = true ∧ Binds K fd ps []
section
variable {P : Program} {w : World} {K : PySem.W.Frag} {mg : Str → Option Value} {base : Heap}
theorem def_okW {x : Str} {st : Stmt} {c : Addr} {N ps : List Str} {k : Nat} {sp : SpW} (D : RS.DefAt K mg x st c) (S : FnScope N ps (defScope st)) (len : ∀ a cls d vs H Q E, sp a cls d vs H Q E → vs.length = ps.length)
    (hb : ∀ (kV doc pm : Value) (an : Option Addr) (cdv ct : Value) (us : List Value), us.length = ps.length → bindArgs (PySem.W.fnOf x x (defArgs st) (defBody st) (defScope st) .none kV doc pm an cdv ct) ⟨us, []⟩ = pure (ps.zip us))
    (hbody : ∀ (f : Addr) (A : Around) (outer : List Env) (s : Shared) (H : Hp) (vs : List V) (Q : VK) (E : XK) (p : Addr × Obj) (cls : Value) (d : Option Addr), L2H.RoomH k (A.deeper (envOfC x (defScope st) s.heap.objs.size f (.ref c))) → Zc cls d p.2 → (∃ us, p.2.data = .fields us) → sp p.1 cls d vs H Q E →
      ∃ t, PSs (L2H.cxH C8.CX0 P w K mg base N x (defScope st) f (.ref c) A outer s H E p) (defBody st) t ∧ t { nx := fun _ H' => Q .non H', rt := Q } (L2.start N vs) H) :
    CalW P w K mg base (k + 1) x ps sp := by
  obtain ⟨f, oc, od, kV, doc, pm, an, ct, osl, hm, lk, hcd, kp⟩ := D.ex
  refine ⟨f, _, ⟨len, fun A outer s H args us vs Q E p cls d hr hpin hz hf e0 bd r hsp => ?_⟩, hm, kp, .all (hb kV doc pm an (.ref c) ct)⟩
  have hl := len _ _ _ _ _ _ _ hsp
  have KX : K.In s.heap := e0.mod.kin.keeps fun b o e => (e0.bs b o e).1
  have lim : s.heap.NoLimit := e0.mod.nolimit.keeps fun b o e => (e0.bs b o e).1
  have kd : ∀ y ∈ ps.zip us, (defScope st).names.lookup y.1 = some .local ∨ ((defScope st).names.lookup y.1 = some .cell ∧ ((cellsFrom (s.heap.objs.size + 1) (defScope st).names []).lookup y.1).isSome = true) := fun ⟨n, v⟩ hy => by
    rcases S.par n (List.of_mem_zip hy).1 with q | q
    · exact .inl q
    · exact .inr ⟨q, PySem.W.cellsFrom_some _ _ _ (.inl q)⟩
  refine codeAny_call_function hr.depth (KX _ _ lk) rfl S.co S.gen rfl (PySem.W.codeRec_of KX hcd) (bd _ _ _ _ ?_)
  refine wpAny_newFunctionEnv_cells S.kind kd fun env he s1 ic => ?_
  subst he
  refine ⟨lim.keeps ic.toInCall.keep, codeAny_func ?_⟩
  obtain ⟨t, ht, hq⟩ := hbody f A outer s H vs Q E p cls d (hr.deeper _) hz hf hsp
  refine wpAny_mono (ht.run [] s1 (L2.start N vs) H _ (L2H.inv_startH S hpin e0 hl r ic) hq) (fun fl s' hs => ?_) fun e s' hs => hs
  cases fl with
  | ret u =>
    obtain ⟨v, σ', H', J, rv, q⟩ := hs
    exact ⟨v, H', J.os, J.bare, J.base, J.hok, rv, q⟩
  | next =>
    obtain ⟨σ', H', J, q⟩ := hs
    exact ⟨.non, H', J.os, J.bare, J.base, J.hok, rfl, q⟩
  | brk =>
    obtain ⟨_, _, _, q⟩ := hs
    exact False.elim q
  | cont =>
    obtain ⟨_, _, _, q⟩ := hs
    exact False.elim q
end
section
variable {X : Cx} {k j : Nat} {ps : List Str} {sp : SpW} {x : Str} {q pos : Pos} {e : Expr} {es : List Expr} {t : TA}
/-- such a def is called in the suite that handles p -/
def tCallW (sp : SpW) (a : Addr) (cls : Value) (d : Option Addr) (t : TA) : TE := fun σ H Q => t σ H fun vs H1 => sp a cls d vs H1 Q C8.E0
theorem pe_cW {a : Addr} {oe : Obj} {cls : Value} {d : Option Addr} (c : CalW X.prog X.w X.K X.mg X.base k x ps sp) (hr : L2H.RoomH j X.A) (hk : k ≤ j) (hp : (a, oe) ∈ X.pn) (hz : Zc cls d oe) (hf : ∃ us, oe.data = .fields us) (hg : Gl X x) (ha : PA X (e :: es) t) (hdb : (x == ("__debug__" : Str)) = false := by decide)
    (he : starEach (e :: es) X.env = (false, eval e X.env) :: starEach es X.env := by rfl) (hpl : (backTo pos (starEach es X.env)).any (·.1) = false := by rfl) :
    PE X (.Call (.Name x q) (e :: es) [] pos) (tCallW sp a cls d t) := by
  obtain ⟨f, fd, F, hm, kp, hb⟩ := c.ex
  refine ⟨fun pins s σ H Q I h => ?_⟩
  refine wpAny_Call_Name_kw (ld_glob I hg hm ?_ hdb)
  refine PySem.W.callWith_K (h₀ := X.base) I.ok.mod.kin kp (thn (ha.run pos pins s σ H _ I h) fun us s1 ⟨vs, H1, I1, r, q⟩ => ⟨I1.kIn, ?_⟩) he hpl
  have hl : us.length = ps.length := by rw [← r.length]; exact F.len _ _ _ _ _ _ _ q
  have b := hb s1 us I1.kIn (by rw [List.append_nil]; exact hl)
  rw [List.append_nil] at b
  obtain ⟨h1, h2, h3, h4, h5⟩ := I1.pin (a, oe) (List.mem_append_left _ hp)
  have hpin : L2H.PinOk X.stack H1 s1 (a, oe) := ⟨h1, h2, fun hm => (List.mem_cons.mp (I1.stkSub a hm)).elim h3 h4, h5⟩
  refine wpAny_call (codeAny_mono (F.run X.A X.stack s1 H1 ⟨us, []⟩ us vs Q _ (a, oe) cls d (hr.mono hk) hpin hz hf I1.env0 b r q) fun r s' hq => ?_)
  cases r with
  | error e => exact False.elim hq
  | ok fl =>
    cases fl with
    | ret u => exact I1.after hq
    | next => exact False.elim hq
    | brk => exact False.elim hq
    | cont => exact False.elim hq
/-! ### isinstance of the handled exception, with or without a dict -/
def DictAt (d : Option Addr) (H : Hp) : Prop := ∀ dd, d = some dd → ∃ fs, H dd = some (.xd fs)
def rIsW (K : PySem.W.Frag) (D a : Addr) (d : Option Addr) : List V → Hp → VK → Prop := fun xs H Q => ∃ (c : V) (cv : Value) (b : Bool), xs = [.ref a, c] ∧ (∀ u, RelV c u → u = cv) ∧ DictAt d H ∧ PySem.W.kitOne K (.ref D) cv = some b ∧ Q (.bl b) H
theorem call_isW {p : Addr × Obj} {D : Addr} {d : Option Addr} (C : ExcC X.K D) (hp : p ∈ X.pn) (hz : Zc (.ref D) d p.2) (hf : ∃ vs, p.2.data = .fields vs) : CallR X (.builtin "isinstance") (rIsW X.K D p.1 d) := by
  intro pins s σ H xs us Q I r h
  obtain ⟨c, cv, b, rfl, hcv, hd, e, q⟩ := h
  obtain ⟨a, oe⟩ := p
  cases r with
  | cons rx rr =>
    cases rr with
    | cons rt rr =>
      cases rr
      cases rx
      have ec := hcv _ rt
      subst ec
      obtain ⟨hget, _⟩ := I.pin (a, oe) (List.mem_append_left _ hp)
      obtain ⟨vs, hv⟩ := hf
      obtain ⟨cd, hcd, _⟩ := PySem.W.any_some C.hd
      have J : ∃ od : Option Obj, PySem.W.InstAt s.heap a oe D od := by
        obtain ⟨oc, ody, oda, osl⟩ := oe
        obtain ⟨h1, h2⟩ := hz
        dsimp only at h1 h2 hv
        subst h1 h2 hv
        cases ody with
        | none => exact ⟨none, hget, rfl, rfl, trivial⟩
        | some dd =>
          obtain ⟨fs, hfs⟩ := hd dd rfl
          obtain ⟨mA, ⟨o, es, ep, ho, _⟩, _⟩ := (show ObjOk X.prog X.w H s.heap dd (.xd fs) from I.hok dd _ hfs)
          exact ⟨some o, hget, rfl, rfl, ho⟩
      obtain ⟨od, J⟩ := J
      exact PySem.W.kia_one (PySem.W.kitx_exc (od := od) (ox := oe) (by rw [hcd]; rfl) C.hg C.hk C.hs C.ha C.hn C.ht C.hm) I.kIn J e (fun z => nomatch z) fun tk => ⟨.bl b, H, I.kept (t' := tk) fun _ _ z => z, rfl, q⟩
/-- err.f, the class known by the reading -/
def tXfA (K : PySem.W.Frag) (a : Addr) (cls : Value) (d : Option Addr) (f : Str) (te : TE) : TE := fun σ H Q => ∃ C : Addr, XfC K C ∧ PySem.W.findIn K (.ref C) f = some none ∧ tXf a cls d C f te σ H Q
theorem pe_xfA {a : Addr} {oe : Obj} {cls : Value} {d : Option Addr} {pn : List (Addr × Obj)} {e : Expr} {te : TE} {pos : Pos} {n : Str} (hz : Zc cls d oe) (hf : ∃ vs, oe.data = .fields vs) (he : PE (X.suite a ((a, oe) :: pn)) e te) (hb : attributeBase e n X.env (eval e X.env) = eval e X.env := by rfl) :
    PE (X.suite a ((a, oe) :: pn)) (.Attribute e n pos) (tXfA X.K a cls d n te) :=
  ⟨fun pins s σ H Q I ⟨_, T, hno, h⟩ => (pe_xf T hno hz hf he hb).run pins s σ H Q I h⟩
/-! ### list.count, flat items -/
def rCountF (K : PySem.W.Frag) : V → List V → Hp → VK → Prop := fun x xs H Q => ∃ (a : Addr) (ys : List V) (y : V), x = V.ref a ∧ xs = [y] ∧ SqL K H a ys ∧ flatV y = true ∧ ys.all flatV = true ∧ Q (.int ((ys.countP fun z => eqV z y : Nat) : Int)) H
theorem count_flat {y : V} : ∀ {ys : List V} {us : List Value}, Vals ys us → ys.all flatV = true → us.countP (eqU y) = ys.countP fun z => eqV z y
  | _, _, .nil, _ => rfl
  | z :: ys, u :: us, .cons r t, f => by
    rw [List.all_cons, Bool.and_eq_true] at f
    rw [List.countP_cons, List.countP_cons, eqU_of r f.1, count_flat t f.2]
theorem mt_countF : MtR X "list.count" (rCountF X.K) := by
  intro pins s σ H x xs v us Q I rx rxs h
  obtain ⟨a, ys, y, rfl, rfl, hs, fy, fys, q⟩ := h
  cases rx
  cases rxs with
  | cons ry rt =>
    rename_i uy ut
    cases rt
    obtain ⟨its, rv, ⟨⟨cls, dd, data, sl⟩, n, ho, hc, hdn, hd⟩, hlen⟩ := I.list hs
    simp only at hc hd
    subst hc hd
    refine call_meets PySem.F.slot_list_count ⟨_, ho, rfl⟩ PySem.F.entry_list_count (PySem.F.args_list_count_2 _ _) (SeqAt.list_countAt a its.toArray n dd sl uy (eqU y)) ⟨ho, fun u' hu' => mem_eqAt ry fy rv fys u' (by simpa using hu'), ?_⟩
    have ec : its.toArray.toList.countP (eqU y) = ys.countP fun z => eqV z y := count_flat rv fys
    refine ⟨.int ((ys.countP fun z => eqV z y : Nat) : Int), H, I.tok _, ⟨s.toks, ?_⟩, q⟩
    show Value.int ((its.toArray.toList.countP (eqU y) : Nat) : Int) s.toks = _
    rw [ec]
end
end LM
set_option Elab.async false
set_option maxRecDepth 100000
set_option maxHeartbeats 4000000
set_option pp.maxSteps 400
namespace RS
open PySem PySem.Spec PyProof.Rows L2 GX LM
/-! ### the law's reading of errors -/
def nm15 : List Str := ["BadKinds", "BadOrder", "BadRows", "BadRuns", "BadRoom", "BadLengths", "BadPlan", "BadPaper", "BadCount", "BadBlock", "Stopped", "Shut", "NotYet", "Empty", "BadText"]
def ysJ (j : Nat) : List V := (List.range 15).map fun i => V.bl (decide (i = j))
theorem ysJ_ok : ∀ j < 15, (ysJ j).all flatV = true ∧ ((ysJ j).countP fun z => eqV z (.bl true)) = 1 ∧ (ysJ j)[j]? = some (.bl true) ∧ ∀ m < j, (ysJ j)[m]? = some (.bl false) := by decide +kernel
theorem nm15_ok : ∀ j < 15, (nm15.map V.str)[j]? = some (.str (nm15.getD j "")) := by decide +kernel
/-- the classes of the errors -/
structure Cls15 (mg : Str → Option Value) (C : Nat → Addr) : Prop where
  g0 : mg "BadKinds" = some (.ref (C 0))
  g1 : mg "BadOrder" = some (.ref (C 1))
  g2 : mg "BadRows" = some (.ref (C 2))
  g3 : mg "BadRuns" = some (.ref (C 3))
  g4 : mg "BadRoom" = some (.ref (C 4))
  g5 : mg "BadLengths" = some (.ref (C 5))
  g6 : mg "BadPlan" = some (.ref (C 6))
  g7 : mg "BadPaper" = some (.ref (C 7))
  g8 : mg "BadCount" = some (.ref (C 8))
  g9 : mg "BadBlock" = some (.ref (C 9))
  g10 : mg "Stopped" = some (.ref (C 10))
  g11 : mg "Shut" = some (.ref (C 11))
  g12 : mg "NotYet" = some (.ref (C 12))
  g13 : mg "Empty" = some (.ref (C 13))
  g14 : mg "BadText" = some (.ref (C 14))
/-- D is the class j, and none of the others -/
structure Own15 (K : PySem.W.Frag) (C : Nat → Addr) (D : Addr) (j : Nat) : Prop where
  lt : j < 15
  exc : ExcC K D
  one : ∀ i, i < 15 → PySem.W.kitOne K (.ref D) (.ref (C i)) = some (decide (i = j))
  ve : PySem.W.kitOne K (.ref D) (.type "ValueError") = some true
theorem dictAt_same {d : Option Addr} {H H' : Hp} (h : DictAt d H) (s : Same H H') : DictAt d H' := fun dd e => by
  obtain ⟨fs, z⟩ := h dd e
  exact ⟨fs, s _ _ z⟩
section
variable {P : Program} {w : World} {K : PySem.W.Frag} {mg : Str → Option Value} {base : Heap}
theorem scClass : FnScope ["_law_e", nKinds, "_law_words"] ["_law_e"] (defScope sClass) := ⟨rfl, rfl, rfl, by decide +kernel, rfl, by decide +kernel, by decide +kernel⟩
def spClass (K : PySem.W.Frag) (C : Nat → Addr) : SpW := fun a cls d vs H Q _ => ∃ (D : Addr) (j : Nat), vs = [.ref a] ∧ cls = .ref D ∧ Own15 K C D j ∧ DictAt d H ∧ ∀ H', Same H H' → Q (.str (nm15.getD j "")) H'
theorem class_ok {c : Addr} {C : Nat → Addr} (DD : DefAt K mg "_law_class" sClass c) (T : Txt K mg) (G : Cls15 mg C) (hve : mg "ValueError" = none) : CalW P w K mg base 1 "_law_class" ["_law_e"] (spClass K C) := by
  have sc := scClass
  refine def_okW DD sc (fun a cls d vs H Q E h => ?_) (fun _ _ _ _ _ _ us hl => match us, hl with | [_], _ => rfl) (fun f A outer s H vs Q E p cls d hr hz hf h => ?_)
  · obtain ⟨D, j, rfl, _⟩ := h
    rfl
  · obtain ⟨D, j, rfl, rfl, O, hd, k⟩ := h
    refine ⟨_, (pss_cons (ps_set (i := 1) sc.nd rfl (Or.inl rfl) (pe_lst (pa_cons (pe_callB (call_isW O.exc List.mem_cons_self hz hf) (by rfl) T.isinstance (by decide +kernel) (pa_cons (pv 0) (pa_cons (pe_glob (v := V.ref (C 0)) (by rfl) G.g0 rfl) pa_nil))) (pa_cons (pe_callB (call_isW O.exc List.mem_cons_self hz hf) (by rfl) T.isinstance (by decide +kernel) (pa_cons (pv 0) (pa_cons (pe_glob (v := V.ref (C 1)) (by rfl) G.g1 rfl) pa_nil))) (pa_cons (pe_callB (call_isW O.exc List.mem_cons_self hz hf) (by rfl) T.isinstance (by decide +kernel) (pa_cons (pv 0) (pa_cons (pe_glob (v := V.ref (C 2)) (by rfl) G.g2 rfl) pa_nil))) (pa_cons (pe_callB (call_isW O.exc List.mem_cons_self hz hf) (by rfl) T.isinstance (by decide +kernel) (pa_cons (pv 0) (pa_cons (pe_glob (v := V.ref (C 3)) (by rfl) G.g3 rfl) pa_nil))) pa_nil)))))) (pss_cons (ps_set (i := 1) sc.nd rfl (Or.inl rfl) (pe_op op_cat (pv 1) (pe_lst (pa_cons (pe_callB (call_isW O.exc List.mem_cons_self hz hf) (by rfl) T.isinstance (by decide +kernel) (pa_cons (pv 0) (pa_cons (pe_glob (v := V.ref (C 4)) (by rfl) G.g4 rfl) pa_nil))) (pa_cons (pe_callB (call_isW O.exc List.mem_cons_self hz hf) (by rfl) T.isinstance (by decide +kernel) (pa_cons (pv 0) (pa_cons (pe_glob (v := V.ref (C 5)) (by rfl) G.g5 rfl) pa_nil))) (pa_cons (pe_callB (call_isW O.exc List.mem_cons_self hz hf) (by rfl) T.isinstance (by decide +kernel) (pa_cons (pv 0) (pa_cons (pe_glob (v := V.ref (C 6)) (by rfl) G.g6 rfl) pa_nil))) (pa_cons (pe_callB (call_isW O.exc List.mem_cons_self hz hf) (by rfl) T.isinstance (by decide +kernel) (pa_cons (pv 0) (pa_cons (pe_glob (v := V.ref (C 7)) (by rfl) G.g7 rfl) pa_nil))) pa_nil))))))) (pss_cons (ps_set (i := 1) sc.nd rfl (Or.inl rfl) (pe_op op_cat (pv 1) (pe_lst (pa_cons (pe_callB (call_isW O.exc List.mem_cons_self hz hf) (by rfl) T.isinstance (by decide +kernel) (pa_cons (pv 0) (pa_cons (pe_glob (v := V.ref (C 8)) (by rfl) G.g8 rfl) pa_nil))) (pa_cons (pe_callB (call_isW O.exc List.mem_cons_self hz hf) (by rfl) T.isinstance (by decide +kernel) (pa_cons (pv 0) (pa_cons (pe_glob (v := V.ref (C 9)) (by rfl) G.g9 rfl) pa_nil))) (pa_cons (pe_callB (call_isW O.exc List.mem_cons_self hz hf) (by rfl) T.isinstance (by decide +kernel) (pa_cons (pv 0) (pa_cons (pe_glob (v := V.ref (C 10)) (by rfl) G.g10 rfl) pa_nil))) (pa_cons (pe_callB (call_isW O.exc List.mem_cons_self hz hf) (by rfl) T.isinstance (by decide +kernel) (pa_cons (pv 0) (pa_cons (pe_glob (v := V.ref (C 11)) (by rfl) G.g11 rfl) pa_nil))) pa_nil))))))) (pss_cons (ps_set (i := 1) sc.nd rfl (Or.inl rfl) (pe_op op_cat (pv 1) (pe_lst (pa_cons (pe_callB (call_isW O.exc List.mem_cons_self hz hf) (by rfl) T.isinstance (by decide +kernel) (pa_cons (pv 0) (pa_cons (pe_glob (v := V.ref (C 12)) (by rfl) G.g12 rfl) pa_nil))) (pa_cons (pe_callB (call_isW O.exc List.mem_cons_self hz hf) (by rfl) T.isinstance (by decide +kernel) (pa_cons (pv 0) (pa_cons (pe_glob (v := V.ref (C 13)) (by rfl) G.g13 rfl) pa_nil))) (pa_cons (pe_callB (call_isW O.exc List.mem_cons_self hz hf) (by rfl) T.isinstance (by decide +kernel) (pa_cons (pv 0) (pa_cons (pe_glob (v := V.ref (C 14)) (by rfl) G.g14 rfl) pa_nil))) pa_nil)))))) (pss_cons (ps_set (i := 2) sc.nd rfl (Or.inl rfl) (pe_lst (pa_cons pe_str (pa_cons pe_str (pa_cons pe_str (pa_cons pe_str (pa_cons pe_str (pa_cons pe_str (pa_cons pe_str (pa_cons pe_str (pa_cons pe_str pa_nil))))))))))) (pss_cons (ps_set (i := 2) sc.nd rfl (Or.inl rfl) (pe_op op_cat (pv 2) (pe_lst (pa_cons pe_str (pa_cons pe_str (pa_cons pe_str (pa_cons pe_str (pa_cons pe_str (pa_cons pe_str pa_nil))))))))) (pss_one (ps_ret (pe_ifExp (pw_and (pt_cmpR op_eq (pe_bm PySem.F.plainAttrs_list PySem.F.slot_list_count PySem.F.type_list_count mt_countF (pv 1) (pa_cons pe_bl pa_nil)) pe_int (nomark _)) (pw_and1 (pt_val (pe_callB (call_isW O.exc List.mem_cons_self hz hf) (by rfl) T.isinstance (by decide +kernel) (pa_cons (pv 0) (pa_cons (pe_bltn (v := V.ty "ValueError") (u := Value.type "ValueError") (by rfl) hve (by decide +kernel) rfl) pa_nil)))))).pt (pe_ix ix_list (pv 2) (pe_bm PySem.F.plainAttrs_list PySem.F.slot_list_index PySem.F.type_list_index mt_index (pv 1) (pa_cons pe_bl pa_nil)) (fun _ _ => rfl)) pe_str))))))))), ?_⟩
    refine ⟨_, rfl, _, _, _, rfl, (fun _ r => r), hd, O.one 0 (by decide), _, rfl, _, _, _, rfl, (fun _ r => r), hd, O.one 1 (by decide), _, rfl, _, _, _, rfl, (fun _ r => r), hd, O.one 2 (by decide), _, rfl, _, _, _, rfl, (fun _ r => r), hd, O.one 3 (by decide), by show 4 ≤ sizeLine; decide, fun k1 h1 => ?_⟩
    have s1 := sameNew (o := .lst [.bl (decide (0 = j)), .bl (decide (1 = j)), .bl (decide (2 = j)), .bl (decide (3 = j))]) (Same.refl H) h1
    have e1 : upd H k1 (.lst [.bl (decide (0 = j)), .bl (decide (1 = j)), .bl (decide (2 = j)), .bl (decide (3 = j))]) k1 = some (.lst [.bl (decide (0 = j)), .bl (decide (1 = j)), .bl (decide (2 = j)), .bl (decide (3 = j))]) := upd_same
    have hd1 := dictAt_same hd s1
    generalize upd H k1 (.lst [.bl (decide (0 = j)), .bl (decide (1 = j)), .bl (decide (2 = j)), .bl (decide (3 = j))]) = H1 at s1 e1 hd1 ⊢
    refine ⟨_, rfl, _, rfl, _, _, _, rfl, (fun _ r => r), hd1, O.one 4 (by decide), _, rfl, _, _, _, rfl, (fun _ r => r), hd1, O.one 5 (by decide), _, rfl, _, _, _, rfl, (fun _ r => r), hd1, O.one 6 (by decide), _, rfl, _, _, _, rfl, (fun _ r => r), hd1, O.one 7 (by decide), by show 4 ≤ sizeLine; decide, fun m2 hm2 => ?_⟩
    have t2 := sameNew (o := .lst [.bl (decide (4 = j)), .bl (decide (5 = j)), .bl (decide (6 = j)), .bl (decide (7 = j))]) (Same.refl H1) hm2
    have f2 : upd H1 m2 (.lst [.bl (decide (4 = j)), .bl (decide (5 = j)), .bl (decide (6 = j)), .bl (decide (7 = j))]) m2 = some (.lst [.bl (decide (4 = j)), .bl (decide (5 = j)), .bl (decide (6 = j)), .bl (decide (7 = j))]) := upd_same
    have e2' := t2 _ _ e1
    generalize upd H1 m2 (.lst [.bl (decide (4 = j)), .bl (decide (5 = j)), .bl (decide (6 = j)), .bl (decide (7 = j))]) = G2 at t2 f2 e2' ⊢
    refine ⟨k1, m2, _, _, rfl, rfl, e2', f2, by show 8 ≤ sizeLine; decide, fun k2 h2 => ?_⟩
    have s2 := sameNew (o := .lst ([.bl (decide (0 = j)), .bl (decide (1 = j)), .bl (decide (2 = j)), .bl (decide (3 = j))] ++ [.bl (decide (4 = j)), .bl (decide (5 = j)), .bl (decide (6 = j)), .bl (decide (7 = j))])) (s1.trans t2) h2
    have e2 : upd G2 k2 (.lst ([.bl (decide (0 = j)), .bl (decide (1 = j)), .bl (decide (2 = j)), .bl (decide (3 = j))] ++ [.bl (decide (4 = j)), .bl (decide (5 = j)), .bl (decide (6 = j)), .bl (decide (7 = j))])) k2 = some (.lst ([.bl (decide (0 = j)), .bl (decide (1 = j)), .bl (decide (2 = j)), .bl (decide (3 = j))] ++ [.bl (decide (4 = j)), .bl (decide (5 = j)), .bl (decide (6 = j)), .bl (decide (7 = j))])) := upd_same
    have hd2 := dictAt_same hd s2
    generalize upd G2 k2 (.lst ([.bl (decide (0 = j)), .bl (decide (1 = j)), .bl (decide (2 = j)), .bl (decide (3 = j))] ++ [.bl (decide (4 = j)), .bl (decide (5 = j)), .bl (decide (6 = j)), .bl (decide (7 = j))])) = H2 at s2 e2 hd2 ⊢
    refine ⟨_, rfl, _, rfl, _, _, _, rfl, (fun _ r => r), hd2, O.one 8 (by decide), _, rfl, _, _, _, rfl, (fun _ r => r), hd2, O.one 9 (by decide), _, rfl, _, _, _, rfl, (fun _ r => r), hd2, O.one 10 (by decide), _, rfl, _, _, _, rfl, (fun _ r => r), hd2, O.one 11 (by decide), by show 4 ≤ sizeLine; decide, fun m3 hm3 => ?_⟩
    have t3 := sameNew (o := .lst [.bl (decide (8 = j)), .bl (decide (9 = j)), .bl (decide (10 = j)), .bl (decide (11 = j))]) (Same.refl H2) hm3
    have f3 : upd H2 m3 (.lst [.bl (decide (8 = j)), .bl (decide (9 = j)), .bl (decide (10 = j)), .bl (decide (11 = j))]) m3 = some (.lst [.bl (decide (8 = j)), .bl (decide (9 = j)), .bl (decide (10 = j)), .bl (decide (11 = j))]) := upd_same
    have e3' := t3 _ _ e2
    generalize upd H2 m3 (.lst [.bl (decide (8 = j)), .bl (decide (9 = j)), .bl (decide (10 = j)), .bl (decide (11 = j))]) = G3 at t3 f3 e3' ⊢
    refine ⟨k2, m3, _, _, rfl, rfl, e3', f3, by show 12 ≤ sizeLine; decide, fun k3 h3 => ?_⟩
    have s3 := sameNew (o := .lst (([.bl (decide (0 = j)), .bl (decide (1 = j)), .bl (decide (2 = j)), .bl (decide (3 = j))] ++ [.bl (decide (4 = j)), .bl (decide (5 = j)), .bl (decide (6 = j)), .bl (decide (7 = j))]) ++ [.bl (decide (8 = j)), .bl (decide (9 = j)), .bl (decide (10 = j)), .bl (decide (11 = j))])) (s2.trans t3) h3
    have e3 : upd G3 k3 (.lst ([.bl (decide (0 = j)), .bl (decide (1 = j)), .bl (decide (2 = j)), .bl (decide (3 = j))] ++ [.bl (decide (4 = j)), .bl (decide (5 = j)), .bl (decide (6 = j)), .bl (decide (7 = j))] ++ [.bl (decide (8 = j)), .bl (decide (9 = j)), .bl (decide (10 = j)), .bl (decide (11 = j))])) k3 = some (.lst ([.bl (decide (0 = j)), .bl (decide (1 = j)), .bl (decide (2 = j)), .bl (decide (3 = j))] ++ [.bl (decide (4 = j)), .bl (decide (5 = j)), .bl (decide (6 = j)), .bl (decide (7 = j))] ++ [.bl (decide (8 = j)), .bl (decide (9 = j)), .bl (decide (10 = j)), .bl (decide (11 = j))])) := upd_same
    have hd3 := dictAt_same hd s3
    generalize upd G3 k3 (.lst ([.bl (decide (0 = j)), .bl (decide (1 = j)), .bl (decide (2 = j)), .bl (decide (3 = j))] ++ [.bl (decide (4 = j)), .bl (decide (5 = j)), .bl (decide (6 = j)), .bl (decide (7 = j))] ++ [.bl (decide (8 = j)), .bl (decide (9 = j)), .bl (decide (10 = j)), .bl (decide (11 = j))])) = H3 at s3 e3 hd3 ⊢
    refine ⟨_, rfl, _, rfl, _, _, _, rfl, (fun _ r => r), hd3, O.one 12 (by decide), _, rfl, _, _, _, rfl, (fun _ r => r), hd3, O.one 13 (by decide), _, rfl, _, _, _, rfl, (fun _ r => r), hd3, O.one 14 (by decide), by show 3 ≤ sizeLine; decide, fun m4 hm4 => ?_⟩
    have t4 := sameNew (o := .lst [.bl (decide (12 = j)), .bl (decide (13 = j)), .bl (decide (14 = j))]) (Same.refl H3) hm4
    have f4 : upd H3 m4 (.lst [.bl (decide (12 = j)), .bl (decide (13 = j)), .bl (decide (14 = j))]) m4 = some (.lst [.bl (decide (12 = j)), .bl (decide (13 = j)), .bl (decide (14 = j))]) := upd_same
    have e4' := t4 _ _ e3
    generalize upd H3 m4 (.lst [.bl (decide (12 = j)), .bl (decide (13 = j)), .bl (decide (14 = j))]) = G4 at t4 f4 e4' ⊢
    refine ⟨k3, m4, _, _, rfl, rfl, e4', f4, by show 15 ≤ sizeLine; decide, fun k4 h4 => ?_⟩
    have s4 := sameNew (o := .lst (([.bl (decide (0 = j)), .bl (decide (1 = j)), .bl (decide (2 = j)), .bl (decide (3 = j))] ++ [.bl (decide (4 = j)), .bl (decide (5 = j)), .bl (decide (6 = j)), .bl (decide (7 = j))] ++ [.bl (decide (8 = j)), .bl (decide (9 = j)), .bl (decide (10 = j)), .bl (decide (11 = j))]) ++ [.bl (decide (12 = j)), .bl (decide (13 = j)), .bl (decide (14 = j))])) (s3.trans t4) h4
    have e4 : upd G4 k4 (.lst ([.bl (decide (0 = j)), .bl (decide (1 = j)), .bl (decide (2 = j)), .bl (decide (3 = j))] ++ [.bl (decide (4 = j)), .bl (decide (5 = j)), .bl (decide (6 = j)), .bl (decide (7 = j))] ++ [.bl (decide (8 = j)), .bl (decide (9 = j)), .bl (decide (10 = j)), .bl (decide (11 = j))] ++ [.bl (decide (12 = j)), .bl (decide (13 = j)), .bl (decide (14 = j))])) k4 = some (.lst ([.bl (decide (0 = j)), .bl (decide (1 = j)), .bl (decide (2 = j)), .bl (decide (3 = j))] ++ [.bl (decide (4 = j)), .bl (decide (5 = j)), .bl (decide (6 = j)), .bl (decide (7 = j))] ++ [.bl (decide (8 = j)), .bl (decide (9 = j)), .bl (decide (10 = j)), .bl (decide (11 = j))] ++ [.bl (decide (12 = j)), .bl (decide (13 = j)), .bl (decide (14 = j))])) := upd_same
    have hd4 := dictAt_same hd s4
    generalize upd G4 k4 (.lst ([.bl (decide (0 = j)), .bl (decide (1 = j)), .bl (decide (2 = j)), .bl (decide (3 = j))] ++ [.bl (decide (4 = j)), .bl (decide (5 = j)), .bl (decide (6 = j)), .bl (decide (7 = j))] ++ [.bl (decide (8 = j)), .bl (decide (9 = j)), .bl (decide (10 = j)), .bl (decide (11 = j))] ++ [.bl (decide (12 = j)), .bl (decide (13 = j)), .bl (decide (14 = j))])) = H4 at s4 e4 hd4 ⊢
    have e4 : H4 k4 = some (.lst (ysJ j)) := e4
    refine ⟨by show 9 ≤ sizeLine; decide, fun a1 ha1 => ?_⟩
    have u1 := sameNew (o := .lst ((nm15.take 9).map V.str)) (Same.refl H4) ha1
    have g1 : upd H4 a1 (.lst ((nm15.take 9).map V.str)) a1 = some (.lst ((nm15.take 9).map V.str)) := upd_same
    refine ⟨_, rfl, by show 6 ≤ sizeLine; decide, fun a2 ha2 => ?_⟩
    have u2 := sameNew (o := .lst ((nm15.drop 9).map V.str)) (Same.refl (upd H4 a1 (.lst ((nm15.take 9).map V.str)))) ha2
    have g2 : upd (upd H4 a1 (.lst ((nm15.take 9).map V.str))) a2 (.lst ((nm15.drop 9).map V.str)) a2 = some (.lst ((nm15.drop 9).map V.str)) := upd_same
    refine ⟨a1, a2, (nm15.take 9).map V.str, (nm15.drop 9).map V.str, rfl, rfl, u2 _ _ g1, g2, by show 15 ≤ sizeLine; decide, fun a3 ha3 => ?_⟩
    have u3 := sameNew (o := .lst ((nm15.take 9).map V.str ++ (nm15.drop 9).map V.str)) ((s4.trans u1).trans u2) ha3
    have u43 := sameNew (o := .lst ((nm15.take 9).map V.str ++ (nm15.drop 9).map V.str)) (u1.trans u2) ha3
    have g3 : upd (upd (upd H4 a1 (.lst ((nm15.take 9).map V.str))) a2 (.lst ((nm15.drop 9).map V.str))) a3 (.lst ((nm15.take 9).map V.str ++ (nm15.drop 9).map V.str)) a3 = some (.lst (nm15.map V.str)) := upd_same
    have e5 := u43 _ _ e4
    have hd5 := dictAt_same hd u3
    have k5 := k _ u3
    obtain ⟨y1, y2, y3, y4⟩ := ysJ_ok j O.lt
    refine ⟨_, rfl, .inl ⟨rfl, _, SqL.of e5⟩, k4, ysJ j, .bl true, rfl, rfl, SqL.of e5, rfl, y1, ?_⟩
    rw [y2]
    refine ⟨rfl, _, rfl, iteT' rfl ?_⟩
    refine ⟨_, rfl, _, _, _, rfl, (fun _ r => r), hd5, O.ve, _, rfl, iteT ?_⟩
    refine ⟨_, rfl, _, rfl, .inl ⟨rfl, _, SqL.of e5⟩, k4, ysJ j, .bl true, j, .bl true, rfl, rfl, SqL.of e5, rfl, y1, y3, rfl, fun m z hm hz => ?_, ?_⟩
    · rw [y4 m hm] at hz
      cases hz
      rfl
    · exact ⟨a3, _, _, _, rfl, rfl, SqL.of g3, atI_nat (nm15_ok j O.lt), k5⟩
end
end RS
set_option Elab.async false
set_option maxRecDepth 100000
set_option maxHeartbeats 8000000
namespace RS
open PySem PySem.Spec PyProof.Rows L2 GX
section
variable {P : Program} {w : World} {K : PySem.W.Frag} {mg : Str → Option Value} {base : Heap}
theorem scAlike : FnScope ["_law_found", "_law_due", "_law_k"] ["_law_found", "_law_due"] (defScope sAlike) := ⟨rfl, rfl, rfl, by decide +kernel, rfl, by decide +kernel, by decide +kernel⟩
def spAlike (K : PySem.W.Frag) (n : Nat) : Sp := fun vs H Q _ => ∃ (v1 v2 : V) (d : PyData), vs = [v1, v2] ∧ Dp K H v1 d ∧ Dp K H v2 d ∧ few d ∧ d.depth ≤ n ∧ Q (.bl true) H
set_option linter.unusedVariables false in
theorem alike_none {c : Addr} (D : DefAt K mg "_law_alike" sAlike c) : Cal P w K mg base CX0 1 "_law_alike" ["_law_found", "_law_due"] (fun _ _ _ _ => False) :=
  def_ok0 D scAlike (fun vs H Q E h => h.elim) (fun _ _ _ _ _ _ us hl => match us, hl with | [_, _], _ => rfl) (fun f A outer s H vs Q E hr h => h.elim)
theorem alike_step {c : Addr} (D : DefAt K mg "_law_alike" sAlike c) (T : Txt K mg) {j : Nat} (n : Nat) {sp : Sp} (hj : 1 ≤ j) (cR : Cal P w K mg base CX0 j "_law_alike" ["_law_found", "_law_due"] sp)
    (hsp : ∀ (v1 v2 : V) (d : PyData) (H : Hp) (Q : VK) (E : XK), Dp K H v1 d → Dp K H v2 d → few d → d.depth + 1 ≤ n → Q (.bl true) H → sp [v1, v2] H Q E) : Cal P w K mg base CX0 (j + 1) "_law_alike" ["_law_found", "_law_due"] (spAlike K n) := by
  have sc := scAlike
  refine def_ok0 D sc (fun vs H Q E h => ?_) (fun _ _ _ _ _ _ us hl => match us, hl with | [_, _], _ => rfl) (fun f A outer s H vs Q E hr h => ?_)
  · obtain ⟨v1, v2, d, rfl, _⟩ := h
    rfl
  · obtain ⟨v1, v2, d, rfl, h1, h2, hf, hn, k⟩ := h
    refine ⟨_, (pss_cons (ps_if (pt_cmpR op_isN (pv 1) pe_non (nomark _)) (pss_one (ps_ret (pe_cmpR op_isN (pv 0) pe_non (nomark _)))) pss_nil) (pss_cons (ps_if (pt_val (pe_callB call_isiD (by rfl) T.isinstance (by decide +kernel) (pa_cons (pv 1) (pa_cons (pe_bltn (v := V.ty "bool") (u := Value.type "bool") (by rfl) T.bool_ (by decide +kernel) rfl) pa_nil)))) (pss_one (ps_ret (pe_and (pe_callB call_isiD (by rfl) T.isinstance (by decide +kernel) (pa_cons (pv 0) (pa_cons (pe_bltn (v := V.ty "bool") (u := Value.type "bool") (by rfl) T.bool_ (by decide +kernel) rfl) pa_nil))) (pe_one (pe_cmpR op_eq (pv 0) (pv 1) (nomark _)))))) pss_nil) (pss_cons (ps_if (pt_val (pe_callB call_isiD (by rfl) T.isinstance (by decide +kernel) (pa_cons (pv 1) (pa_cons (pe_bltn (v := V.ty "int") (u := Value.type "int") (by rfl) T.int_ (by decide +kernel) rfl) pa_nil)))) (pss_one (ps_ret (pe_and (pe_callB call_isiD (by rfl) T.isinstance (by decide +kernel) (pa_cons (pv 0) (pa_cons (pe_bltn (v := V.ty "int") (u := Value.type "int") (by rfl) T.int_ (by decide +kernel) rfl) pa_nil))) (pe_and (pe_not (pe_callB call_isiD (by rfl) T.isinstance (by decide +kernel) (pa_cons (pv 0) (pa_cons (pe_bltn (v := V.ty "bool") (u := Value.type "bool") (by rfl) T.bool_ (by decide +kernel) rfl) pa_nil)))) (pe_one (pe_cmpR op_eq (pv 0) (pv 1) (nomark _))))))) pss_nil) (pss_cons (ps_if (pt_val (pe_callB call_isiD (by rfl) T.isinstance (by decide +kernel) (pa_cons (pv 1) (pa_cons (pe_bltn (v := V.ty "str") (u := Value.type "str") (by rfl) T.str_ (by decide +kernel) rfl) pa_nil)))) (pss_one (ps_ret (pe_and (pe_callB call_isiD (by rfl) T.isinstance (by decide +kernel) (pa_cons (pv 0) (pa_cons (pe_bltn (v := V.ty "str") (u := Value.type "str") (by rfl) T.str_ (by decide +kernel) rfl) pa_nil))) (pe_one (pe_cmpR op_eq (pv 0) (pv 1) (nomark _)))))) pss_nil) (pss_cons (ps_if ((pw_or (pt_cmpR op_ne (pe_callB call_isiD (by rfl) T.isinstance (by decide +kernel) (pa_cons (pv 1) (pa_cons (pe_bltn (v := V.ty "tuple") (u := Value.type "tuple") (by rfl) T.tuple_ (by decide +kernel) rfl) pa_nil))) (pe_callB call_isiD (by rfl) T.isinstance (by decide +kernel) (pa_cons (pv 0) (pa_cons (pe_bltn (v := V.ty "tuple") (u := Value.type "tuple") (by rfl) T.tuple_ (by decide +kernel) rfl) pa_nil))) (nomark _)) (pw_or1 (pt_cmpR op_ne (pe_callB call_isiD (by rfl) T.isinstance (by decide +kernel) (pa_cons (pv 1) (pa_cons (pe_bltn (v := V.ty "list") (u := Value.type "list") (by rfl) T.list_ (by decide +kernel) rfl) pa_nil))) (pe_callB call_isiD (by rfl) T.isinstance (by decide +kernel) (pa_cons (pv 0) (pa_cons (pe_bltn (v := V.ty "list") (u := Value.type "list") (by rfl) T.list_ (by decide +kernel) rfl) pa_nil))) (nomark _)))).pt) (pss_one (ps_ret pe_bl)) pss_nil) (pss_cons (ps_if (pt_cmpR op_ne (pe_callB call_lenD (by rfl) T.len PySem.boot_len (pa_cons (pv 0) pa_nil)) (pe_callB call_lenD (by rfl) T.len PySem.boot_len (pa_cons (pv 1) pa_nil)) (nomark _)) (pss_one (ps_ret pe_bl)) pss_nil) (pss_cons (ps_for PassesOwn.never rfl (pi_range1 (by rfl) T.range (pa_cons (pe_callB call_lenD (by rfl) T.len PySem.boot_len (pa_cons (pv 1) pa_nil)) pa_nil)) (pg_name (i := 2) sc.nd rfl (Or.inl rfl)) (pss_one (ps_if (pt_not (pt_val (pe_c cR hr (by omega) (by rfl) pass0 (pa_cons (pe_ix ixD (pv 0) (pv 2) (fun _ _ => rfl)) (pa_cons (pe_ix ixD (pv 1) (pv 2) (fun _ _ => rfl)) pa_nil))))) (pss_one (ps_ret pe_bl)) pss_nil))) (pss_one (ps_ret pe_bl))))))))), ?_⟩
    refine ⟨_, rfl, rfl, _, rfl, ?_⟩
    cases h2 with
    | non =>
      cases h1
      exact iteT ⟨_, rfl, rfl, k⟩
    | bl b =>
      cases h1
      refine iteF ⟨_, rfl, _, _, _, rfl, by simp, .bl b, _, rfl, ?_⟩
      refine iteT ⟨_, rfl, _, _, _, rfl, by simp, .bl b, _, rfl, ?_⟩
      refine iteT ⟨_, rfl, _, rfl, rfl, ?_⟩
      have e : decide (V.bl b = V.bl b) = true := decide_eq_true rfl
      rw [e]
      exact k
    | int i =>
      cases h1
      refine iteF ⟨_, rfl, _, _, _, rfl, by simp, .int i, _, rfl, ?_⟩
      refine iteF ⟨_, rfl, _, _, _, rfl, by simp, .int i, _, rfl, ?_⟩
      refine iteT ⟨_, rfl, _, _, _, rfl, by simp, .int i, _, rfl, ?_⟩
      refine iteT ⟨_, rfl, _, _, _, rfl, by simp, .int i, _, rfl, _, rfl, ?_⟩
      refine iteT ⟨_, rfl, _, rfl, rfl, ?_⟩
      have e : decide (V.int i = V.int i) = true := decide_eq_true rfl
      rw [e]
      exact k
    | str x =>
      cases h1
      refine iteF ⟨_, rfl, _, _, _, rfl, by simp, .str x, _, rfl, ?_⟩
      refine iteF ⟨_, rfl, _, _, _, rfl, by simp, .str x, _, rfl, ?_⟩
      refine iteF ⟨_, rfl, _, _, _, rfl, by simp, .str x, _, rfl, ?_⟩
      refine iteT ⟨_, rfl, _, _, _, rfl, by simp, .str x, _, rfl, ?_⟩
      refine iteT ⟨_, rfl, _, rfl, rfl, ?_⟩
      have e : decide (V.str x = V.str x) = true := decide_eq_true rfl
      rw [e]
      exact k
    | @lst a2 x2 ds q2 i2 =>
      have h2 : Dp K H (.ref a2) (.list ds) := .lst q2 i2
      have hds : ds.length ≤ 1000000 ∧ ∀ d ∈ ds, few d := by
        have : ds.length ≤ 1000000 ∧ fews ds := by simpa only [few] using hf
        exact ⟨this.1, fews_iff.mp this.2⟩
      have hdep : ∀ d ∈ ds, d.depth + 1 ≤ n := fun d hd => by
        have a : PyData.depthAll ds + 1 ≤ n := by simpa only [PyData.depth] using hn
        have := depth_mem hd
        omega
      obtain ⟨a1, rfl⟩ : ∃ a1, v1 = .ref a1 := by cases h1; exact ⟨_, rfl⟩
      refine iteF ⟨_, rfl, _, _, _, rfl, by simp, h2, _, rfl, ?_⟩
      refine iteF ⟨_, rfl, _, _, _, rfl, by simp, h2, _, rfl, ?_⟩
      refine iteF ⟨_, rfl, _, _, _, rfl, by simp, h2, _, rfl, ?_⟩
      refine iteF ⟨_, rfl, _, _, _, rfl, by simp, h2, _, rfl, _, _, _, rfl, by simp, h1, rfl, _, rfl, ?_⟩
      refine iteF' (by simp) ⟨_, rfl, _, _, _, rfl, by simp, h2, _, rfl, _, _, _, rfl, by simp, h1, rfl, _, rfl, ?_⟩
      refine iteF' (by simp) ⟨_, rfl, _, _, _, rfl, h1, rfl, _, rfl, _, _, _, rfl, h2, rfl, rfl, _, rfl, ?_⟩
      refine iteF' (by simp) ⟨_, rfl, _, _, _, rfl, h2, rfl, _, rfl, by omega, by omega, ?_⟩
      rw [Int.toNat_natCast]
      refine for_range (fun i σ H' => ∃ v3 : Option V, σ = [some (.ref a1), some (.ref a2), v3] ∧ H' = H) ⟨none, rfl, rfl⟩ ?_ ?_
      · rintro i σ H' hi ⟨v3, rfl, rfl⟩
        simp only [Int.zero_add]
        refine ⟨_, rfl, _, rfl, .list ds, ds, (i : Nat), ds[i], h1, rfl, rfl, atI_nat (List.getElem?_eq_getElem hi), fun w1 hw1 => ?_⟩
        refine ⟨_, rfl, _, rfl, .list ds, ds, (i : Nat), ds[i], h2, rfl, rfl, atI_nat (List.getElem?_eq_getElem hi), fun w2 hw2 => ?_⟩
        refine hsp w1 w2 ds[i] H' _ _ hw1 hw2 (hds.2 _ (List.getElem_mem hi)) (hdep _ (List.getElem_mem hi)) ⟨_, rfl, ?_⟩
        exact iteF ⟨_, rfl, rfl⟩
      · rintro σ H' ⟨v3, rfl, rfl⟩
        exact k
    | @tup a2 x2 ds q2 i2 =>
      have h2 : Dp K H (.ref a2) (.tuple ds) := .tup q2 i2
      have hds : ds.length ≤ 1000000 ∧ ∀ d ∈ ds, few d := by
        have : ds.length ≤ 1000000 ∧ fews ds := by simpa only [few] using hf
        exact ⟨this.1, fews_iff.mp this.2⟩
      have hdep : ∀ d ∈ ds, d.depth + 1 ≤ n := fun d hd => by
        have a : PyData.depthAll ds + 1 ≤ n := by simpa only [PyData.depth] using hn
        have := depth_mem hd
        omega
      obtain ⟨a1, rfl⟩ : ∃ a1, v1 = .ref a1 := by cases h1; exact ⟨_, rfl⟩
      refine iteF ⟨_, rfl, _, _, _, rfl, by simp, h2, _, rfl, ?_⟩
      refine iteF ⟨_, rfl, _, _, _, rfl, by simp, h2, _, rfl, ?_⟩
      refine iteF ⟨_, rfl, _, _, _, rfl, by simp, h2, _, rfl, ?_⟩
      refine iteF ⟨_, rfl, _, _, _, rfl, by simp, h2, _, rfl, _, _, _, rfl, by simp, h1, rfl, _, rfl, ?_⟩
      refine iteF' (by simp) ⟨_, rfl, _, _, _, rfl, by simp, h2, _, rfl, _, _, _, rfl, by simp, h1, rfl, _, rfl, ?_⟩
      refine iteF' (by simp) ⟨_, rfl, _, _, _, rfl, h1, rfl, _, rfl, _, _, _, rfl, h2, rfl, rfl, _, rfl, ?_⟩
      refine iteF' (by simp) ⟨_, rfl, _, _, _, rfl, h2, rfl, _, rfl, by omega, by omega, ?_⟩
      rw [Int.toNat_natCast]
      refine for_range (fun i σ H' => ∃ v3 : Option V, σ = [some (.ref a1), some (.ref a2), v3] ∧ H' = H) ⟨none, rfl, rfl⟩ ?_ ?_
      · rintro i σ H' hi ⟨v3, rfl, rfl⟩
        simp only [Int.zero_add]
        refine ⟨_, rfl, _, rfl, .tuple ds, ds, (i : Nat), ds[i], h1, rfl, rfl, atI_nat (List.getElem?_eq_getElem hi), fun w1 hw1 => ?_⟩
        refine ⟨_, rfl, _, rfl, .tuple ds, ds, (i : Nat), ds[i], h2, rfl, rfl, atI_nat (List.getElem?_eq_getElem hi), fun w2 hw2 => ?_⟩
        refine hsp w1 w2 ds[i] H' _ _ hw1 hw2 (hds.2 _ (List.getElem_mem hi)) (hdep _ (List.getElem_mem hi)) ⟨_, rfl, ?_⟩
        exact iteF ⟨_, rfl, rfl⟩
      · rintro σ H' ⟨v3, rfl, rfl⟩
        exact k
theorem alike_ok {c : Addr} (D : DefAt K mg "_law_alike" sAlike c) (T : Txt K mg) : ∀ n : Nat, Cal P w K mg base CX0 (n + 2) "_law_alike" ["_law_found", "_law_due"] (spAlike K n)
  | 0 => alike_step D T 0 (Nat.le_refl _) (alike_none D) (fun _ _ _ _ _ _ _ _ _ h _ => by omega)
  | n + 1 => alike_step D T (n + 1) (by omega) (alike_ok D T n) (fun v1 v2 d H Q E h1 h2 h3 h4 q => ⟨v1, v2, d, rfl, h1, h2, h3, by omega, q⟩)
end
end RS
set_option Elab.async false
set_option maxRecDepth 100000
set_option maxHeartbeats 4000000
set_option pp.maxSteps 400
namespace RS
open PySem PySem.Spec PyProof.Rows L2 GX LM
theorem in_seqC {X : Cx} {K : PySem.W.Frag} (e : X.K = K) : OpR X (compareOp .In) (rIn K false) := by
  subst e
  exact op_in_seq
/-- what the law tells of an error beside its name -/
def ErrV (K : PySem.W.Frag) (D : Addr) (j : Nat) (d : Option Addr) (H : Hp) (v : Int) : Prop :=
  if j = 3 ∨ j = 2 ∨ j = 14 then XfC K D ∧ PySem.W.findIn K (.ref D) (if j = 3 then ("number" : Str) else "place") = some none ∧ ∃ (dd : Addr) (fs : List (Str × V)), d = some dd ∧ H dd = some (.xd fs) ∧ fs.lookup (if j = 3 then ("number" : Str) else "place") = some (.int v) else v = 0
section
variable {P : Program} {w : World} {K : PySem.W.Frag} {mg : Str → Option Value} {base : Heap}
theorem word_runs : ∀ j < 15, decide (V.str (nm15.getD j "") = V.str "BadRuns") = decide (j = 3) := by decide +kernel
theorem word_place : ∀ j < 15, inV (.str (nm15.getD j "")) [.str "BadRows", .str "BadText"] = decide (j = 2 ∨ j = 14) := by decide +kernel
theorem scTold : FnScope ["_law_work", "_law_e", "_law_word"] ["_law_work"] (defScope sTold) := ⟨rfl, rfl, rfl, by decide +kernel, rfl, by decide +kernel, by decide +kernel⟩
/-- an error of the class j leaves, with the number v -/
def ErrOk (K : PySem.W.Frag) (SE : Addr) (C : Nat → Addr) (Q : V → Hp → Prop) : XK := fun cls d H' => ∃ (D : Addr) (j : Nat) (v : Int), cls = .ref D ∧ Own15 K C D j ∧ PySem.W.exmOne K (.ref D) (.ref SE) = some true ∧ DictAt d H' ∧ ErrV K D j d H' v ∧
  ∀ (H'' : Hp) (t : Addr), Same H' H'' → H'' t = some (.tup [.str (nm15.getD j ""), .int v]) → Q (.ref t) H''
def spTold (P : Program) (w : World) (K : PySem.W.Frag) (mg : Str → Option Value) (base : Heap) (SE : Addr) (C : Nat → Addr) (n : Nat) : Sp := fun vs H Q _ => ∃ (f : Addr) (R : Hp → Prop) (tl : Hp → VK → XK → Prop), vs = [.ref f] ∧ Act P w K mg base n f R tl ∧ R H ∧ ∀ E : XK, (∀ cls d H', ErrOk K SE C Q cls d H' → E cls d H') → tl H Q E
theorem told_ok {c SE : Addr} {C : Nat → Addr} (DD : DefAt K mg "_law_told" sTold c) (n : Nat) (hn : 1 ≤ n) (gS : mg "SortError" = some (.ref SE)) (cC : CalW P w K mg base 1 "_law_class" ["_law_e"] (spClass K C)) : Cal P w K mg base CX0 (n + 1) "_law_told" ["_law_work"] (spTold P w K mg base SE C n) := by
  have sc := scTold
  refine def_ok0 DD sc (fun vs H Q E h => ?_) (fun _ _ _ _ _ _ us hl => match us, hl with | [_], _ => rfl) (fun f A outer s H vs Q E hr h => ?_)
  · obtain ⟨f, R, tl, rfl, _⟩ := h
    rfl
  · obtain ⟨g, R, tl, rfl, act, hR, ht⟩ := h
    refine ⟨_, pss_one (ps_try_as (X := (cxOf CX0 P w K mg base ["_law_work", "_law_e", "_law_word"] "_law_told" (defScope sTold) f (.ref c) A outer s H E).nox) (i := 1) (c := .ref SE) rfl rfl sc.nd rfl rfl ⟨rfl, by decide, .inl gS⟩ LamX.takes0 (fun W pn xe tk _ => pss_one (ps_ret (pe_act (P := P) (w := w) (K := K) (mg := mg) (base := base) rfl rfl rfl rfl rfl (fun σ => passAt tk σ) hr (Nat.le_refl _) (pv 0))))
      (fun a oe cls d pn hz hf => (pss_cons (ps_set (i := 2) sc.nd rfl (Or.inl rfl) (pe_cW (X := Cx.suite (cxOf CX0 P w K mg base ["_law_work", "_law_e", "_law_word"] "_law_told" (defScope sTold) f (.ref c) A outer s H E).nox a ((a, oe) :: pn)) (k := 1) (j := n) cC ⟨hr.dp, hr.un⟩ hn List.mem_cons_self hz hf (by rfl) (pa_cons (pv 1) pa_nil))) (pss_cons (ps_if (pt_cmpR op_eq (pv 2) pe_str (nomark _)) (pss_one (ps_ret (pe_tup (pa_cons (pv 2) (pa_cons (pe_xfA hz hf (pv 1)) pa_nil))))) pss_nil) (pss_one (ps_ret (pe_tup (pa_cons (pv 2) (pa_cons (pe_ifExp (pt_cmpR (in_seqC (K := K) rfl) (pv 2) (pe_tup (pa_cons pe_str (pa_cons pe_str pa_nil))) (by rfl)) (pe_xfA hz hf (pv 1)) pe_int) pa_nil))))))))), ?_⟩
    refine ⟨_, rfl, g, R, tl, rfl, act, hR, ht _ fun cls d H' ⟨D, j, v, ec, O, hm, hd, ev, q⟩ => ?_⟩
    subst ec
    refine ⟨true, hm, fun _ a ha => ?_, fun z => nomatch z⟩
    refine ⟨_, rfl, D, j, rfl, rfl, O, hd, fun H2 s2 => ?_⟩
    refine ⟨_, rfl, rfl, _, rfl, ?_⟩
    rw [word_runs j O.lt]
    unfold ErrV at ev
    by_cases h3 : j = 3
    · subst h3
      rw [if_pos (.inl rfl), if_pos rfl] at ev
      obtain ⟨x1, x2, dd, fs, e1, e2, e3⟩ := ev
      refine iteT' rfl ?_
      exact ⟨_, rfl, D, x1, x2, _, rfl, rfl, rfl, dd, fs, _, e1, s2 _ _ e2, e3, by show 2 ≤ sizeLine; decide, fun t ht => q _ t (sameNew s2 ht) upd_same⟩
    · refine iteF' (decide_eq_false h3) ?_
      refine ⟨_, rfl, _, rfl, by show 2 ≤ sizeLine; decide, fun tt htt => ?_⟩
      have s3 := sameNew (o := .tup [.str "BadRows", .str "BadText"]) s2 htt
      refine ⟨tt, _, rfl, .inr (SqT.of upd_same), rfl, rfl, _, rfl, ?_⟩
      rw [if_neg Bool.false_ne_true, word_place j O.lt]
      by_cases h2 : j = 2 ∨ j = 14
      · rw [if_pos (.inr h2), if_neg h3] at ev
        obtain ⟨x1, x2, dd, fs, e1, e2, e3⟩ := ev
        refine iteT' (decide_eq_true h2) ?_
        exact ⟨D, x1, x2, _, rfl, rfl, rfl, dd, fs, _, e1, s3 _ _ e2, e3, by show 2 ≤ sizeLine; decide, fun t ht => q _ t (sameNew s3 ht) upd_same⟩
      · rw [if_neg fun z => z.elim h3 h2] at ev
        subst ev
        refine iteF' (decide_eq_false h2) ?_
        exact ⟨by show 2 ≤ sizeLine; decide, fun t ht => q _ t (sameNew s3 ht) upd_same⟩
theorem scAll : FnScope ["_law_works", "_law_due", "_law_work"] ["_law_works", "_law_due"] (defScope sAll) := ⟨rfl, rfl, rfl, by decide +kernel, rfl, by decide +kernel, by decide +kernel⟩
/-- f, called now or behind more, tells dd -/
def Works (P : Program) (w : World) (K : PySem.W.Frag) (mg : Str → Option Value) (base : Heap) (SE : Addr) (C : Nat → Addr) (n : Nat) (f : Addr) (H : Hp) (dd : PyData) : Prop :=
  ∀ (H1 : Hp) (Q1 : VK), Same H H1 → (∀ x H2, Same H1 H2 → Dp K H2 x dd → Q1 x H2) → spTold P w K mg base SE C n [.ref f] H1 Q1 E0
def spAll (P : Program) (w : World) (K : PySem.W.Frag) (mg : Str → Option Value) (base : Heap) (SE : Addr) (C : Nat → Addr) (n : Nat) : Sp := fun vs H Q _ => ∃ (L : Addr) (fs : List Addr) (v : V) (dd : PyData), vs = [.ref L, v] ∧ H L = some (.lst (fs.map V.ref)) ∧ fs.length ≤ 20 ∧ Dp K H v dd ∧ few dd ∧ dd.depth ≤ 40 ∧
  (∀ f ∈ fs, Works P w K mg base SE C n f H dd) ∧ ∀ H', Same H H' → Q (.bl true) H'
theorem all_ok {c SE : Addr} {C : Nat → Addr} (DD : DefAt K mg "_law_all" sAll c) (n m : Nat) (h1 : n + 1 ≤ m) (h2 : 42 ≤ m) (cT : Cal P w K mg base CX0 (n + 1) "_law_told" ["_law_work"] (spTold P w K mg base SE C n)) (cA : Cal P w K mg base CX0 42 "_law_alike" ["_law_found", "_law_due"] (spAlike K 40)) :
    Cal P w K mg base CX0 (m + 1) "_law_all" ["_law_works", "_law_due"] (spAll P w K mg base SE C n) := by
  have sc := scAll
  refine def_ok0 DD sc (fun vs H Q E h => ?_) (fun _ _ _ _ _ _ us hl => match us, hl with | [_, _], _ => rfl) (fun f A outer s H vs Q E hr h => ?_)
  · obtain ⟨L, fs, v, dd, rfl, _⟩ := h
    rfl
  · obtain ⟨L, fs, v, dd, rfl, hL, l20, hv, hf, hdp, hw, k⟩ := h
    have hu := hr.units
    refine ⟨_, (pss_one (ps_ret (pe_cmpR (op_eqD hu) (pe_lc (own := [("_law_work", 2)]) (tt := _) rfl sc.nd (pi_list (pv 0)) (blkOk_by (N := ["_law_works", "_law_due", "_law_work"]) (sc := defScope sAll) (own := [("_law_work", 2)]) (by decide +kernel)) (fun _ _ _ _ _ => (pg_name (i := 2) sc.nd rfl (Or.inl rfl))) (fun _ _ _ _ _ => pts_one (pt_not (pt_val (pe_c cA hr h2 (by rfl) pass0 (pa_cons (pe_c cT hr h1 (by rfl) pass0 (pa_cons (pv 2) pa_nil)) (pa_cons (pv 1) pa_nil)))))) (fun _ _ _ _ _ => pv 2)) (pe_lst pa_nil) (nomark _)))), ?_⟩
    refine ⟨_, rfl, L, rfl, ⟨_, SqL.of hL⟩, fun DD hD => ?_⟩
    refine lc_list (K := K) (a := L) (xs := fs.map V.ref) (fun j H' => Same H H' ∧ H' DD = some (.lst [])) ⟨fun b o e => by rw [upd_ne (ne_of_none e hD)]; exact e, upd_same⟩ (fun j H4 _ h => h.1.seq (SqL.of hL)) ?_ ?_
    · rintro j x H4 hx ⟨sm, hl4⟩
      obtain ⟨g, eg, rfl⟩ : ∃ g, fs[j]? = some g ∧ x = V.ref g := by
        rw [List.getElem?_map] at hx
        cases z : fs[j]? with
        | none => rw [z] at hx; cases hx
        | some b => rw [z] at hx; exact ⟨b, rfl, (Option.some.inj hx).symm⟩
      refine ⟨rfl, _, rfl, hw g (List.mem_of_getElem? eg) H4 _ sm fun x H5 s5 hx5 => ?_⟩
      refine ⟨_, rfl, x, v, dd, rfl, hx5, dp_same s5 _ (dp_same sm _ hv), hf, hdp, _, rfl, ?_⟩
      exact iteF ⟨sm.trans s5, s5 _ _ hl4⟩
    · rintro H4 ⟨sm, hl4⟩
      refine ⟨Nat.zero_le _, fun E2 hE2 => ?_⟩
      have s6 := sameNew (o := .lst []) (Same.refl H4) hE2
      refine ⟨.list [], .list [], .lst (s6.seq (SqL.of hl4)) .nil, .lst (SqL.of upd_same) .nil, by decide +kernel, ?_⟩
      refine ⟨by decide +kernel, ?_⟩
      have e : PyData.eqv (.list []) (.list []) = true := by simp [PyData.eqv, PyData.eqvAll]
      rw [e]
      exact k _ (sm.trans s6)
end
end RS
set_option Elab.async false
set_option maxRecDepth 100000
set_option maxHeartbeats 4000000
namespace LM
open PySem PySem.Spec PyProof.Rows L2
open LamX (ExtN TabS TabB CodeO lamCx lamEnv)
/-! ### lambdas with one parameter that has a default -/
/-- the names of such a lambda: its parameter is no name of the maker's -/
structure LamSD (N : List Str) (sc scope : Scope) (p : Str) : Prop where
  kind : scope.kind = .function
  co : scope.isCoroutine = false
  gen : scope.isGenerator = false
  own : ∀ y ∈ scope.names, (y.2 = .local → y.1 ∉ N) ∧ y.2 ≠ .cell
  free : ∀ y ∈ scope.names, y.2 = .free → sc.names.lookup y.1 = some .cell ∨ sc.names.lookup y.1 = some .free
  par : scope.names.lookup p = some .local
def lamSDB (N : List Str) (sc scope : Scope) (p : Str) : Bool :=
  decide (scope.kind = .function) && !scope.isCoroutine && !scope.isGenerator && decide (scope.names.lookup p = some .local) && scope.names.all fun y => (!decide (y.2 = .local) || !decide (y.1 ∈ N)) && !decide (y.2 = .cell) && (!decide (y.2 = .free) || decide (sc.names.lookup y.1 = some .cell) || decide (sc.names.lookup y.1 = some .free))
theorem lamSD_by {N : List Str} {sc scope : Scope} {p : Str} (h : lamSDB N sc scope p = true) : LamSD N sc scope p := by
  unfold lamSDB at h
  simp only [Bool.and_eq_true, Bool.or_eq_true, Bool.not_eq_true', decide_eq_true_eq, decide_eq_false_iff_not, List.all_eq_true] at h
  obtain ⟨⟨⟨⟨h1, h2⟩, h3⟩, h5⟩, h4⟩ := h
  refine ⟨h1, h2, h3, fun y hy => ⟨fun e => ?_, (h4 y hy).1.2⟩, fun y hy e => ?_, h5⟩
  · rcases (h4 y hy).1.1 with z | z
    · exact absurd e z
    · exact z
  · rcases (h4 y hy).2 with (z | z) | z
    · exact absurd e z
    · exact .inl z
    · exact .inr z
theorem LamSD.has {N : List Str} {X : Cx} {scope : Scope} {p : Str} (L : LamSD N X.env.scope scope p) (ok : X.Ok) : ∀ y ∈ scope.names, y.2 = .free → ∃ c, X.env.cells.lookup y.1 = some c := fun y hy e => by
  rcases L.free y hy e with k | k
  · exact ok.has _ (.inl k)
  · exact ok.has _ (.inr k)
/-- the lambda with a default that stands at f -/
def IsLamD (H : Hp) (f : Addr) (q : Str) (params : Arguments) (body : Expr) (scope : Scope) (clos : List (Str × Addr)) : Prop :=
  ∃ (c' T0 : Addr) (u doc pm ctv : Value), H f = some (Pin (PySem.W.kdv_obj "<lambda>" q params (.expr body) scope clos (.ref T0) doc pm c' ctv)) ∧ H T0 = some (Pin (PySem.W.kdv_tup [u])) ∧ H c' = some (CodeO c' q)
theorem IsLamD.ext {H H' : Hp} {f : Addr} {q : Str} {params : Arguments} {body : Expr} {scope : Scope} {clos : List (Str × Addr)} (h : IsLamD H f q params body scope clos) (e : ExtN H H') : IsLamD H' f q params body scope clos := by
  obtain ⟨c', T0, u, doc, pm, ctv, h1, h2, h3⟩ := h
  exact ⟨c', T0, u, doc, pm, ctv, e _ _ h1 (fun ps z => nomatch z), e _ _ h2 (fun ps z => nomatch z), e _ _ h3 (fun ps z => LamX.codeO_ne ps z)⟩
theorem IsLamD.up {X : Cx} {σ : L2.St} {H G : Hp} {f : Addr} {q : Str} {params : Arguments} {body : Expr} {scope : Scope} {clos : List (Str × Addr)} (h : IsLamD H f q params body scope clos) (c : Caught X σ H G) : IsLamD G f q params body scope clos := by
  obtain ⟨c', T0, u, doc, pm, ctv, h1, h2, h3⟩ := h
  exact ⟨c', T0, u, doc, pm, ctv, c.some h1, c.some h2, c.some h3⟩
def tLamD (P : Addr) (q : Str) (params : Arguments) (body : Expr) (scope : Scope) (clos : List (Str × Addr)) : TE := fun _ H Q => TabS H P q ∧
  ∀ (f : Addr) (H1 : Hp), ExtN H H1 → TabS H1 P q → IsLamD H1 f q params body scope clos → H f = none → Q (.ref f) H1
section
variable {X : Cx}
theorem pe_lamD {c P : Addr} {params : Arguments} {body : Expr} {scope : Scope} {pos : Pos} {N : List Str} {p : Str} {e0 : Expr} {z : Int} (TB : TabB X.base X.mg c P) (hcode : X.env.code = .ref c) (L : LamSD N X.env.scope scope p) (hd : params.defaults = [e0]) (hk0 : params.kw_defaults = []) (he : PE X e0 (tC (.int z))) :
    PE X (.Lambda params body scope pos) (tLamD P (X.env.qual ++ "<lambda>") params body scope (cloFrom X.env.cells scope.names [])) := by
  refine ⟨fun pins s0 σ H0 Q I0 ⟨hT0, h0⟩ => ?_⟩
  refine PySem.W.kdv_lam (by rw [hd]; rfl) hk0 ?_
  rw [hd]
  refine PySem.W.kdv_all1 (thn (he.run pins s0 σ H0 (fun v H1 => H1 = H0) I0 rfl) fun u s1 ⟨v, H1, I1, r1, eH⟩ => ?_)
  subst eH
  refine PySem.W.kdv_all0 ?_
  rw [PySem.makeFunction_eq]
  simp only [List.zip_nil_right, List.filterMap_nil, List.isEmpty_nil, List.isEmpty_cons, Bool.false_eq_true, if_true, if_false, pure_bind]
  refine wpAny_bind (wpAny_newTextTuple ?_)
  have nT : H1 s1.heap.objs.size = none := I1.hok.fresh (Nat.le_refl _)
  have I := I1.laid (a := s1.heap.objs.size) (o := Pin (PySem.W.kdv_tup [u])) (t' := s1.toks) (h' := s1.heap.push (PySem.W.kdv_tup [u])) (fun b o e => Heap.get?_push_of_some _ e) (Nat.le_refl _) ⟨Heap.get?_push_size _ rfl, ⟨_, Heap.get?_push_size _ rfl⟩⟩
  have sT : ∀ b o, H1 b = some o → (upd H1 s1.heap.objs.size (Pin (PySem.W.kdv_tup [u]))) b = some o := fun b o e => (upd_ne (ne_of_none e nT)).trans e
  have hT := hT0.ext sT
  have hAt : (upd H1 s1.heap.objs.size (Pin (PySem.W.kdv_tup [u]))) s1.heap.objs.size = some (Pin (PySem.W.kdv_tup [u])) := upd_same
  have h : ∀ (f : Addr) (H2 : Hp), ExtN (upd H1 s1.heap.objs.size (Pin (PySem.W.kdv_tup [u]))) H2 → TabS H2 P (X.env.qual ++ "<lambda>") → IsLamD H2 f (X.env.qual ++ "<lambda>") params body scope (cloFrom X.env.cells scope.names []) → (upd H1 s1.heap.objs.size (Pin (PySem.W.kdv_tup [u]))) f = none → Q (.ref f) H2 := fun f H2 e t l n => h0 f H2 ((ExtN.of sT).trans e) t l (by
    cases q : H1 f with
    | none => rfl
    | some o => rw [sT f o q] at n; cases n)
  show wpAny _ _ (makeTail "<lambda>" (X.env.qual ++ "<lambda>") params (.expr body) scope X.env (.ref s1.heap.objs.size) .none none pos pos.line) _ _ { s1 with heap := s1.heap.push (PySem.W.kdv_tup [u]) }
  generalize eTT : s1.heap.objs.size = TT at hAt hT h I ⊢
  generalize upd H1 TT (Pin (PySem.W.kdv_tup [u])) = H at hAt hT h I ⊢
  generalize es : ({ s1 with heap := s1.heap.push (PySem.W.kdv_tup [u]) } : Shared) = s at I ⊢
  clear nT sT
  obtain ⟨ps, hP, ht, ha⟩ := id hT
  have hP' : s.heap.get? P = some { cls := .none, data := .fields ps } := I.hok P _ hP
  cases hc : codeAmong pos ps.toList with
  | none =>
    refine PySem.W.kdv_makeTail (mg := X.mg) (c := c) (P := P) (ps := ps) (closure_ok (L.has I.ok)) I.ok.glob (I.mod.glob.keeps I.bk) hcode (TB.code.keeps I.bk) hP' ht hc TB.gP (TB.bm.keeps I.bk) fun c' ctv doc g tk hx hge hlt hrec htb => ?_
    obtain ⟨c2, oc, vs, t, e2, hoc, hd, hv⟩ := hrec
    cases e2
    have nC : H c' = none := I.hok.fresh hge
    have I1 := LamX.inv_table (t' := tk) (q := X.env.qual ++ "<lambda>") (more := #[rawInt pos.line, rawInt pos.col, .ref c']) I hP (fun b o hb e => hx b o hb e) htb hge ⟨oc, vs, t, hoc, hd, hv⟩
    have I2 := I1.laid (a := g.objs.size) (o := Pin (PySem.W.kdv_obj "<lambda>" (X.env.qual ++ "<lambda>") params (.expr body) scope (cloFrom X.env.cells scope.names []) (.ref TT) doc ((X.mg "__name__").getD .none) c' ctv)) (t' := tk) (fun b u e => Heap.get?_push_of_some (h := g) _ e) (Nat.le_refl _) ⟨Heap.get?_push_size _ rfl, ⟨_, Heap.get?_push_size _ rfl⟩⟩
    have nF : H g.objs.size = none := I.hok.fresh (Nat.le_trans hge (Nat.le_of_lt hlt))
    have n1 : g.objs.size ≠ c' := Nat.ne_of_gt hlt
    have n2 : P ≠ g.objs.size := ne_of_none hP nF
    have n3 : P ≠ c' := ne_of_none hP nC
    have hE : ExtN H (upd (upd (upd H P (.tbl (ps ++ #[rawInt pos.line, rawInt pos.col, .ref c']))) c' (CodeO c' (X.env.qual ++ "<lambda>"))) g.objs.size (Pin (PySem.W.kdv_obj "<lambda>" (X.env.qual ++ "<lambda>") params (.expr body) scope (cloFrom X.env.cells scope.names []) (.ref TT) doc ((X.mg "__name__").getD .none) c' ctv))) := fun b o e n => by
      rw [upd_ne (ne_of_none e nF), upd_ne (ne_of_none e nC), upd_ne fun z => n ps (Option.some.inj (e.symm.trans (by rw [z]; exact hP)))]
      exact e
    have hC2 : (upd (upd (upd H P (.tbl (ps ++ #[rawInt pos.line, rawInt pos.col, .ref c']))) c' (CodeO c' (X.env.qual ++ "<lambda>"))) g.objs.size (Pin (PySem.W.kdv_obj "<lambda>" (X.env.qual ++ "<lambda>") params (.expr body) scope (cloFrom X.env.cells scope.names []) (.ref TT) doc ((X.mg "__name__").getD .none) c' ctv))) c' = some (CodeO c' (X.env.qual ++ "<lambda>")) := by
      rw [upd_ne (Ne.symm n1), upd_same]
    refine ⟨.ref g.objs.size, _, I2, rfl, h _ _ hE ⟨_, by rw [upd_ne n2, upd_ne n3, upd_same], ?_, fun p' cv hcv => ?_⟩ ⟨c', TT, u, doc, _, ctv, upd_same, hE _ _ hAt (fun ps z => nomatch z), hC2⟩ nF⟩
    · simp only [Array.toList_append]
      exact PySem.TriplesOk_snoc _ _ _ _ ht
    · simp only [Array.toList_append] at hcv
      rcases LamX.among_app _ ht hcv with z | z
      · obtain ⟨c0, y1, y2⟩ := ha p' cv z
        exact ⟨c0, y1, hE _ _ y2 (fun ps => LamX.codeO_ne ps)⟩
      · exact ⟨c', z, hC2⟩
  | some cv =>
    obtain ⟨c', rfl, hco⟩ := ha pos cv hc
    refine PySem.W.kdv_makeTailHit (mg := X.mg) (c := c) (P := P) (ps := ps) (closure_ok (L.has I.ok)) I.ok.glob (I.mod.glob.keeps I.bk) hcode (TB.code.keeps I.bk) hP' ht hc (TB.bm.keeps I.bk) fun ctv doc g tk hx hsz => ?_
    have I1 : Inv X pins σ H { s with heap := g, toks := tk } := I.kept hx
    have I2 := I1.laid (a := g.objs.size) (o := Pin (PySem.W.kdv_obj "<lambda>" (X.env.qual ++ "<lambda>") params (.expr body) scope (cloFrom X.env.cells scope.names []) (.ref TT) doc ((X.mg "__name__").getD .none) c' ctv)) (t' := tk) (fun b u e => Heap.get?_push_of_some (h := g) _ e) (Nat.le_refl _) ⟨Heap.get?_push_size _ rfl, ⟨_, Heap.get?_push_size _ rfl⟩⟩
    have nF : H g.objs.size = none := I.hok.fresh hsz
    have hE : ∀ b o, H b = some o → (upd H g.objs.size (Pin (PySem.W.kdv_obj "<lambda>" (X.env.qual ++ "<lambda>") params (.expr body) scope (cloFrom X.env.cells scope.names []) (.ref TT) doc ((X.mg "__name__").getD .none) c' ctv))) b = some o := fun b o e => by
      rw [upd_ne (ne_of_none e nF)]
      exact e
    exact ⟨.ref g.objs.size, _, I2, rfl, h _ _ (ExtN.of hE) (hT.ext hE) ⟨c', TT, u, doc, _, ctv, upd_same, hE _ _ hAt, hE _ _ hco⟩ nF⟩
/-- the lambda's own frame is entered -/
theorem lam_inD {σ : L2.St} {H G HZ : Hp} {A : Around} {outer : List Env} {E : XK} {scope : Scope} {p : Str} {f c' : Addr} {h₁ : Heap} {tk : Nat} {s1 : Shared} {m : Str → Option Value} (U : Caught X σ H G) (L : LamSD X.N X.env.scope scope p) (e0 : Env0 X.prog X.w X.K X.mg X.base A outer s1 (off X.env.cells HZ)) (hd : A.handled = none)
    (hz : ∀ b, Cell X.env.cells b → ∃ o, G b = some (Pin o) ∧ s1.heap.get? b = some o) (hns : h₁.Ns s1.heap.objs.size m) (kp : ∀ b o, s1.heap.get? b = some o → h₁.get? b = some o) :
    Inv (lamCx X A outer s1 (off X.env.cells HZ) E scope f c') [] σ (off X.env.cells HZ) { s1 with heap := h₁, toks := tk } := by
  have has : ∀ y ∈ scope.names, y.2 = .free → ∃ c, X.env.cells.lookup y.1 = some c := fun y hy e => U.has _ (L.free y hy e)
  have cm : ∀ {y c}, (cloFrom X.env.cells scope.names []).lookup y = some c → X.env.cells.lookup y = some c := fun {y c} e => by
    rcases cloFrom_mem (PySem.mem_of_lookup e) with z | ⟨h1, h2⟩
    · cases z
    · obtain ⟨c1, hc⟩ := has _ h1 rfl
      have hc : X.env.cells.lookup y = some c1 := hc
      rw [hc] at h2
      rw [h2]
      exact hc
  have look : ∀ {y}, scope.names.lookup y = some .free → ∃ c, (cloFrom X.env.cells scope.names []).lookup y = some c := fun {y} hl =>
    mem_lookup (cloFrom_has (cells := X.env.cells) (acc := []) (PySem.mem_of_lookup hl))
  have isC : ∀ {y c}, X.env.cells.lookup y = some c → ∃ v, h₁.IsCell c v := fun {y c} e => by
    obtain ⟨o, v, g, d⟩ := U.held c ⟨y, e⟩
    obtain ⟨o', g', k⟩ := hz c ⟨y, e⟩
    rw [g] at g'
    have : o = o' := by injection g' with g'; injection g'
    subst this
    exact ⟨v, o, kp _ _ k, d⟩
  have noex : ∀ b : Addr, b ∉ (lamCx X A outer s1 (off X.env.cells HZ) E scope f c').ex := fun b z => nomatch (show b ∈ ([] : List Addr) from z)
  refine ⟨⟨e0.mod, L.kind, rfl, rfl, Nat.le_refl _, fun y z c e1 e2 => U.inj y z c (cm e1) (cm e2), fun y hy => ?_, fun y c z _ => Bool.noConfusion (show false = true from z), fun _ => hd, Around.frames_deeper e0.frames, .inr ⟨rfl, rfl⟩, fun b z => absurd z (noex b), e0.bs, e0.bsz, fun b _ _ => noex b,
      fun b z => absurd z (noex b), e0.funs, e0.frf⟩,
    rfl, e0.bare, Un.kept kp, ⟨_, hns, fun i y v e1 e2 e3 => ?_⟩, fun y c e => isC (cm e), e0.hok.fresh (Nat.le_refl _), fun y c e => off_c ⟨y, cm e⟩, fun q hq => absurd (show q ∈ ([] : List (Addr × Obj)) ++ [] from hq) (by simp), e0.hok.kept kp, U.len⟩
  · have hy : scope.names.lookup y = some .cell ∨ scope.names.lookup y = some .free := hy
    rcases hy with hy | hy
    · exact absurd rfl (L.own _ (PySem.mem_of_lookup hy)).2
    · exact look hy
  · have e3 : Vis scope y := e3
    rcases e3 with k | k | k
    · exact absurd (List.mem_of_getElem? (show X.N[i]? = some y from e1)) ((L.own _ (PySem.mem_of_lookup k)).1 rfl)
    · exact absurd rfl (L.own _ (PySem.mem_of_lookup k)).2
    · obtain ⟨c, o, u, h1, h2, h3, r⟩ := U.val i y v e1 e2 (L.free _ (PySem.mem_of_lookup k) rfl)
      obtain ⟨c2, z⟩ := look k
      have := cm z
      rw [h1] at this
      cases this
      obtain ⟨o', g', kk⟩ := hz c ⟨y, h1⟩
      rw [h2] at g'
      have : o = o' := by injection g' with g'; injection g'
      subst this
      exact ⟨u, r, .inr ⟨.inr k, c, z, o, kp _ _ kk, h3⟩⟩
/-- what such a lambda does where it is called -/
theorem lam_actD {σ : L2.St} {H G : Hp} {params : Arguments} {body : Expr} {scope : Scope} {p : Str} {f : Addr} {k : Nat} {t : XK → TE} (U : Caught X σ H G) (L : LamSD X.N X.env.scope scope p) (hl : IsLamD G f (X.env.qual ++ "<lambda>") params body scope (cloFrom X.env.cells scope.names []))
    (hbind : ∀ (s : Shared) (q : Str) (cl : List (Str × Addr)) (T0 : Addr) (u doc pm cv ctv : Value), s.heap.get? T0 = some (PySem.W.kdv_tup [u]) → BindsTo s (PySem.W.kdv_fn "<lambda>" q params (.expr body) scope cl (.ref T0) doc pm cv ctv) ⟨[], []⟩ [(p, u)])
    (hbody : ∀ (A : Around) (outer : List Env) (s : Shared) (H : Hp) (E : XK) (c' : Addr), Room k (A.deeper (lamEnv X scope s.heap.objs.size f c')) → PE (lamCx X A outer s H E scope f c') body (t E)) :
    ∃ R : Hp → Prop, R G ∧ Act X.prog X.w X.K X.mg X.base (k + 1) f R (fun H Q E => t (fun c d H' => Loose X.env.cells H' → E c d (back X.env.cells H H')) σ (off X.env.cells H) (fun v H' => Loose X.env.cells H' → Q v (back X.env.cells H H'))) := by
  obtain ⟨c', T0, u, doc, pm, ctv, h1, h0, h2⟩ := hl
  refine ⟨fun HZ => HZ f = G f ∧ HZ T0 = G T0 ∧ HZ c' = G c' ∧ ∀ b, Cell X.env.cells b → HZ b = G b, ⟨rfl, rfl, rfl, fun _ _ => rfl⟩, ⟨fun H H' e ⟨r1, r0, r2, r3⟩ => ⟨?_, ?_, ?_, fun b c => ?_⟩, fun s H ⟨r1, _, _, _⟩ ok => ?_, fun A outer s HZ Q E hr e0 ⟨r1, r0, r2, r3⟩ ht => ?_⟩⟩
  · rw [h1] at r1 ⊢
    exact e _ _ r1
  · rw [h0] at r0 ⊢
    exact e _ _ r0
  · rw [h2] at r2 ⊢
    exact e _ _ r2
  · obtain ⟨o, z⟩ := U.hd b c
    have r3 := r3 b c
    rw [z] at r3 ⊢
    exact e _ _ r3
  · rw [h1] at r1
    exact ⟨_, _, _, _, pin_at ok r1⟩
  have hd : Held X.env.cells HZ := fun b c => by
    rw [r3 b c]
    exact U.hd b c
  have nf : ∀ b, Cell X.env.cells b → b ∉ frs outer := fun b c z => by
    obtain ⟨o, y⟩ := hd b c
    rw [e0.frf b z] at y
    cases y
  rw [h1] at r1
  rw [h0] at r0
  rw [h2] at r2
  have of1 := pin_at e0.hok r1
  have of0 := pin_at e0.hok r0
  obtain ⟨⟨oc, vs, tt, hoc, hdc, hvc⟩, _, _⟩ := e0.hok c' _ r2
  have e1 := env_off hd e0
  have lim : s.heap.NoLimit := e0.mod.nolimit.keeps fun b o e => (e0.bs b o e).1
  refine codeAny_mono (R := CR (L2.CX X.prog X.w) outer X.prog X.w (off X.env.cells HZ) s (fun v H' => Loose X.env.cells H' → Q v (back X.env.cells HZ H')) (fun c d H' => Loose X.env.cells H' → E c d (back X.env.cells HZ H'))) ?_ fun r s' hq => cr_back hd e0.hok nf hq
  refine PySem.W.kla_callFunE hr.depth of1 rfl L.co L.gen rfl ⟨c', oc, vs, tt, rfl, hoc, hdc, hvc⟩ ?_
  refine hbind s _ _ T0 u _ _ _ _ of0 _ _ _ _ ?_
  refine wpAny_newFunctionEnv (fun y hy => (L.own y hy).2) (fun y hy => ?_) (fun h₁ hns hsb => ⟨lim.fresh _ hsb, ?_⟩) L.kind
  · rw [List.mem_singleton.mp hy]
    exact L.par
  show codeAny _ _ (.expr body (lamEnv X scope s.heap.objs.size f c')) _ _
  have kp : ∀ b o, s.heap.get? b = some o → h₁.get? b = some o := fun b o e => hsb.extBut b o (Nat.ne_of_lt (Heap.lt_size e)) (Heap.get?_push_of_some _ e)
  have J := lam_inD (E := fun c d H' => Loose X.env.cells H' → E c d (back X.env.cells HZ H')) (scope := scope) (f := f) (c' := c') (tk := s.toks + ([(p, u)] : List (Str × Value)).length) U L e1 hr.hd (fun b c => by
    obtain ⟨o, z⟩ := U.hd b c
    exact ⟨o, z, pin_at e0.hok ((r3 b c).trans z)⟩) hns kp
  refine PySem.W.kla_codeExpr (wpAny_mono ((hbody _ _ s (off X.env.cells HZ) _ c' (hr.deeper _)).run [] _ _ (off X.env.cells HZ) _ J ht) (fun v s' hq => ?_) fun e s' hq => hq)
  obtain ⟨w', H', J', rv, q⟩ := hq
  exact ⟨w', H', J'.os, J'.bare, J'.base, J'.hok, rv, q⟩
end
end LM
set_option Elab.async false
set_option maxRecDepth 100000
set_option maxHeartbeats 4000000
namespace LM
open PySem PySem.Spec PyProof.Rows L2
open LamX (ExtN TabS TabB CodeO LamS lamCx lamEnv)
/-! ### lambdas, the other tables kept -/
theorem tabS_p {H H' : Hp} {P P' : Addr} {q q' : Str} (t : TabS H P q) (t' : TabS H P' q') (n : P' ≠ P) (x : ∀ b o, H b = some o → b ≠ P → H' b = some o) : TabS H' P' q' := by
  obtain ⟨ps, h1, _⟩ := t
  obtain ⟨ps', k1, k2, k3⟩ := t'
  refine ⟨ps', x _ _ k1 n, k2, fun pos cv hc => ?_⟩
  obtain ⟨c, e1, e2⟩ := k3 pos cv hc
  exact ⟨c, e1, x _ _ e2 fun z => by rw [z, h1] at e2; exact LamX.codeO_ne ps (Option.some.inj e2).symm⟩
def tLamP (P : Addr) (q : Str) (params : Arguments) (body : Expr) (scope : Scope) (clos : List (Str × Addr)) : TE := fun _ H Q => TabS H P q ∧
  ∀ (f : Addr) (H1 : Hp), ExtN H H1 → (∀ b o, H b = some o → b ≠ P → H1 b = some o) → TabS H1 P q → IsLam H1 f q params body scope clos → H f = none → Q (.ref f) H1
section
variable {X : Cx}
theorem pe_lamP {c P : Addr} {params : Arguments} {body : Expr} {scope : Scope} {pos : Pos} (TB : TabB X.base X.mg c P) (hcode : X.env.code = .ref c) (L : LamS X.env.scope scope) (hdef : defaultsOf params X.env = ([], [])) :
    PE X (.Lambda params body scope pos) (tLamP P (X.env.qual ++ "<lambda>") params body scope (cloFrom X.env.cells scope.names [])) := by
  refine ⟨fun pins s σ H Q I ⟨hT, h⟩ => ?_⟩
  obtain ⟨ps, hP, ht, ha⟩ := id hT
  refine PySem.W.kla_eval hdef ?_
  have hP' : s.heap.get? P = some { cls := .none, data := .fields ps } := I.hok P _ hP
  cases hc : codeAmong pos ps.toList with
  | none =>
    refine PySem.W.kla_makeFunction (mg := X.mg) (c := c) (P := P) (ps := ps) (closure_ok (L.has I.ok)) I.ok.glob (I.mod.glob.keeps I.bk) hcode (TB.code.keeps I.bk) hP' ht hc TB.gP (TB.bm.keeps I.bk) fun c' ctv g tk hx hge hlt hrec htb => ?_
    obtain ⟨c2, oc, vs, t, e2, hoc, hd, hv⟩ := hrec
    cases e2
    have nC : H c' = none := I.hok.fresh hge
    have I1 := LamX.inv_table (t' := tk) (q := X.env.qual ++ "<lambda>") (more := #[rawInt pos.line, rawInt pos.col, .ref c']) I hP (fun b o hb e => hx b o hb e) htb hge ⟨oc, vs, t, hoc, hd, hv⟩
    have I2 := I1.laid (a := g.objs.size) (o := Pin (PySem.W.kla_obj "<lambda>" (X.env.qual ++ "<lambda>") params body scope (cloFrom X.env.cells scope.names []) ((X.mg "__name__").getD .none) c' ctv)) (t' := tk) (fun b u e => Heap.get?_push_of_some (h := g) _ e) (Nat.le_refl _) ⟨Heap.get?_push_size _ rfl, ⟨_, Heap.get?_push_size _ rfl⟩⟩
    have nF : H g.objs.size = none := I.hok.fresh (Nat.le_trans hge (Nat.le_of_lt hlt))
    have n1 : g.objs.size ≠ c' := Nat.ne_of_gt hlt
    have n2 : P ≠ g.objs.size := ne_of_none hP nF
    have n3 : P ≠ c' := ne_of_none hP nC
    have hE : ExtN H (upd (upd (upd H P (.tbl (ps ++ #[rawInt pos.line, rawInt pos.col, .ref c']))) c' (CodeO c' (X.env.qual ++ "<lambda>"))) g.objs.size (Pin (PySem.W.kla_obj "<lambda>" (X.env.qual ++ "<lambda>") params body scope (cloFrom X.env.cells scope.names []) ((X.mg "__name__").getD .none) c' ctv))) := fun b o e n => by
      rw [upd_ne (ne_of_none e nF), upd_ne (ne_of_none e nC), upd_ne fun z => n ps (Option.some.inj (e.symm.trans (by rw [z]; exact hP)))]
      exact e
    have hC2 : (upd (upd (upd H P (.tbl (ps ++ #[rawInt pos.line, rawInt pos.col, .ref c']))) c' (CodeO c' (X.env.qual ++ "<lambda>"))) g.objs.size (Pin (PySem.W.kla_obj "<lambda>" (X.env.qual ++ "<lambda>") params body scope (cloFrom X.env.cells scope.names []) ((X.mg "__name__").getD .none) c' ctv))) c' = some (CodeO c' (X.env.qual ++ "<lambda>")) := by
      rw [upd_ne (Ne.symm n1), upd_same]
    refine ⟨.ref g.objs.size, _, I2, rfl, h _ _ hE (fun b o e n => by rw [upd_ne (ne_of_none e nF), upd_ne (ne_of_none e nC), upd_ne n]; exact e) ⟨_, by rw [upd_ne n2, upd_ne n3, upd_same], ?_, fun p' cv hcv => ?_⟩ ⟨c', _, ctv, upd_same, hC2⟩ nF⟩
    · simp only [Array.toList_append]
      exact PySem.TriplesOk_snoc _ _ _ _ ht
    · simp only [Array.toList_append] at hcv
      rcases LamX.among_app _ ht hcv with z | z
      · obtain ⟨c0, y1, y2⟩ := ha p' cv z
        exact ⟨c0, y1, hE _ _ y2 (fun ps => LamX.codeO_ne ps)⟩
      · exact ⟨c', z, hC2⟩
  | some cv =>
    obtain ⟨c', rfl, hco⟩ := ha pos cv hc
    refine PySem.W.kla_makeFunctionHit (mg := X.mg) (c := c) (P := P) (ps := ps) (closure_ok (L.has I.ok)) I.ok.glob (I.mod.glob.keeps I.bk) hcode (TB.code.keeps I.bk) hP' ht hc (TB.bm.keeps I.bk) fun ctv g tk hx hsz => ?_
    have I1 : Inv X pins σ H { s with heap := g, toks := tk } := I.kept hx
    have I2 := I1.laid (a := g.objs.size) (o := Pin (PySem.W.kla_obj "<lambda>" (X.env.qual ++ "<lambda>") params body scope (cloFrom X.env.cells scope.names []) ((X.mg "__name__").getD .none) c' ctv)) (t' := tk) (fun b u e => Heap.get?_push_of_some (h := g) _ e) (Nat.le_refl _) ⟨Heap.get?_push_size _ rfl, ⟨_, Heap.get?_push_size _ rfl⟩⟩
    have nF : H g.objs.size = none := I.hok.fresh hsz
    have hE : ∀ b o, H b = some o → (upd H g.objs.size (Pin (PySem.W.kla_obj "<lambda>" (X.env.qual ++ "<lambda>") params body scope (cloFrom X.env.cells scope.names []) ((X.mg "__name__").getD .none) c' ctv))) b = some o := fun b o e => by
      rw [upd_ne (ne_of_none e nF)]
      exact e
    exact ⟨.ref g.objs.size, _, I2, rfl, h _ _ (ExtN.of hE) (fun b o e _ => hE b o e) (hT.ext hE) ⟨c', _, ctv, upd_same, hE _ _ hco⟩ nF⟩
def tLamDP (P : Addr) (q : Str) (params : Arguments) (body : Expr) (scope : Scope) (clos : List (Str × Addr)) : TE := fun _ H Q => TabS H P q ∧
  ∀ (f : Addr) (H1 : Hp), ExtN H H1 → (∀ b o, H b = some o → b ≠ P → H1 b = some o) → TabS H1 P q → IsLamD H1 f q params body scope clos → H f = none → Q (.ref f) H1
section
variable {X : Cx}
theorem pe_lamDP {c P : Addr} {params : Arguments} {body : Expr} {scope : Scope} {pos : Pos} {N : List Str} {p : Str} {e0 : Expr} {z : Int} (TB : TabB X.base X.mg c P) (hcode : X.env.code = .ref c) (L : LamSD N X.env.scope scope p) (hd : params.defaults = [e0]) (hk0 : params.kw_defaults = []) (he : PE X e0 (tC (.int z))) :
    PE X (.Lambda params body scope pos) (tLamDP P (X.env.qual ++ "<lambda>") params body scope (cloFrom X.env.cells scope.names [])) := by
  refine ⟨fun pins s0 σ H0 Q I0 ⟨hT0, h0⟩ => ?_⟩
  refine PySem.W.kdv_lam (by rw [hd]; rfl) hk0 ?_
  rw [hd]
  refine PySem.W.kdv_all1 (thn (he.run pins s0 σ H0 (fun v H1 => H1 = H0) I0 rfl) fun u s1 ⟨v, H1, I1, r1, eH⟩ => ?_)
  subst eH
  refine PySem.W.kdv_all0 ?_
  rw [PySem.makeFunction_eq]
  simp only [List.zip_nil_right, List.filterMap_nil, List.isEmpty_nil, List.isEmpty_cons, Bool.false_eq_true, if_true, if_false, pure_bind]
  refine wpAny_bind (wpAny_newTextTuple ?_)
  have nT : H1 s1.heap.objs.size = none := I1.hok.fresh (Nat.le_refl _)
  have I := I1.laid (a := s1.heap.objs.size) (o := Pin (PySem.W.kdv_tup [u])) (t' := s1.toks) (h' := s1.heap.push (PySem.W.kdv_tup [u])) (fun b o e => Heap.get?_push_of_some _ e) (Nat.le_refl _) ⟨Heap.get?_push_size _ rfl, ⟨_, Heap.get?_push_size _ rfl⟩⟩
  have sT : ∀ b o, H1 b = some o → (upd H1 s1.heap.objs.size (Pin (PySem.W.kdv_tup [u]))) b = some o := fun b o e => (upd_ne (ne_of_none e nT)).trans e
  have hT := hT0.ext sT
  have hAt : (upd H1 s1.heap.objs.size (Pin (PySem.W.kdv_tup [u]))) s1.heap.objs.size = some (Pin (PySem.W.kdv_tup [u])) := upd_same
  have h : ∀ (f : Addr) (H2 : Hp), ExtN (upd H1 s1.heap.objs.size (Pin (PySem.W.kdv_tup [u]))) H2 → (∀ b o, (upd H1 s1.heap.objs.size (Pin (PySem.W.kdv_tup [u]))) b = some o → b ≠ P → H2 b = some o) → TabS H2 P (X.env.qual ++ "<lambda>") → IsLamD H2 f (X.env.qual ++ "<lambda>") params body scope (cloFrom X.env.cells scope.names []) → (upd H1 s1.heap.objs.size (Pin (PySem.W.kdv_tup [u]))) f = none → Q (.ref f) H2 := fun f H2 e x t l n => h0 f H2 ((ExtN.of sT).trans e) (fun b o y n => x b o (sT b o y) n) t l (by
    cases q : H1 f with
    | none => rfl
    | some o => rw [sT f o q] at n; cases n)
  show wpAny _ _ (makeTail "<lambda>" (X.env.qual ++ "<lambda>") params (.expr body) scope X.env (.ref s1.heap.objs.size) .none none pos pos.line) _ _ { s1 with heap := s1.heap.push (PySem.W.kdv_tup [u]) }
  generalize eTT : s1.heap.objs.size = TT at hAt hT h I ⊢
  generalize upd H1 TT (Pin (PySem.W.kdv_tup [u])) = H at hAt hT h I ⊢
  generalize es : ({ s1 with heap := s1.heap.push (PySem.W.kdv_tup [u]) } : Shared) = s at I ⊢
  clear nT sT
  obtain ⟨ps, hP, ht, ha⟩ := id hT
  have hP' : s.heap.get? P = some { cls := .none, data := .fields ps } := I.hok P _ hP
  cases hc : codeAmong pos ps.toList with
  | none =>
    refine PySem.W.kdv_makeTail (mg := X.mg) (c := c) (P := P) (ps := ps) (closure_ok (L.has I.ok)) I.ok.glob (I.mod.glob.keeps I.bk) hcode (TB.code.keeps I.bk) hP' ht hc TB.gP (TB.bm.keeps I.bk) fun c' ctv doc g tk hx hge hlt hrec htb => ?_
    obtain ⟨c2, oc, vs, t, e2, hoc, hd, hv⟩ := hrec
    cases e2
    have nC : H c' = none := I.hok.fresh hge
    have I1 := LamX.inv_table (t' := tk) (q := X.env.qual ++ "<lambda>") (more := #[rawInt pos.line, rawInt pos.col, .ref c']) I hP (fun b o hb e => hx b o hb e) htb hge ⟨oc, vs, t, hoc, hd, hv⟩
    have I2 := I1.laid (a := g.objs.size) (o := Pin (PySem.W.kdv_obj "<lambda>" (X.env.qual ++ "<lambda>") params (.expr body) scope (cloFrom X.env.cells scope.names []) (.ref TT) doc ((X.mg "__name__").getD .none) c' ctv)) (t' := tk) (fun b u e => Heap.get?_push_of_some (h := g) _ e) (Nat.le_refl _) ⟨Heap.get?_push_size _ rfl, ⟨_, Heap.get?_push_size _ rfl⟩⟩
    have nF : H g.objs.size = none := I.hok.fresh (Nat.le_trans hge (Nat.le_of_lt hlt))
    have n1 : g.objs.size ≠ c' := Nat.ne_of_gt hlt
    have n2 : P ≠ g.objs.size := ne_of_none hP nF
    have n3 : P ≠ c' := ne_of_none hP nC
    have hE : ExtN H (upd (upd (upd H P (.tbl (ps ++ #[rawInt pos.line, rawInt pos.col, .ref c']))) c' (CodeO c' (X.env.qual ++ "<lambda>"))) g.objs.size (Pin (PySem.W.kdv_obj "<lambda>" (X.env.qual ++ "<lambda>") params (.expr body) scope (cloFrom X.env.cells scope.names []) (.ref TT) doc ((X.mg "__name__").getD .none) c' ctv))) := fun b o e n => by
      rw [upd_ne (ne_of_none e nF), upd_ne (ne_of_none e nC), upd_ne fun z => n ps (Option.some.inj (e.symm.trans (by rw [z]; exact hP)))]
      exact e
    have hC2 : (upd (upd (upd H P (.tbl (ps ++ #[rawInt pos.line, rawInt pos.col, .ref c']))) c' (CodeO c' (X.env.qual ++ "<lambda>"))) g.objs.size (Pin (PySem.W.kdv_obj "<lambda>" (X.env.qual ++ "<lambda>") params (.expr body) scope (cloFrom X.env.cells scope.names []) (.ref TT) doc ((X.mg "__name__").getD .none) c' ctv))) c' = some (CodeO c' (X.env.qual ++ "<lambda>")) := by
      rw [upd_ne (Ne.symm n1), upd_same]
    refine ⟨.ref g.objs.size, _, I2, rfl, h _ _ hE (fun b o e n => by rw [upd_ne (ne_of_none e nF), upd_ne (ne_of_none e nC), upd_ne n]; exact e) ⟨_, by rw [upd_ne n2, upd_ne n3, upd_same], ?_, fun p' cv hcv => ?_⟩ ⟨c', TT, u, doc, _, ctv, upd_same, hE _ _ hAt (fun ps z => nomatch z), hC2⟩ nF⟩
    · simp only [Array.toList_append]
      exact PySem.TriplesOk_snoc _ _ _ _ ht
    · simp only [Array.toList_append] at hcv
      rcases LamX.among_app _ ht hcv with z | z
      · obtain ⟨c0, y1, y2⟩ := ha p' cv z
        exact ⟨c0, y1, hE _ _ y2 (fun ps => LamX.codeO_ne ps)⟩
      · exact ⟨c', z, hC2⟩
  | some cv =>
    obtain ⟨c', rfl, hco⟩ := ha pos cv hc
    refine PySem.W.kdv_makeTailHit (mg := X.mg) (c := c) (P := P) (ps := ps) (closure_ok (L.has I.ok)) I.ok.glob (I.mod.glob.keeps I.bk) hcode (TB.code.keeps I.bk) hP' ht hc (TB.bm.keeps I.bk) fun ctv doc g tk hx hsz => ?_
    have I1 : Inv X pins σ H { s with heap := g, toks := tk } := I.kept hx
    have I2 := I1.laid (a := g.objs.size) (o := Pin (PySem.W.kdv_obj "<lambda>" (X.env.qual ++ "<lambda>") params (.expr body) scope (cloFrom X.env.cells scope.names []) (.ref TT) doc ((X.mg "__name__").getD .none) c' ctv)) (t' := tk) (fun b u e => Heap.get?_push_of_some (h := g) _ e) (Nat.le_refl _) ⟨Heap.get?_push_size _ rfl, ⟨_, Heap.get?_push_size _ rfl⟩⟩
    have nF : H g.objs.size = none := I.hok.fresh hsz
    have hE : ∀ b o, H b = some o → (upd H g.objs.size (Pin (PySem.W.kdv_obj "<lambda>" (X.env.qual ++ "<lambda>") params (.expr body) scope (cloFrom X.env.cells scope.names []) (.ref TT) doc ((X.mg "__name__").getD .none) c' ctv))) b = some o := fun b o e => by
      rw [upd_ne (ne_of_none e nF)]
      exact e
    exact ⟨.ref g.objs.size, _, I2, rfl, h _ _ (ExtN.of hE) (fun b o e _ => hE b o e) (hT.ext hE) ⟨c', TT, u, doc, _, ctv, upd_same, hE _ _ hAt, hE _ _ hco⟩ nF⟩
end
end
end LM
set_option Elab.async false
set_option maxRecDepth 100000
set_option maxHeartbeats 4000000
namespace RS
open PySem PySem.Spec PyProof.Rows L2 GX
/-- the tables put away -/
def noT (H : Hp) : Hp := fun b => match H b with
  | some (.tbl _) => none
  | o => o
theorem noT_at {H : Hp} {b : Addr} {o : HO} (e : H b = some o) (n : ∀ ps, o ≠ .tbl ps) : noT H b = some o := by
  unfold noT
  rw [e]
  cases o <;> first | rfl | exact absurd rfl (n _)
theorem noT_of {H : Hp} {b : Addr} {o : HO} (e : noT H b = some o) : H b = some o ∧ ∀ ps, o ≠ .tbl ps := by
  unfold noT at e
  cases q : H b with
  | none => rw [q] at e; cases e
  | some u =>
    rw [q] at e
    cases u <;> first
      | exact ⟨e, fun ps z => by cases z; cases e⟩
      | (cases e)
theorem noT_none {H : Hp} {b : Addr} (e : H b = none) : noT H b = none := by
  unfold noT
  rw [e]
theorem noT_same (H : Hp) : Same (noT H) H := fun _ _ e => (noT_of e).1
theorem noT_up {H H' : Hp} (s : Same (noT H) H') : Same (noT H) (noT H') := fun b o e => noT_at (s b o e) (noT_of e).2
theorem noT_ext {H H' : Hp} (s : LamX.ExtN H H') : Same (noT H) H' := fun b o e => s b o (noT_of e).1 (noT_of e).2
theorem noT_mono {H H' : Hp} (s : Same H H') : Same (noT H) (noT H') := noT_up ((noT_same H).trans s)
theorem sqT_noT {K : PySem.W.Frag} {H : Hp} {a : Addr} {xs : List V} (h : SqT K H a xs) : SqT K (noT H) a xs := by
  rcases h with (h | ⟨o, h⟩) | h
  · exact .inl (.inl (noT_at h (fun _ z => by cases z)))
  · exact .inl (.inr ⟨o, noT_at h (fun _ z => by cases z)⟩)
  · exact .inr h
theorem sqL_noT {K : PySem.W.Frag} {H : Hp} {a : Addr} {xs : List V} (h : SqL K H a xs) : SqL K (noT H) a xs := by
  rcases h with (h | ⟨o, h⟩) | h
  · exact .inl (.inl (noT_at h (fun _ z => by cases z)))
  · exact .inl (.inr ⟨o, noT_at h (fun _ z => by cases z)⟩)
  · exact .inr h
mutual
theorem dp_noT {K : PySem.W.Frag} {H : Hp} : ∀ (d : PyData) {v : V}, Dp K H v d → Dp K (noT H) v d
  | .none, _, .non => .non
  | .bool b, _, .bl _ => .bl b
  | .int i, _, .int _ => .int i
  | .str x, _, .str _ => .str x
  | .list ds, _, .lst h hs => .lst (sqL_noT h) (dpAll_noT ds hs)
  | .tuple ds, _, .tup h hs => .tup (sqT_noT h) (dpAll_noT ds hs)
  | .dict _, _, h => nomatch h
theorem dpAll_noT {K : PySem.W.Frag} {H : Hp} : ∀ (ds : List PyData) {vs : List V}, DpAll K H vs ds → DpAll K (noT H) vs ds
  | [], _, .nil => .nil
  | d :: ds, _, .cons h hs => .cons (dp_noT d h) (dpAll_noT ds hs)
end
end RS
set_option Elab.async false
set_option maxRecDepth 100000
set_option maxHeartbeats 4000000
namespace RS
open PySem PySem.Spec PyProof.Rows L2 GX
/-! ### tables that are empty at the entry, as tables of any size -/
def extOf (T : List Addr) (H : Hp) : Hp := fun b => if b ∈ T then some (.ext (TabE b)) else H b
def tabAt (h : Heap) (b : Addr) : Array Value := match h.get? b with
  | some o => (match o.data with
    | .fields rs => rs
    | _ => #[])
  | none => #[]
def tblOf (T : List Addr) (h : Heap) (H : Hp) : Hp := fun b => if b ∈ T then some (.tbl (tabAt h b)) else H b
/-- a promise that speaks of tables of any size, asked where they are empty -/
def spT (T : List Addr) (sp : Sp) : Sp := fun vs H Q E => (∀ b ∈ T, H b = some (.tbl #[])) ∧ sp vs (extOf T H) (fun v H' => (∀ b ∈ T, Tab H' b) ∧ ∀ H2, Q v H2) E
theorem ext_in {T : List Addr} {H : Hp} {b : Addr} (h : b ∈ T) : extOf T H b = some (.ext (TabE b)) := if_pos h
theorem ext_out {T : List Addr} {H : Hp} {b : Addr} (h : b ∉ T) : extOf T H b = H b := if_neg h
theorem tbl_in {T : List Addr} {g : Heap} {H : Hp} {b : Addr} (h : b ∈ T) : tblOf T g H b = some (.tbl (tabAt g b)) := if_pos h
theorem tbl_out {T : List Addr} {g : Heap} {H : Hp} {b : Addr} (h : b ∉ T) : tblOf T g H b = H b := if_neg h
theorem FnOk.tables {P : Program} {w : World} {K : PySem.W.Frag} {mg : Str → Option Value} {base : Heap} {k : Nat} {f : Addr} {fd : FuncData} {ps : List Str} {sp : Sp} {T : List Addr} (F : FnOk P w K mg base CX0 k f fd ps sp) : FnOk P w K mg base CX0 k f fd ps (spT T sp) := by
  refine ⟨fun vs H Q E h => F.len _ _ _ _ h.2, fun A outer s H args us vs Q E hr e0 hb hv ⟨hT, hs⟩ => ?_⟩
  have nT : ∀ b, H b = none → b ∉ T := fun b e hb => by
    rw [hT b hb] at e
    cases e
  have nT2 : ∀ b o, H b = some o → (∀ ps, o ≠ .tbl ps) → b ∉ T := fun b o e n hb => by
    rw [hT b hb] at e
    exact n #[] (Option.some.inj e).symm
  have e2 : Env0 P w K mg base A outer s (extOf T H) := by
    refine ⟨e0.frames, e0.mod, fun b o e => ⟨(e0.bs b o e).1, by rw [ext_out (nT b (e0.bs b o e).2)]; exact (e0.bs b o e).2⟩, e0.bsz, e0.funs, fun b hb => by rw [ext_out (nT b (e0.frf b hb))]; exact e0.frf b hb, fun b o e => ?_, e0.bare⟩
    by_cases hb : b ∈ T
    · rw [ext_in hb] at e
      cases e
      have q := e0.hok b _ (hT b hb)
      exact ⟨⟨#[], q, trivial⟩, ⟨_, q⟩, tabE_stable⟩
    · rw [ext_out hb] at e
      refine (e0.hok b o e).stay (fun c u _ q => q) (fun c q => ?_) (fun c xs q => ?_)
      · rw [ext_out (nT2 c _ q (fun ps z => by cases z))]
        exact q
      · rw [ext_out (nT2 c _ q (fun ps z => by cases z))]
        exact q
  refine codeAny_mono (F.run A outer s (extOf T H) args us vs _ E hr e2 hb hv hs) fun r s' hq => ?_
  cases r with
  | error e => exact hq
  | ok fl =>
    cases fl with
    | next => exact hq
    | brk => exact hq
    | cont => exact hq
    | ret u =>
      obtain ⟨v, H', os, bare, un, hok', r', hT', q⟩ := hq
      refine ⟨v, tblOf T s'.heap H', os, bare, ⟨fun b o e n => un.keep b o e (by rw [ext_out (nT b n)]; exact n), fun b o e n => un.slot b o e (by rw [ext_out (nT b n)]; exact n), fun b o e n hx => ?_, un.there, fun b xs e => ?_, fun b o u e => ?_, fun b ps e => ?_⟩, fun b o e => ?_, r', q _⟩
      · rw [tbl_out (nT b n)]
        exact un.free b o e (by rw [ext_out (nT b n)]; exact n) hx
      · have hb := nT2 b _ e (fun ps z => by cases z)
        rw [tbl_out hb]
        exact un.tups b xs (by rw [ext_out hb]; exact e)
      · have hb := nT2 b _ e (fun ps z => by cases z)
        rw [tbl_out hb]
        exact un.frzs b o u (by rw [ext_out hb]; exact e)
      · by_cases hb : b ∈ T
        · rw [hT b hb] at e
          cases e
          exact ⟨tabAt s'.heap b, by rw [tbl_in hb, Array.empty_append]⟩
        · rw [tbl_out hb]
          exact un.tbls b ps (by rw [ext_out hb]; exact e)
      · have inT : ∀ c, c ∈ T → ∃ rs : Array Value, s'.heap.get? c = some { cls := .none, data := .fields rs } := fun c hc => by
          obtain ⟨⟨rs, h1, _⟩, _⟩ := hok' c _ (hT' c hc)
          exact ⟨rs, h1⟩
        by_cases hb : b ∈ T
        · rw [tbl_in hb] at e
          cases e
          obtain ⟨rs, h1⟩ := inT b hb
          have e2 : tabAt s'.heap b = rs := by
            unfold tabAt
            rw [h1]
          show s'.heap.get? b = some { cls := .none, data := .fields (tabAt s'.heap b) }
          rw [e2]
          exact h1
        · rw [tbl_out hb] at e
          have nT3 : ∀ c o, H' c = some o → (∀ φ, o ≠ .ext φ) → c ∉ T := fun c o e n hc => by
            have z : H' c = some (.ext (TabE c)) := hT' c hc
            rw [e] at z
            exact n _ (Option.some.inj z)
          refine (hok' b o e).stay (fun c u _ q => q) (fun c q => ?_) (fun c xs q => ?_)
          · rw [tbl_out (nT3 c _ q (fun φ z => by cases z))]
            exact q
          · rw [tbl_out (nT3 c _ q (fun φ z => by cases z))]
            exact q
section
variable {P : Program} {w : World} {K : PySem.W.Frag} {mg : Str → Option Value} {base : Heap}
theorem fn_of0 {f c : Addr} {oc kV doc pm ct : Value} {od an : Option Addr} {osl : Array (Option Value)} {x : Str} {st : Stmt} {N ps : List Str} {k : Nat} {sp : Sp}
    (lk : K.lookup f = some ⟨oc, od, .func (PySem.W.fnOf x x (defArgs st) (defBody st) (defScope st) .none kV doc pm an (.ref c) ct), osl⟩) (hcd : PySem.W.codeIn K (.ref c) x = true) (S : FnScope N ps (defScope st)) (len : ∀ vs H Q E, sp vs H Q E → vs.length = ps.length)
    (hbody : ∀ (f : Addr) (A : Around) (outer : List Env) (s : Shared) (H : Hp) (vs : List V) (Q : VK) (E : XK), Room k (A.deeper (envOfC x (defScope st) s.heap.objs.size f (.ref c))) → sp vs H Q E →
      ∃ t, PSs (cxOf CX0 P w K mg base N x (defScope st) f (.ref c) A outer s H E).nox (defBody st) t ∧ t { nx := fun _ H' => Q .non H', rt := Q } (start N vs) H) :
    FnOk P w K mg base CX0 (k + 1) f (PySem.W.fnOf x x (defArgs st) (defBody st) (defScope st) .none kV doc pm an (.ref c) ct) ps sp :=
  fn_of lk hcd S len fun A outer s H vs Q E hr hsp => by
    obtain ⟨t, ht, q⟩ := hbody f A outer s H vs Q E hr hsp
    exact ⟨t, ht.nox, q⟩
end
end RS
set_option Elab.async false
set_option maxRecDepth 100000
set_option maxHeartbeats 4000000
set_option pp.maxSteps 400
namespace RS
open PySem PySem.Spec PyProof.Rows L2 GX LM
/-! ### objects that change, neither tuples nor tables -/
def Chg (H : Hp) (b : Addr) : Prop := ∃ u, H b = some u ∧ ¬ IsTup u ∧ (∀ ps, u ≠ .tbl ps) ∧ ∀ c q, u ≠ LamX.CodeO c q
theorem chg_lst {H : Hp} {b : Addr} {xs : List V} (h : H b = some (.lst xs)) : Chg H b := ⟨_, h, notup_lst, (fun _ z => nomatch z), fun _ _ z => (by unfold LamX.CodeO at z; cases z)⟩
theorem chg_ins {H : Hp} {b C dx : Addr} {fs : List (Str × V)} (h : H b = some (.ins C dx fs)) : Chg H b := ⟨_, h, notup_ins, (fun _ z => nomatch z), fun _ _ z => (by unfold LamX.CodeO at z; cases z)⟩
theorem chg_dk {H : Hp} {b : Addr} {kvs : List (Key × V)} (h : H b = some (.dK kvs)) : Chg H b := ⟨_, h, notup_dk, (fun _ z => nomatch z), fun _ _ z => (by unfold LamX.CodeO at z; cases z)⟩
theorem Chg.has {H : Hp} {b : Addr} (h : Chg H b) : ∃ u, H b = some u := ⟨_, h.choose_spec.1⟩
theorem DkAt.chg {C : Addr} {H : Hp} {x : Addr} {F : List Addr} {S : Dk} (d : DkAt C H x F S) : ∀ b ∈ F, Chg H b := fun b h => by
  obtain ⟨dx, Ac, An, Au, Ap, ts, dp, rfl, d⟩ := d
  rcases mem5.mp h with rfl | rfl | rfl | rfl | rfl
  · exact chg_ins d.x
  · exact chg_lst d.c
  · exact chg_lst d.n
  · exact chg_lst d.u
  · exact chg_lst d.p
theorem OwnAt.chg {H : Hp} {o : Addr} {G : List Addr} {S : Dk} (d : OwnAt H o G S) : ∀ b ∈ G, Chg H b := fun b h => by
  obtain ⟨Ls, Lp, Lk, ts, rfl, d⟩ := d
  rcases mem4.mp h with rfl | rfl | rfl | rfl
  · exact chg_dk d.o
  · exact chg_lst d.s
  · exact chg_lst d.p
  · exact chg_lst d.k
theorem BoxAt.chg {H : Hp} {B L : Addr} (b : BoxAt H B L) : ∀ c ∈ [B, L], Chg H c := fun c h => by
  obtain ⟨_, ⟨s, hb⟩, ⟨ms, hl⟩⟩ := b
  rcases List.mem_cons.mp h with rfl | h
  · exact chg_lst hb
  · rw [List.mem_singleton.mp h]; exact chg_lst hl
theorem FrF.ktc {F : List Addr} {H H' : Hp} (f : FrF F H H') (n : ∀ b ∈ F, Chg H b) : KpT H H' := f.kt fun b h => by
  obtain ⟨u, h1, h2, _⟩ := n b h
  exact ⟨u, h1, h2⟩
theorem tabS_c {F : List Addr} {H H' : Hp} {P : Addr} {q : Str} (t : LamX.TabS H P q) (f : FrF F H H') (n : ∀ b ∈ F, Chg H b) : LamX.TabS H' P q := by
  obtain ⟨ps, h1, h2, h3⟩ := t
  refine ⟨ps, f _ _ h1 (fun z => ?_), h2, fun pos cv hc => ?_⟩
  · obtain ⟨u, k1, _, k2, _⟩ := n _ z
    rw [h1] at k1
    exact k2 ps (Option.some.inj k1).symm
  · obtain ⟨c, e1, e2⟩ := h3 pos cv hc
    refine ⟨c, e1, f _ _ e2 fun z => ?_⟩
    obtain ⟨u, k1, _, _, k2⟩ := n _ z
    rw [e2] at k1
    exact k2 _ _ (Option.some.inj k1).symm
theorem tabS_ne {H : Hp} {P b : Addr} {q : Str} (t : LamX.TabS H P q) (n : Chg H b) : b ≠ P := fun z => by
  obtain ⟨ps, h1, _⟩ := t
  obtain ⟨u, k1, _, k2, _⟩ := n
  rw [z, h1] at k1
  exact k2 ps (Option.some.inj k1).symm
theorem tabS_kt {H H' : Hp} {P : Addr} {q : Str} (t : LamX.TabS H P q) (f : FrF [P] H H') : KpT H H' := f.kt fun b h => by
  obtain ⟨ps, h1, _⟩ := t
  rw [List.mem_singleton.mp h]
  exact ⟨_, h1, fun z => by rcases z with ⟨_, z⟩ | ⟨_, _, z⟩ <;> cases z⟩
theorem box_c {F : List Addr} {H H' : Hp} {B L : Addr} (b : BoxAt H B L) (f : FrF F H H') (n1 : B ∉ F) (n2 : L ∉ F) : BoxAt H' B L := by
  obtain ⟨n, ⟨s, hb⟩, ⟨ms, hl⟩⟩ := b
  exact ⟨n, ⟨s, f _ _ hb n1⟩, ⟨ms, f _ _ hl n2⟩⟩
theorem frx {H H' : Hp} {B L : Addr} (s : SameX B L H H') : FrF [B, L] H H' := fun b u e n => s b u (fun z => n (by simp [z])) (fun z => n (by simp [z])) e
theorem FrF.mono {F G : List Addr} {H H' : Hp} (f : FrF F H H') (n : ∀ b ∈ F, b ∈ G) : FrF G H H' := fun b u e h => f b u e fun z => h (n b z)
/-- what is there is none of the new parts -/
theorem disj2 {H : Hp} {A F F' : List Addr} (n : ∀ b ∈ A, b ∉ F) (nw : News H F F') (pr : ∀ b ∈ A, ∃ u, H b = some u) : ∀ b ∈ A, b ∉ F' := fun b hb z => by
  rcases nw b z with q | q
  · exact n b hb q
  · obtain ⟨u, hu⟩ := pr b hb
    rw [hu] at q
    cases q
theorem disj_symm {A F : List Addr} (n : ∀ b ∈ A, b ∉ F) : ∀ b ∈ F, b ∉ A := fun b hb z => n b z hb
/-! ### the values of a disk -/
def Vk (K : PySem.W.Frag) (H : Hp) (v : V) : Prop := ∃ d, Dp K H v d ∧ Lt 5 100 d
theorem Vk.kt {K : PySem.W.Frag} {H H' : Hp} {v : V} (h : Vk K H v) (k : KpT H H') : Vk K H' v := by
  obtain ⟨d, h1, h2⟩ := h
  exact ⟨d, dp_kt k d h2.no h1, h2⟩
theorem vk_all {K : PySem.W.Frag} {H : Hp} : ∀ {xs : List V}, (∀ v ∈ xs, Vk K H v) → ∃ ds, DpAll K H xs ds ∧ fews ds ∧ PyData.depthAll ds ≤ 5 ∧ ds.length = xs.length ∧ PyData.canLayAll0 ds = true
  | [], _ => ⟨[], .nil, trivial, by simp [PyData.depthAll], rfl, by simp [PyData.canLayAll0]⟩
  | x :: xs, h => by
    obtain ⟨d, h1, h2⟩ := h x List.mem_cons_self
    obtain ⟨ds, k1, k2, k3, k4, k5⟩ := vk_all fun v hv => h v (List.mem_cons_of_mem _ hv)
    have := h2.dp
    exact ⟨d :: ds, .cons h1 k1, ⟨h2.fw, k2⟩, by simp only [PyData.depthAll]; omega, by rw [List.length_cons, List.length_cons, k4], by simp [PyData.canLayAll0, h2.cl, k5]⟩
def InD (S : Dk) (v : V) : Prop := v ∈ S.set ∨ ∃ p ∈ S.pen, p.2 = v
theorem mem_ovl {v : V} : ∀ {p : List (Nat × V)} {l : List V}, v ∈ ovl l p → v ∈ l ∨ ∃ q ∈ p, q.2 = v
  | [], _, h => .inl h
  | q :: p, l, h => by
    have h : v ∈ ovl (l.set q.1 q.2) p := h
    rcases mem_ovl h with h | ⟨r, h1, h2⟩
    · rcases List.mem_or_eq_of_mem_set h with h | h
      · exact .inl h
      · exact .inr ⟨q, List.mem_cons_self, h.symm⟩
    · exact .inr ⟨r, List.mem_cons_of_mem _ h1, h2⟩
theorem mem_fallL {v : V} : ∀ {p : List (Nat × V)} {bs : List Bool} {l : List V}, v ∈ fallL p bs l → v ∈ l ∨ ∃ q ∈ p, q.2 = v
  | [], [], _, h => .inl h
  | [], _ :: _, _, h => .inl h
  | _ :: _, [], _, h => .inl h
  | q :: p, b :: bs, l, h => by
    have h : v ∈ fallL p bs (if b = true then l.set q.1 q.2 else l) := h
    rcases mem_fallL h with h | ⟨r, h1, h2⟩
    · split at h
      · rcases List.mem_or_eq_of_mem_set h with h | h
        · exact .inl h
        · exact .inr ⟨q, List.mem_cons_self, h.symm⟩
      · exact .inl h
    · exact .inr ⟨r, List.mem_cons_of_mem _ h1, h2⟩
theorem InD.new {v : V} (h : InD .new v) : v = .non := by
  rcases h with h | ⟨p, h, _⟩
  · exact List.eq_of_mem_replicate h
  · nomatch h
theorem InD.fall {S : Dk} {bs : List Bool} {v : V} (h : InD (S.fall bs) v) : InD S v := by
  rcases h with h | ⟨p, h, _⟩
  · exact mem_fallL h
  · nomatch h
theorem InD.count {S : Dk} {v : V} (h : InD S.count.2 v) : InD S v := by
  unfold Dk.count at h
  split at h
  · exact h
  · split at h
    · exact h
    · exact InD.fall h
    · exact h
theorem InD.put {S : Dk} {i : Nat} {u v : V} (h : InD (S.put i u) v) : InD S v ∨ v = u := by
  rcases h with h | ⟨p, h, e⟩
  · exact .inl (.inl h)
  · rcases List.mem_append.mp h with h | h
    · exact .inl (.inr ⟨p, h, e⟩)
    · rw [List.mem_singleton.mp h] at e
      exact .inr e.symm
theorem InD.settle {S : Dk} {v : V} (h : InD S.settle v) : InD S v := by
  rcases h with h | ⟨p, h, _⟩
  · exact mem_ovl h
  · nomatch h
theorem InD.arm {S : Dk} {m : Nat} {bs : List Bool} {v : V} (h : InD (S.arm m bs) v) : InD S v := by
  unfold Dk.arm at h
  split at h
  · exact h
  · exact h
theorem InD.again {S : Dk} {v : V} (h : InD S.again v) : InD S v := by
  rcases h with h | ⟨p, h, _⟩
  · exact .inl h
  · nomatch h
/-! ### a disk and the law's table of it -/
structure Sd (K : PySem.W.Frag) (C : Addr) (H : Hp) (x o : Addr) (A : List Addr) (S : Dk) (n : Nat) : Prop where
  ex : ∃ F G, A = F ++ G ∧ DkAt C H x F S ∧ OwnAt H o G S ∧ ∀ b ∈ F, b ∉ G
  wf : Wf n S
  vs : ∀ v, InD S v → Vk K H v
theorem Sd.chg {K : PySem.W.Frag} {C : Addr} {H : Hp} {x o : Addr} {A : List Addr} {S : Dk} {n : Nat} (d : Sd K C H x o A S n) : ∀ b ∈ A, Chg H b := fun b h => by
  obtain ⟨F, G, rfl, d1, d2, _⟩ := d.ex
  rcases List.mem_append.mp h with h | h
  · exact d1.chg b h
  · exact d2.chg b h
theorem Sd.fr {K : PySem.W.Frag} {C : Addr} {H H' : Hp} {x o : Addr} {A Z : List Addr} {S : Dk} {n : Nat} (d : Sd K C H x o A S n) (f : FrF Z H H') (k : KpT H H') (nz : ∀ b ∈ A, b ∉ Z) : Sd K C H' x o A S n := by
  obtain ⟨F, G, rfl, d1, d2, nd⟩ := d.ex
  exact ⟨⟨F, G, rfl, d1.fr f k fun b h => nz b (List.mem_append_left _ h), d2.fr f k fun b h => nz b (List.mem_append_right _ h), nd⟩, d.wf, fun v h => (d.vs v h).kt k⟩
theorem Sd.same {K : PySem.W.Frag} {C : Addr} {H H' : Hp} {x o : Addr} {A : List Addr} {S : Dk} {n : Nat} (d : Sd K C H x o A S n) (s : Same H H') : Sd K C H' x o A S n := d.fr (Z := []) (.of s) (.of s) fun _ _ z => nomatch z
/-- an error class as the law looks at it -/
structure ErrD (K : PySem.W.Frag) (SE : Addr) (C15 : Nat → Addr) (C : Addr) (j : Nat) : Prop where
  own : Own15 K C15 C j
  exm : PySem.W.exmOne K (.ref C) (.ref SE) = some true
  pl : ¬ (j = 3 ∨ j = 2 ∨ j = 14)
theorem off_up {X : Cx} {σ : L2.St} {H G : Hp} (c : Caught X σ H G) : off X.env.cells G = H := by
  funext b
  by_cases h : Cell X.env.cells b
  · rw [off_c h, c.lo b h]
  · rw [off_n h, c.same b h]
theorem off_back {cl : List (Str × Addr)} {G H' : Hp} (lo : Loose cl H') : off cl (back cl G H') = H' := by
  funext b
  by_cases h : Cell cl b
  · rw [off_c h, lo b h]
  · rw [off_n h, back_n h]
theorem err_D {K : PySem.W.Frag} {SE C : Addr} {C15 : Nat → Addr} {j : Nat} {nm : Str} {X : Cx} {σ : L2.St} {H G H2 : Hp} {Q1 : VK} (e : ErrD K SE C15 C j) (hn : nm15.getD j "" = nm) (ca : Caught X σ H G) (lo : Loose X.env.cells H2)
    (told : ∀ t H', Same H2 (off X.env.cells H') → off X.env.cells H' t = some (.tup [.str nm, .int 0]) → Q1 (.ref t) H') : ErrOk K SE C15 Q1 (.ref C) none (back X.env.cells G H2) :=
  ⟨C, j, 0, rfl, e.own, e.exm, (fun d z => nomatch z), by unfold ErrV; rw [if_neg e.pl], fun H4 t s4 ht4 => by
    rw [hn] at ht4
    refine told t H4 (fun b o z => ?_) ?_
    · have nc : ¬ Cell X.env.cells b := fun c => by rw [lo b c] at z; cases z
      rw [off_n nc]
      exact s4 b o (by rw [back_n nc]; exact z)
    · rw [off_n fun c => ?_]
      · exact ht4
      · obtain ⟨o, v, e, _⟩ := ca.held t c
        have := s4 t _ (by rw [back_c c]; exact e)
        rw [this] at ht4
        exact pin_tup (Option.some.inj ht4)⟩
theorem viaA11 {te : TE} {g : TG} {u : TS} {D : Ends} {σ : L2.St} {H : Hp} (N : V → Hp → Prop) (h1 : ∀ Q' : VK, (∀ x H2, N x H2 → Q' x H2) → te σ H Q') (h2 : ∀ x H2, N x H2 → g x σ H2 fun σ' H' => u D σ' H') : tSeq (tAsg te g) u D σ H := h1 _ h2
theorem viaS11 {tc : TT} {ta tb u : TS} {D : Ends} {σ : L2.St} {H : Hp} (N : L2.St → Hp → Prop) (h1 : ∀ nx : L2.St → Hp → Prop, (∀ σ' H', N σ' H' → nx σ' H') → tIfS tc ta tb { D with nx := nx } σ H) (h2 : ∀ σ' H', N σ' H' → u D σ' H') : tSeq (tIfS tc ta tb) u D σ H := h1 (u D) h2
theorem pass11 {P : Program} {w : World} {X : Cx} : Passes (L2.CX P w) X E0 := fun _ _ _ _ _ _ _ h => by
  obtain ⟨_, _, _, _, _, _, _, _, _, _, _, _, z⟩ := h
  exact z.elim
end RS
set_option Elab.async false
set_option maxRecDepth 100000
set_option maxHeartbeats 8000000
set_option pp.maxSteps 400
namespace RS
open PySem PySem.Spec PyProof.Rows L2 GX LM
abbrev N4D : List Str := ["_law_box", "_law_disk", "_law_own", "_law_block", "_law_what_here", "_law_due"]
abbrev qW11 : Str := (envOfC "_law_write" (defScope s__law_write) 0 0 (.ref 0)).qual ++ "<lambda>"
section
variable {P : Program} {w : World} {K : PySem.W.Frag} {mg : Str → Option Value} {base : Heap}
theorem scLWr : FnScope N4D ["_law_box", "_law_disk", "_law_own"] (defScope s__law_write) := ⟨rfl, rfl, rfl, by decide +kernel, rfl, by decide +kernel, by decide +kernel⟩
def spLWr (K : PySem.W.Frag) (C pW : Addr) : Sp := fun vs H Q _ => ∃ (B L x o : Addr) (A : List Addr) (S : Dk) (n : Nat), vs = [.ref B, .ref x, .ref o] ∧ BoxAt H B L ∧ Sd K C H x o A S n ∧ n ≤ 150 ∧ B ∉ A ∧ L ∉ A ∧ LamX.TabS H pW qW11 ∧
  ∀ (H' : Hp) (A' : List Addr) (S' : Dk), BoxAt H' B L → Sd K C H' x o A' S' (n + 1) → FrF (B :: L :: pW :: A) H H' → News H A A' → LamX.TabS H' pW qW11 → Q (.bl true) H'
/-- what is due of a write, and what it makes of the disk -/
inductive WrOut (i : Int) (d : PyData) (v : V) (S : Dk) : Dk → PyData → Prop
  | bad (h : ¬ (0 ≤ i ∧ i < 600 ∧ wt d ≤ 40)) : WrOut i d v S S (.tuple [.str "BadBlock", .int 0])
  | stop (h : 0 ≤ i ∧ i < 600 ∧ wt d ≤ 40) (c : S.count.1 = false) : WrOut i d v S S.count.2 (.tuple [.str "Stopped", .int 0])
  | good (h : 0 ≤ i ∧ i < 600 ∧ wt d ≤ 40) (c : S.count.1 = true) : WrOut i d v S (S.count.2.put i.toNat v) .none
theorem WrOut.wf {i : Int} {d : PyData} {v : V} {S S' : Dk} {rd : PyData} {n : Nat} (o : WrOut i d v S S' rd) (w : Wf n S) : Wf (n + 1) S' := by
  cases o with
  | bad h => exact w.mono (by omega)
  | stop h c => exact w.count.mono (by omega)
  | good h c => exact w.count.put (by omega) (count_alive c).2
theorem WrOut.ind {i : Int} {d : PyData} {v u : V} {S S' : Dk} {rd : PyData} (o : WrOut i d v S S' rd) (h : InD S' u) : InD S u ∨ u = v := by
  cases o with
  | bad _ => exact .inl h
  | stop _ c => exact .inl h.count
  | good _ c => exact h.put.imp InD.count id
theorem WrOut.few {i : Int} {d : PyData} {v : V} {S S' : Dk} {rd : PyData} (o : WrOut i d v S S' rd) : few rd ∧ rd.depth ≤ 40 := by
  cases o <;> exact ⟨by simp [RS.few, fews], by simp [PyData.depth, PyData.depthAll]⟩
theorem lwrite_ok {c C CB CS SE pW : Addr} {C15 : Nat → Addr} (D : DefAt K mg "_law_write" s__law_write c) (T : Txt K mg) (TB : LamX.TabB base mg c pW) (eB : ErrD K SE C15 CB 9) (eS : ErrD K SE C15 CS 10)
    (cT : Cal P w K mg base CX0 1 "_law_take" ["_law_box", "_law_many"] spTake) (cWh : Cal P w K mg base CX0 6 "_law_what" ["_law_box"] (spWhat K)) (cWg : Cal P w K mg base CX0 7 "_law_weight" ["_law_what_here"] (spWgt K 5)) (cC : Cal P w K mg base CX0 2 "_law_count" ["_law_own"] spCount)
    (cA : Cal P w K mg base CX0 42 "_law_alike" ["_law_found", "_law_due"] (spAlike K 40)) (cTd : Cal P w K mg base CX0 6 "_law_told" ["_law_work"] (spTold P w K mg base SE C15 5)) (cW : MetC P w K mg base (L2.CX P w) 4 C "write" ["self", "block", "what"] (spDkW K C CB CS)) :
    Cal P w K mg base CX0 43 "_law_write" ["_law_box", "_law_disk", "_law_own"] (spLWr K C pW) := by
  have sc := scLWr
  refine def_ok0 D sc (fun vs H Q E h => ?_) (fun _ _ _ _ _ _ us hl => match us, hl with | [_, _, _], _ => rfl) (fun f A outer s H vs Q E hr h => ?_)
  · obtain ⟨B, L, x, o, A, S, n, rfl, _⟩ := h
    rfl
  · obtain ⟨B, L, x, o, A, S, n, rfl, hb, sd, n9, nB, nL, tW, kk⟩ := h
    have hu := hr.units
    refine ⟨_, (pss_cons (ps_set (i := 3) sc.nd rfl (Or.inr rfl) (pe_ix ix_list (pe_lst (pa_cons (pe_c cT hr (by decide) (by rfl) pass0 (pa_cons (pv 0) (pa_cons pe_int pa_nil))) (pa_cons (pe_c cT hr (by decide) (by rfl) pass0 (pa_cons (pv 0) (pa_cons pe_int pa_nil))) (pa_cons (pe_ix ix_list (pe_lst (pa_cons (pe_un un_neg pe_int) (pa_cons pe_int (pa_cons (pe_op op_pow pe_int pe_int) pa_nil)))) (pe_c cT hr (by decide) (by rfl) pass0 (pa_cons (pv 0) (pa_cons pe_int pa_nil))) (fun _ _ => rfl)) pa_nil)))) (pe_op op_fdiv (pe_c cT hr (by decide) (by rfl) pass0 (pa_cons (pv 0) (pa_cons pe_int pa_nil))) pe_int) (fun _ _ => rfl))) (pss_cons (ps_set (i := 4) sc.nd rfl (Or.inr rfl) (pe_c cWh hr (by decide) (by rfl) pass0 (pa_cons (pv 0) pa_nil))) (pss_cons (ps_set (i := 5) sc.nd rfl (Or.inl rfl) (pe_tup (pa_cons pe_str (pa_cons pe_int pa_nil)))) (pss_cons (ps_if ((pw_and (pt_chain op_le op_lt pe_int (pv 3) pe_int) (pw_and1 (pt_cmpR op_le (pe_c cWg hr (by decide) (by rfl) pass0 (pa_cons (pv 4) pa_nil)) pe_int (nomark _)))).pt) (pss_cons (ps_set (i := 5) sc.nd rfl (Or.inl rfl) (pe_ifExp (pt_val (pe_c cC hr (by decide) (by rfl) pass0 (pa_cons (pv 2) pa_nil))) pe_non (pe_tup (pa_cons pe_str (pa_cons pe_int pa_nil))))) (pss_one (ps_if (pt_cmpR op_isN (pv 5) pe_non (nomark _)) (pss_one (ps_expr (pe_bm PySem.F.plainAttrs_list PySem.F.slot_list_append PySem.F.type_list_append mt_append (pe_dget (le64D hu) (pv 2) pe_str (by intro _ _; rfl)) (pa_cons (pe_tup (pa_cons (pv 3) (pa_cons (pv 4) pa_nil))) pa_nil)))) pss_nil))) pss_nil) (pss_one (ps_ret (pe_c cA hr (by decide) (by rfl) pass0 (pa_cons (pe_cP cTd hr (by decide) (fun _ => rfl) (by rfl) (pa_cons (pe_lamP TB rfl (LamX.lamS_by (sc := defScope s__law_write) (by decide +kernel)) (by rfl)) pa_nil)) (pa_cons (pv 5) pa_nil))))))))), ?_⟩
    have tup : ∀ {HX : Hp} {t : Addr} {nm : Str}, HX t = some (.tup [.str nm, .int 0]) → Dp K HX (.ref t) (.tuple [.str nm, .int 0]) := fun h => .tup (SqT.of h) (.cons (.str _) (.cons (.int _) .nil))
    refine viaA11 (fun v H' => ∃ i : Int, v = .int i ∧ SameX B L H H' ∧ BoxAt H' B L) (fun Q' fin => ?_) ?_
    · refine ⟨_, rfl, B, L, 600, rfl, hb, by decide, by decide, fun H1 w1 s1 b1 w10 w11 => ⟨_, rfl, B, L, 3, rfl, b1, by decide, by decide, fun H2 w2 s2 b2 w20 w21 => ?_⟩⟩
      refine ⟨_, rfl, _, _, rfl, rfl, ⟨by decide, by decide, by decide⟩, by show 3 ≤ sizeLine; decide, fun M nM => ?_⟩
      obtain ⟨nMB, nML⟩ := b2.nb nM
      have s3 := sameNew (o := .lst [.int (-1), .int 600, .int (10 ^ (18 : Int).toNat)]) (Same.refl H2) nM
      have hM3 : upd H2 M (.lst [.int (-1), .int 600, .int (10 ^ (18 : Int).toNat)]) M = some (.lst [.int (-1), .int 600, .int (10 ^ (18 : Int).toNat)]) := upd_same
      generalize upd H2 M (.lst [.int (-1), .int 600, .int (10 ^ (18 : Int).toNat)]) = H3 at s3 hM3 ⊢
      refine ⟨_, rfl, B, L, 3, rfl, b2.same s3, by decide, by decide, fun H4 w4 s4 b4 w40 w41 => ?_⟩
      obtain ⟨z3, hz3⟩ : ∃ z3 : Int, atI [V.int (-1), .int 600, .int (10 ^ (18 : Int).toNat)] w4 = some (.int z3) := by
        rcases (by omega : w4 = 0 ∨ w4 = 1 ∨ w4 = 2) with e | e | e <;> subst e <;> exact ⟨_, rfl⟩
      refine ⟨M, _, w4, _, rfl, rfl, SqL.of (s4 _ _ nMB nML hM3), hz3, by show 3 ≤ sizeLine; decide, fun M2 nM2 => ?_⟩
      obtain ⟨nM2B, nM2L⟩ := b4.nb nM2
      have s5 := sameNew (o := .lst [.int w1, .int w2, .int z3]) (Same.refl H4) nM2
      have hM5 : upd H4 M2 (.lst [.int w1, .int w2, .int z3]) M2 = some (.lst [.int w1, .int w2, .int z3]) := upd_same
      generalize upd H4 M2 (.lst [.int w1, .int w2, .int z3]) = H5 at s5 hM5 ⊢
      refine ⟨_, rfl, B, L, 9, rfl, b4.same s5, by decide, by decide, fun H6 w6 s6 b6 w60 w61 => ?_⟩
      obtain ⟨i, hi⟩ : ∃ i : Int, atI [V.int w1, .int w2, .int z3] (w6 / 4) = some (.int i) := by
        rcases (by omega : w6 / 4 = 0 ∨ w6 / 4 = 1 ∨ w6 / 4 = 2) with e | e | e <;> rw [e] <;> exact ⟨_, rfl⟩
      refine ⟨_, _, rfl, rfl, ⟨by decide, by decide⟩, M2, _, w6 / 4, _, rfl, rfl, SqL.of (s6 _ _ nM2B nM2L hM5), hi, ?_⟩
      exact fin _ _ ⟨i, rfl, ((((s1.trans s2).trans (.of s3)).trans s4).trans (.of s5)).trans s6, b6⟩
    rintro _ H1 ⟨i, rfl, s1, b1⟩
    try dsimp only [gName, List.set]
    refine ⟨_, rfl, B, L, rfl, b1, fun H2 v d s2 b2 hv lt => ?_⟩
    have fB : FrF [B, L] H H2 := frx (s1.trans s2)
    have kB := fB.ktc hb.chg
    have nAB : ∀ b ∈ A, b ∉ [B, L] := fun b h z => by
      rcases List.mem_cons.mp z with rfl | z
      · exact nB h
      · rw [List.mem_singleton.mp z] at h; exact nL h
    have sd2 := sd.fr fB kB nAB
    have tW2 := tabS_c tW fB hb.chg
    try dsimp only [gName, List.set]
    refine ⟨by show 2 ≤ sizeLine; decide, fun t0 nt0 => ?_⟩
    have s3 := sameNew (o := .tup [.str "BadBlock", .int 0]) (Same.refl H2) nt0
    have ht0 : upd H2 t0 (.tup [.str "BadBlock", .int 0]) t0 = some (.tup [.str "BadBlock", .int 0]) := upd_same
    generalize upd H2 t0 (.tup [.str "BadBlock", .int 0]) = H3 at s3 ht0 ⊢
    have sd3 := sd2.same s3
    have b3 := b2.same s3
    have hv3 := dp_same s3 _ hv
    have tW3 := tW2.ext s3
    have f3 : FrF [B, L] H H3 := fB.t (.of s3)
    have k3 : KpT H H3 := kB.trans (.of s3)
    obtain ⟨F, G, rfl, dk3, ow3, dFG⟩ := sd3.ex
    have nBF : B ∉ F ∧ L ∉ F ∧ B ∉ G ∧ L ∉ G := ⟨fun z => nB (List.mem_append_left _ z), fun z => nL (List.mem_append_left _ z), fun z => nB (List.mem_append_right _ z), fun z => nL (List.mem_append_right _ z)⟩
    have wf := sd.wf
    try dsimp only [gName, List.set]
    refine viaS11 (fun σ' H' => ∃ (vd : V) (rd : PyData) (S' : Dk) (G' : List Addr), σ' = [some (.ref B), some (.ref x), some (.ref o), some (.int i), some v, some vd] ∧ Dp K H' vd rd ∧ WrOut i d v S S' rd ∧ DkAt C H' x F S ∧ OwnAt H' o G' S' ∧ FrF G H3 H' ∧ News H3 G G') (fun nx fin => ?_) ?_
    · have bad : ¬ (0 ≤ i ∧ i < 600 ∧ wt d ≤ 40) → ∀ HX, Same H3 HX → nx [some (.ref B), some (.ref x), some (.ref o), some (.int i), some v, some (.ref t0)] HX := fun h HX sx => fin _ _ ⟨_, _, S, G, rfl, dp_same sx _ (tup ht0), .bad h, dk3.same sx, ow3.same sx, .of sx, .refl⟩
      refine ⟨_, rfl, _, _, rfl, rfl, _, rfl, ?_⟩
      by_cases c0 : 0 ≤ i
      · rw [decide_eq_true c0]
        refine iteT ⟨_, _, rfl, rfl, _, rfl, ?_⟩
        by_cases c1 : i < 600
        · rw [decide_eq_true c1]
          refine iteT ?_
          refine ⟨_, rfl, v, d, rfl, hv3, lt.mono (Nat.le_refl _) (by decide), fun H4 s4 => ⟨_, _, rfl, rfl, _, rfl, ?_⟩⟩
          by_cases c2 : wt d ≤ 40
          · refine iteT' (decide_eq_true (by omega)) ?_
            have good : 0 ≤ i ∧ i < 600 ∧ wt d ≤ 40 := ⟨c0, c1, c2⟩
            refine ⟨_, rfl, o, G, S, n, rfl, ow3.same s4, wf, by omega, fun H5 G5 ow5 f5 n5 => ?_⟩
            have dk5 : DkAt C H5 x F S := (dk3.same s4).fr f5 (f5.ktc (ow3.same s4).chg) dFG
            have f35 : FrF G H3 H5 := (FrF.of s4).trans f5 fun _ h => .inl h
            have n35 : News H3 G G5 := fun b hb => (n5 b hb).imp id fun z => s4.free z
            cases hc : S.count.1 with
            | true =>
              refine ⟨_, rfl, ?_⟩
              refine iteT ?_
              try dsimp only [gName, List.set]
              refine ⟨_, rfl, rfl, _, rfl, ?_⟩
              refine iteT' (by simp) ?_
              obtain ⟨Ls, Lp, Lk, ts, rfl, d5⟩ := ow5
              have nx5 := d5.no
              refine ⟨_, rfl, o, .ref Lp, rfl, (by rw [← ov1]; exact DGet.k (k := kP) d5.o), .inl ⟨rfl, _, SqL.of d5.p⟩, _, rfl, _, rfl, by show 2 ≤ sizeLine; decide, fun t nt => ?_⟩
              have s6 := sameNew (o := .tup [.int i, v]) (Same.refl H5) nt
              have ht : upd H5 t (.tup [.int i, v]) t = some (.tup [.int i, v]) := upd_same
              generalize upd H5 t (.tup [.int i, v]) = H6 at s6 ht ⊢
              have hp6 := s6 _ _ d5.p
              have lts := d5.pe.len
              have lpen := wf.count.many
              refine ⟨Lp, ts.map V.ref, .ref t, rfl, rfl, hp6, by rw [List.length_map]; exact small1000 (by omega), ?_⟩
              have e7 : ∀ b u, H6 b = some u → b ≠ Lp → upd H6 Lp (.lst (ts.map V.ref ++ [.ref t])) b = some u := fun b u e n => (upd_ne n).trans e
              have kt7 : KpT H6 (upd H6 Lp (.lst (ts.map V.ref ++ [.ref t]))) := .put1 hp6 notup_lst
              have hLp : upd H6 Lp (.lst (ts.map V.ref ++ [.ref t])) Lp = some (.lst (ts.map V.ref ++ [.ref t])) := upd_same
              have f57 : FrF [Lp] H5 (upd H6 Lp (.lst (ts.map V.ref ++ [.ref t]))) := (FrF.of s6).trans (.put1 (by simp)) fun _ h => .inl h
              have LpG : Lp ∈ G ∨ H3 Lp = none := n35 Lp (by simp)
              generalize upd H6 Lp (.lst (ts.map V.ref ++ [.ref t])) = H7 at e7 kt7 hLp f57 ⊢
              have nFp : ∀ b ∈ F, b ∉ [Lp] := fun b hbF z => by
                rw [List.mem_singleton.mp z] at hbF
                rcases LpG with q | q
                · exact dFG _ hbF q
                · obtain ⟨u, hu⟩ := (dk3.chg _ hbF).has
                  rw [hu] at q; cases q
              refine fin _ _ ⟨_, _, _, [o, Ls, Lp, Lk], rfl, .non, .good good hc, dk5.fr f57 ((KpT.of s6).trans kt7) nFp, ⟨Ls, Lp, Lk, ts ++ [t], rfl, ⟨?_, ?_, ?_, ?_, ?_, d5.nd⟩⟩, f35.trans f57 fun b hb => ?_, n35⟩
              · exact e7 _ _ (s6 _ _ d5.o) nx5.2.1
              · exact e7 _ _ (s6 _ _ d5.s) d5.nd.1
              · rw [hLp, List.map_append]; rfl
              · refine ((d5.pe.kt (.of s6)).kt kt7).snoc ?_
                have ei : ((i.toNat : Nat) : Int) = i := Int.toNat_of_nonneg c0
                show H7 t = some (.tup [.int ((i.toNat : Nat) : Int), v])
                rw [ei]
                exact e7 _ _ ht fun z => by rw [z, hp6] at ht; cases ht
              · exact e7 _ _ (s6 _ _ d5.k) (Ne.symm d5.nd.2.2)
              · rw [List.mem_singleton.mp hb]
                exact LpG
            | false =>
              refine ⟨_, rfl, ?_⟩
              refine iteF ⟨by show 2 ≤ sizeLine; decide, fun t nt => ?_⟩
              have s6 := sameNew (o := .tup [.str "Stopped", .int 0]) (Same.refl H5) nt
              have ht : upd H5 t (.tup [.str "Stopped", .int 0]) t = some (.tup [.str "Stopped", .int 0]) := upd_same
              generalize upd H5 t (.tup [.str "Stopped", .int 0]) = H6 at s6 ht ⊢
              try dsimp only [gName, List.set]
              refine ⟨_, rfl, rfl, _, rfl, ?_⟩
              refine iteF' (by simp) ?_
              exact fin _ _ ⟨_, _, _, G5, rfl, tup ht, .stop good hc, dk5.same s6, ow5.same s6, f35.t (.of s6), n35⟩
          · exact iteF' (decide_eq_false (by omega)) (bad (fun z => c2 z.2.2) _ s4)
        · rw [decide_eq_false c1]
          exact iteF (bad (fun z => c1 z.2.1) _ (Same.refl _))
      · rw [decide_eq_false c0]
        exact iteF ⟨_, rfl, iteF (bad (fun z => c0 z.1) _ (Same.refl _))⟩
    rintro _ H4 ⟨vd, rd, S', G', rfl, hvd, out, dk4, ow4, f4, n4⟩
    have k4 := f4.ktc ow3.chg
    have hv4 := dp_kt k4 d lt.no hv3
    have b4 := box_c b3 f4 nBF.2.2.1 nBF.2.2.2
    have tW4 := tabS_c tW3 f4 ow3.chg
    have dFG' : ∀ b ∈ F, b ∉ G' := disj2 dFG n4 fun b hb => (dk3.chg b hb).has
    have nBG' : B ∉ G' ∧ L ∉ G' := by
      have := disj2 (A := [B, L]) (F := G) (H := H3) (fun b hb => by
        rcases List.mem_cons.mp hb with rfl | hb
        · exact nBF.2.2.1
        · rw [List.mem_singleton.mp hb]; exact nBF.2.2.2) n4 fun b hb => (b3.chg b hb).has
      exact ⟨this B (by simp), this L (by simp)⟩
    have nord : noL rd = true := by cases out <;> simp [noL, noLs]
    try dsimp only [gName, List.set]
    refine ⟨tW4, fun fL HA eN xP tS isL hfN => ?_⟩
    intro Gp ca
    have fA : FrF [pW] H4 HA := fun b u e n => xP b u e (by simpa using n)
    have kA := tabS_kt tW4 fA
    have npF : ∀ b ∈ F, b ∉ [pW] := fun b hb z => tabS_ne tW4 (dk4.chg b hb) (List.mem_singleton.mp z)
    have npG : ∀ b ∈ G', b ∉ [pW] := fun b hb z => tabS_ne tW4 (ow4.chg b hb) (List.mem_singleton.mp z)
    have dkA := dk4.fr fA kA npF
    have owA := ow4.fr fA kA npG
    have bA := box_c b4 fA (fun z => tabS_ne tW4 (b4.chg B (by simp)) (List.mem_singleton.mp z)) (fun z => tabS_ne tW4 (b4.chg L (by simp)) (List.mem_singleton.mp z))
    have hvdA := dp_kt kA _ nord hvd
    have hvA := dp_kt kA d lt.no hv4
    obtain ⟨R, rG, act⟩ := lam_act (k := 4) ca (LamX.lamS_by (sc := defScope s__law_write) (by decide +kernel)) (isL.up ca) (fun _ _ _ _ _ => rfl) (fun A outer s H E c' hr' => pe_m cW hr' (Nat.le_refl _) (passes_call (takes_of rfl rfl rfl rfl) fun _ _ _ _ h => h) (pv 1) (pa_cons (pv 3) (pa_cons (pv 4) pa_nil)))
    refine ⟨fL, R, _, rfl, act, rG, fun E' hE => ?_⟩
    rw [off_up ca]
    have fin : ∀ (HX : Hp) (F' : List Addr) (r : V), DkAt C HX x F' S' → FrF F HA HX → News HA F F' → Dp K HX r rd → (∀ (r2 v2 : V), r2 = r → v2 = vd → spAlike K 40 [r2, v2] HX Q E0) := fun HX F' r dkX fX nX hr r2 v2 e1 e2 => by
      rw [e1, e2]
      have kX := fX.ktc dkA.chg
      refine ⟨r, vd, rd, rfl, hr, dp_kt kX _ nord hvdA, out.few.1, out.few.2, ?_⟩
      have dGF : ∀ b ∈ G', b ∉ F := disj_symm dFG'
      have owX := owA.fr fX kX dGF
      have bX := box_c bA fX nBF.1 nBF.2.1
      have k3X : KpT H3 HX := (k4.trans kA).trans kX
      have f3X : FrF (pW :: (F ++ G)) H3 HX := by
        have a1 : FrF (pW :: (F ++ G)) H3 H4 := f4.mono fun b h => by simp [h]
        have a2 : FrF (pW :: (F ++ G)) H4 HA := fA.mono fun b h => by simp [List.mem_singleton.mp h]
        have a3 : FrF (pW :: (F ++ G)) HA HX := fX.mono fun b h => by simp [h]
        exact (a1.t a2).t a3
      have f0X : FrF (B :: L :: pW :: (F ++ G)) H HX := (f3.mono fun b h => by
        rcases List.mem_cons.mp h with rfl | h
        · simp
        · simp [List.mem_singleton.mp h]).t (f3X.mono fun b h => by
        rcases List.mem_cons.mp h with rfl | h
        · simp
        · exact List.mem_cons_of_mem _ (List.mem_cons_of_mem _ (List.mem_cons_of_mem _ h)))
      refine kk HX (F' ++ G') S' bX ⟨⟨F', G', rfl, dkX, owX, disj_symm (disj2 dGF nX fun b hb => (owA.chg b hb).has)⟩, out.wf wf, fun u hu => ?_⟩ f0X (fun b hb => ?_) (tabS_c tS fX dkA.chg)
      · rcases out.ind hu with h | rfl
        · exact (sd3.vs u h).kt k3X
        · exact ⟨d, dp_kt k3X d lt.no hv3, lt⟩
      · have bk : ∀ c, H3 c = none → c ∉ [B, L] → H c = none := fun c z n => f3.free z n
        have bk2 : ∀ c, H3 c = none → H c = none := fun c z => bk c z fun q => by
          obtain ⟨u, hu⟩ := (b3.chg c q).has
          rw [hu] at z; cases z
        rcases List.mem_append.mp hb with h | h
        · rcases nX b h with q | q
          · exact .inl (List.mem_append_left _ q)
          · by_cases hG : b ∈ G
            · exact .inl (List.mem_append_right _ hG)
            refine .inr (bk2 b ?_)
            cases e : H3 b with
            | none => rfl
            | some u =>
              have e4 := f4 _ _ e hG
              by_cases hp : b = pW
              · obtain ⟨ps, h1, _⟩ := tS
                rw [hp, h1] at q; cases q
              · rw [fA _ _ e4 (by simp [hp])] at q; cases q
        · exact (n4 b h).imp (List.mem_append_right _) (bk2 b)
    obtain ⟨dx, Ac, An, Au, Ap, ts, dp, eF, dd⟩ := id dkA
    refine ⟨_, rfl, x, dx, _, rfl, dd.x, fd_no (by decide +kernel) (by decide +kernel) (by decide +kernel) (by decide +kernel) (by decide +kernel) (by decide +kernel), ?_⟩
    refine ⟨_, rfl, _, rfl, x, F, S, n, i, v, d, rfl, dkA, wf, by omega, hvA, lt.no, Nat.le_trans lt.nd (by decide), fun h1 HX sX lo => ?_, fun h1 h2 HX FX dX fX nX lo => ?_, fun h1 h2 HX FX dX fX nX lo => ?_⟩
    · cases out with
      | bad _ => exact hE _ _ _ (err_D eB rfl ca lo fun t H' s' ht => ⟨_, rfl, fin _ F _ (dkA.same (sX.trans s')) (.of (sX.trans s')) .refl (tup ht) _ _ rfl rfl⟩)
      | stop h _ => exact absurd h h1
      | good h _ => exact absurd h h1
    · cases out with
      | bad h => exact absurd h1 h
      | stop _ _ => exact hE _ _ _ (err_D eS rfl ca lo fun t H' s' ht => ⟨_, rfl, fin _ FX _ (dX.same s') (fX.t (.of s')) nX (tup ht) _ _ rfl rfl⟩)
      | good _ c => rw [h2] at c; cases c
    · cases out with
      | bad h => exact absurd h1 h
      | stop _ c => rw [h2] at c; cases c
      | good _ _ =>
        have q := fin HX FX .non dX fX nX .non _ _ rfl rfl
        rw [← off_back (G := Gp) lo] at q
        exact ⟨_, rfl, q⟩
end
end RS
set_option Elab.async false
set_option maxRecDepth 100000
set_option maxHeartbeats 8000000
set_option pp.maxSteps 400
namespace RS
open PySem PySem.Spec PyProof.Rows L2 GX LM
abbrev N5D : List Str := ["_law_box", "_law_disk", "_law_own", "_law_picks", "_law_handed", "_law_way", "_law_many", "_law_good", "_law_k"]
theorem eqD_bools (bs : List Bool) : PyData.eqvAll (bs.map .bool) (bs.map .bool) = true := by
  induction bs with
  | nil => simp [PyData.eqvAll]
  | cons b bs ih => simp [PyData.eqvAll, PyData.eqv, ih]
theorem shaped_bools (bs : List Bool) : SeqAt.shaped (.list (bs.map .bool)) = true := by
  have h1 : PyData.canLayAll0 (bs.map .bool) = true := by
    induction bs with
    | nil => simp [PyData.canLayAll0]
    | cons m ms ih => simp [PyData.canLayAll0, PyData.canLay0, ih]
  have h2 : PyData.depthAll (bs.map .bool) = 0 := by
    induction bs with
    | nil => simp [PyData.depthAll]
    | cons m ms ih => simp [PyData.depthAll, PyData.depth, ih (by simpa [PyData.canLayAll0, PyData.canLay0] using h1)]
  unfold SeqAt.shaped
  rw [Bool.and_eq_true]
  refine ⟨by simp only [PyData.canLay0]; exact h1, decide_eq_true ?_⟩
  simp only [PyData.depth, h2]
  decide
theorem dp_bools {K : PySem.W.Frag} {H : Hp} : ∀ bs : List Bool, DpAll K H (bs.map V.bl) (bs.map .bool)
  | [] => .nil
  | b :: bs => .cons (.bl b) (dp_bools bs)
section
variable {P : Program} {w : World} {K : PySem.W.Frag} {mg : Str → Option Value} {base : Heap}
theorem scLAr : FnScope N5D ["_law_box", "_law_disk", "_law_own"] (defScope s__law_arms) := ⟨rfl, rfl, rfl, by decide +kernel, rfl, by decide +kernel, by decide +kernel⟩
def spLAr (K : PySem.W.Frag) (C : Addr) : Sp := fun vs H Q _ => ∃ (B L x o : Addr) (A : List Addr) (S : Dk) (n : Nat), vs = [.ref B, .ref x, .ref o] ∧ BoxAt H B L ∧ Sd K C H x o A S n ∧ n ≤ 150 ∧ B ∉ A ∧ L ∉ A ∧
  ∀ (H' : Hp) (A' : List Addr) (S' : Dk), BoxAt H' B L → Sd K C H' x o A' S' n → FrF (B :: L :: A) H H' → News H A A' → Q (.bl true) H'
theorem larms_ok {c C : Addr} (D : DefAt K mg "_law_arms" s__law_arms c) (T : Txt K mg)
    (cT : Cal P w K mg base CX0 1 "_law_take" ["_law_box", "_law_many"] spTake) (cF : Cal P w K mg base CX0 1 "_law_fall" ["_law_own", "_law_picks"] spFall)
    (mA : MetC P w K mg base CX0 1 C "arm" ["self", "deeds", "picks"] (spDkA C)) (mS : MetC P w K mg base CX0 2 C "stop" ["self", "picks"] (spDkS C)) (mG : MetC P w K mg base CX0 2 C "again" ["self"] (spDkG2 C)) :
    Cal P w K mg base CX0 3 "_law_arms" ["_law_box", "_law_disk", "_law_own"] (spLAr K C) := by
  have sc := scLAr
  refine def_ok0 D sc (fun vs H Q E h => ?_) (fun _ _ _ _ _ _ us hl => match us, hl with | [_, _, _], _ => rfl) (fun f A outer s H vs Q E hr h => ?_)
  · obtain ⟨B, L, x, o, A, S, n, rfl, _⟩ := h
    rfl
  · obtain ⟨B, L, x, o, A, S, n, rfl, hb, sd, n9, nB, nL, kk⟩ := h
    have hu := hr.units
    refine ⟨_, (pss_cons (ps_setLc (own := [("_law_k", 8)]) (tt := tYes) rfl sc.nd (i := 3) rfl rfl (by rfl) (pi_range1 (by rfl) T.range (pa_cons (pe_c cT hr (by decide) (by rfl) pass0 (pa_cons (pv 0) (pa_cons pe_int pa_nil))) pa_nil)) (blkOk_by (N := N5D) (sc := defScope s__law_arms) (own := [("_law_k", 8)]) (by decide +kernel)) (fun _ _ _ _ _ => (pg_name (i := 8) sc.nd rfl (Or.inl rfl))) (fun _ _ _ _ _ => pts_nil) (fun _ _ _ _ _ => (pe_cmpR op_eq (pe_c cT hr (by decide) (by rfl) pass0 (pa_cons (pv 0) (pa_cons pe_int pa_nil))) pe_int (nomark _)))) (pss_cons (ps_set (i := 4) sc.nd rfl (Or.inl rfl) (pe_callTy call_list_of (by rfl) T.list_ (by decide +kernel) (pa_cons (pv 3) pa_nil))) (pss_cons (ps_set (i := 5) sc.nd rfl (Or.inl rfl) (pe_c cT hr (by decide) (by rfl) pass0 (pa_cons (pv 0) (pa_cons pe_int pa_nil)))) (pss_cons (ps_if (pt_cmpR op_lt (pv 5) pe_int (nomark _)) (pss_cons (ps_set (i := 6) sc.nd rfl (Or.inl rfl) (pe_c cT hr (by decide) (by rfl) pass0 (pa_cons (pv 0) (pa_cons (pe_ix ix_list (pe_lst (pa_cons pe_int (pa_cons pe_int pa_nil))) (pv 5) (fun _ _ => rfl)) pa_nil)))) (pss_cons (ps_if (pt_not (pt_truth (pe_dget (le64D hu) (pv 2) pe_str (by intro _ _; rfl)) (by intro _; rfl))) (pss_cons (ps_dput (le64D hu) (pv 2) pe_str (pv 6) (by rfl)) (pss_one (ps_dput (le64D hu) (pv 2) pe_str (pv 3) (by rfl)))) pss_nil) (pss_one (ps_expr (pe_m mA hr (by decide) pass0 (pv 1) (pa_cons (pv 6) (pa_cons (pv 4) pa_nil))))))) (pss_one (ps_if (pt_cmpR op_eq (pv 5) pe_int (nomark _)) (pss_cons (ps_expr (pe_c cF hr (by decide) (by rfl) pass0 (pa_cons (pv 2) (pa_cons (pv 3) pa_nil)))) (pss_one (ps_expr (pe_m mS hr (by decide) pass0 (pv 1) (pa_cons (pv 4) pa_nil))))) (pss_cons (ps_expr (pe_dupdL (by rfl) (pv 2) (pe_lst (pa_cons (pe_tup (pa_cons pe_str (pa_cons (pe_lst pa_nil) pa_nil))) (pa_cons (pe_tup (pa_cons pe_str (pa_cons pe_non pa_nil))) (pa_cons (pe_tup (pa_cons pe_str (pa_cons (pe_lst pa_nil) pa_nil))) (pa_cons (pe_tup (pa_cons pe_str (pa_cons pe_bl pa_nil))) pa_nil))))) ⟨by rfl, by rfl, by rfl, by rfl⟩)) (pss_one (ps_expr (pe_m0 mG hr (by decide) pass0 (pv 1)))))))) (pss_cons (ps_set (i := 7) sc.nd rfl (Or.inl rfl) (pe_cmpR (op_eqD hu) (pv 4) (pv 3) (nomark _))) (pss_cons (ps_expr (pe_bm PySem.F.plainAttrs_list PySem.F.slot_list_append PySem.F.type_list_append mt_append (pv 4) (pa_cons pe_bl pa_nil))) (pss_one (ps_ret (pv 7))))))))), ?_⟩
    refine ⟨_, rfl, B, L, 9, rfl, hb, by decide, by decide, fun H1 w1 s1 b1 w10 w11 => ⟨_, rfl, by omega, by omega, fun Pk nPk => ?_⟩⟩
    have nw : w1.toNat ≤ 8 := by omega
    have bPk := b1.nb nPk
    refine lc_range (fun i H' => SameX B L H1 H' ∧ BoxAt H' B L ∧ ∃ bs : List Bool, H' Pk = some (.lst (bs.map V.bl)) ∧ bs.length = i)
      ⟨SameX.of (sameNew (Same.refl H1) nPk), b1.upd_ bPk.1 bPk.2, [], upd_same, rfl⟩ ?_ ?_
    · rintro i H2 hi ⟨s2, b2, bs, hl, ln⟩
      refine ⟨rfl, _, rfl, B, L, 2, rfl, b2, by decide, by decide, fun H3 q s3 b3 q0 q1 => ⟨rfl, ?_⟩⟩
      exact ⟨_, s3 _ _ bPk.1 bPk.2 hl, small1000 (by rw [List.length_map]; omega), (s2.trans s3).new nPk, b3.upd_ bPk.1 bPk.2, bs ++ [decide (V.int q = V.int 0)], by rw [upd_same, List.map_append]; rfl, by rw [List.length_append, ln]; rfl⟩
    rintro H2 ⟨s2, b2, bs, hPk2, lbs⟩
    try dsimp only [gName, List.set]
    refine ⟨_, rfl, Pk, _, rfl, .inl (SqL.of hPk2), fun Hd nHd => ?_⟩
    have bHd := b2.nb nHd
    have s12 := s1.trans s2
    have fHd : H Hd = none := s12.free hb nHd b2
    have fPk : H Pk = none := s1.free hb nPk b1
    have nPH : Pk ≠ Hd := fun z => by rw [← z, hPk2] at nHd; cases nHd
    have s3 := sameNew (o := .lst (bs.map V.bl)) (Same.refl H2) nHd
    have hHd3 : upd H2 Hd (.lst (bs.map V.bl)) Hd = some (.lst (bs.map V.bl)) := upd_same
    generalize upd H2 Hd (.lst (bs.map V.bl)) = H3 at s3 hHd3 ⊢
    have hPk3 := s3 _ _ hPk2
    have b3 := b2.same s3
    try dsimp only [gName, List.set]
    refine ⟨_, rfl, B, L, 4, rfl, b3, by decide, by decide, fun H5 way s5 b5 y0 y4 => ?_⟩
    have s05 : SameX B L H H5 := (s12.trans (.of s3)).trans s5
    have hPk5 := s5 _ _ bPk.1 bPk.2 hPk3
    have hHd5 := s5 _ _ bHd.1 bHd.2 hHd3
    have fB : FrF [B, L] H H5 := frx s05
    have kB := fB.ktc hb.chg
    have sd5 := sd.fr fB kB (fun b h z => by
      rcases List.mem_cons.mp z with rfl | z
      · exact nB h
      · rw [List.mem_singleton.mp z] at h; exact nL h)
    obtain ⟨F, G, rfl, dk5, ow5, dFG⟩ := sd5.ex
    have nBF : B ∉ F ∧ L ∉ F ∧ B ∉ G ∧ L ∉ G := ⟨fun z => nB (List.mem_append_left _ z), fun z => nL (List.mem_append_left _ z), fun z => nB (List.mem_append_right _ z), fun z => nL (List.mem_append_right _ z)⟩
    have wf := sd.wf
    have outA : ∀ c, H c = none → c ∉ F ++ G := fun c z h => by
      obtain ⟨u, hu⟩ := (sd.chg c h).has
      rw [hu] at z; cases z
    have outF : ∀ c, H c = none → c ∉ F ∧ c ∉ G := fun c z => ⟨fun h => outA c z (List.mem_append_left _ h), fun h => outA c z (List.mem_append_right _ h)⟩
    have bk : ∀ c, H5 c = none → H c = none := fun c z => fB.free z fun q => by
      obtain ⟨u, hu⟩ := (b5.chg c q).has
      rw [hu] at z; cases z
    try dsimp only [gName, List.set]
    refine viaS11 (fun σ' H' => ∃ (v6 : Option V) (S' : Dk) (F' G' : List Addr), σ' = [some (.ref B), some (.ref x), some (.ref o), some (.ref Pk), some (.ref Hd), some (.int way), v6, none, none] ∧ BoxAt H' B L ∧ DkAt C H' x F' S' ∧ OwnAt H' o G' S' ∧ (∀ b ∈ F', b ∉ G') ∧ Wf n S' ∧ (∀ v, InD S' v → InD S v) ∧
      H' Pk = some (.lst (bs.map V.bl)) ∧ H' Hd = some (.lst (bs.map V.bl)) ∧ Hd ∉ F' ∧ Hd ∉ G' ∧ FrF (B :: L :: (F ++ G)) H5 H' ∧ KpT H5 H' ∧ (∀ b ∈ F' ++ G', b ∈ F ++ G ∨ H b = none)) (fun nx fin => ?_) ?_
    · have keep : ∀ {HX : Hp}, FrF (F ++ G) H5 HX → KpT H5 HX → BoxAt HX B L ∧ HX Pk = some (.lst (bs.map V.bl)) ∧ HX Hd = some (.lst (bs.map V.bl)) := fun f k => ⟨box_c b5 f nB nL, f _ _ hPk5 (outA Pk fPk), f _ _ hHd5 (outA Hd fHd)⟩
      have fin3 : ∀ (v6 : Option V) (S' : Dk) (H8 H9 : Hp) (F' G' : List Addr), OwnAt H8 o G' S' → FrF (B :: L :: G) H5 H8 → KpT H5 H8 → BoxAt H8 B L → (∀ b ∈ G', b ∈ G ∨ H b = none) → DkAt C H8 x F S → H8 Pk = some (.lst (bs.map V.bl)) → H8 Hd = some (.lst (bs.map V.bl)) → Hd ∉ G' →
          DkAt C H9 x F' S' → FrF F H8 H9 → News H8 F F' → Wf n S' → (∀ v, InD S' v → InD S v) → nx [some (.ref B), some (.ref x), some (.ref o), some (.ref Pk), some (.ref Hd), some (.int way), v6, none, none] H9 := fun v6 S' H8 H9 F' G' ow8 f58 k58 b8 n8 dk8 hPk8 hHd8 nHG dk9 f89 n89 wf9 in9 => by
        have k89 := f89.ktc dk8.chg
        have dFG' : ∀ b ∈ F, b ∉ G' := fun b hb z => by
          rcases n8 b z with q | q
          · exact dFG b hb q
          · exact (outF b q).1 hb
        have dGF' := disj2 (disj_symm dFG') n89 fun b hb => (ow8.chg b hb).has
        have hHd9 := f89 _ _ hHd8 (outF Hd fHd).1
        have hPk9 := f89 _ _ hPk8 (outF Pk fPk).1
        refine fin _ _ ⟨v6, S', F', G', rfl, box_c b8 f89 nBF.1 nBF.2.1, dk9, ow8.fr f89 k89 (disj_symm dFG'), disj_symm dGF', wf9, in9, hPk9, hHd9, ?_, nHG, ?_, k58.trans k89, ?_⟩
        · exact (disj2 (A := [Hd]) (fun b h => by rw [List.mem_singleton.mp h]; exact (outF Hd fHd).1) n89 fun b h => by rw [List.mem_singleton.mp h]; exact ⟨_, hHd8⟩) Hd (by simp)
        · refine fun b u e hn => f89 b u (f58 b u e fun z => hn ?_) fun z => hn ?_
          · simp only [List.mem_cons, List.mem_append] at z ⊢
            rcases z with z | z | z
            · exact .inl z
            · exact .inr (.inl z)
            · exact .inr (.inr (.inr z))
          · simp [z]
        · intro b hb
          rcases List.mem_append.mp hb with hb | hb
          · rcases n89 b hb with q | q
            · exact .inl (List.mem_append_left _ q)
            · by_cases hG : b ∈ G
              · exact .inl (List.mem_append_right _ hG)
              · have nb : b ∉ [B, L] := fun z => by
                  obtain ⟨u, hu⟩ := (b8.chg b z).has
                  rw [hu] at q; cases q
                refine .inr (fB.free (f58.free q fun z => ?_) nb)
                simp only [List.mem_cons] at z nb
                rcases z with z | z | z
                · exact nb (.inl z)
                · exact nb (.inr (.inl z))
                · exact hG z
          · rcases n8 b hb with q | q
            · exact .inl (List.mem_append_right _ q)
            · exact .inr q
      refine ⟨_, rfl, _, _, rfl, rfl, _, rfl, ?_⟩
      by_cases cw : way < 2
      · refine iteT' (decide_eq_true cw) ?_
        refine ⟨_, rfl, by show 2 ≤ sizeLine; decide, fun M nM => ⟨_, rfl, ?_⟩⟩
        obtain ⟨nMB, nML⟩ := b5.nb nM
        have s6 := sameNew (o := .lst [.int 3, .int 20]) (Same.refl H5) nM
        have hM : upd H5 M (.lst [.int 3, .int 20]) M = some (.lst [.int 3, .int 20]) := upd_same
        generalize upd H5 M (.lst [.int 3, .int 20]) = H6 at s6 hM ⊢
        obtain ⟨m0, hm0, m1, m2⟩ : ∃ m0 : Int, atI [V.int 3, .int 20] way = some (.int m0) ∧ 1 ≤ m0 ∧ m0 ≤ 20 := by
          rcases (by omega : way = 0 ∨ way = 1) with e | e <;> subst e
          · exact ⟨3, rfl, by decide, by decide⟩
          · exact ⟨20, rfl, by decide, by decide⟩
        refine ⟨M, _, way, _, rfl, rfl, SqL.of hM, hm0, B, L, m0, rfl, b5.same s6, by omega, by omega, fun H7 mi s7 b7 y7 z7 => ?_⟩
        obtain ⟨mn, rfl⟩ : ∃ mn : Nat, mi = (mn : Nat) := ⟨mi.toNat, by omega⟩
        have f57 : FrF [B, L] H5 H7 := (FrF.of s6).trans (frx s7) fun _ h => .inl h
        have k57 := f57.ktc b5.chg
        have nFB : ∀ b ∈ F, b ∉ [B, L] := fun b h z => by
          rcases List.mem_cons.mp z with rfl | z
          · exact nBF.1 h
          · rw [List.mem_singleton.mp z] at h; exact nBF.2.1 h
        have nGB : ∀ b ∈ G, b ∉ [B, L] := fun b h z => by
          rcases List.mem_cons.mp z with rfl | z
          · exact nBF.2.2.1 h
          · rw [List.mem_singleton.mp z] at h; exact nBF.2.2.2 h
        have dk7 := dk5.fr f57 k57 nFB
        have ow7 := ow5.fr f57 k57 nGB
        have hPk7 := f57 _ _ hPk5 (by simp [bPk.1, bPk.2])
        have hHd7 := f57 _ _ hHd5 (by simp [bHd.1, bHd.2])
        try dsimp only [gName, List.set]
        refine viaS11 (fun σ' H' => ∃ (G' : List Addr), σ' = [some (.ref B), some (.ref x), some (.ref o), some (.ref Pk), some (.ref Hd), some (.int way), some (.int (mn : Nat)), none, none] ∧ OwnAt H' o G' (S.arm mn bs) ∧ FrF G H7 H' ∧ (∀ b ∈ G', b ∈ G ∨ b = Pk)) (fun nx fin2 => ?_) ?_
        · obtain ⟨Ls, Lp, Lk, ts, rfl, d⟩ := ow7
          have no := d.no
          refine ⟨_, rfl, o, .bl S.fallen, rfl, (by rw [← ov4]; exact DGet.k (k := kF) d.o), S.fallen, rfl, ?_⟩
          by_cases hf : S.fallen = true
          · rw [hf]
            refine iteF ?_
            have e : S.arm mn bs = S := if_pos hf
            exact fin2 _ _ ⟨[o, Ls, Lp, Lk], rfl, by rw [e]; exact ⟨Ls, Lp, Lk, ts, rfl, d⟩, (fun _ _ e _ => e), fun b h => .inl h⟩
          · rw [show S.fallen = false by simpa using hf]
            refine iteT ?_
            have e : S.arm mn bs = { S with left := some mn, picks := bs } := if_neg hf
            refine ⟨_, rfl, _, rfl, o, _, rfl, DPut.k (k := kL) d.o (by show 5 < sizeLine; decide), ?_⟩
            rw [op2]
            refine ⟨_, rfl, _, rfl, o, _, rfl, DPut.k (k := kK) upd_same (by show 5 < sizeLine; decide), ?_⟩
            rw [op3, upd_upd]
            have eo : ∀ b u, H7 b = some u → b ≠ o → upd H7 o (.dK (ownL (.ref Ls) (.ref Lp) (.int (mn : Nat)) (.ref Pk) S.fallen)) b = some u := fun b u e n => (upd_ne n).trans e
            have nPo : Pk ≠ o ∧ Pk ≠ Ls ∧ Pk ≠ Lp := by
              have := (outF Pk fPk).2
              simp only [List.mem_cons, List.not_mem_nil, or_false, not_or] at this
              exact ⟨this.1, this.2.1, this.2.2.1⟩
            refine fin2 _ _ ⟨[o, Ls, Lp, Pk], rfl, ⟨Ls, Lp, Pk, ts, rfl, ?_, ?_, ?_, ?_, ?_, d.nd.1, Ne.symm nPo.2.1, Ne.symm nPo.2.2⟩, .put1 (by simp), fun b hb => ?_⟩
            · rw [upd_same, e]; rfl
            · rw [e]; exact eo _ _ d.s (Ne.symm no.1)
            · exact eo _ _ d.p (Ne.symm no.2.1)
            · rw [e]; exact d.pe.kt (.put1 d.o notup_dk)
            · rw [e]; exact eo _ _ hPk7 nPo.1
            · rcases mem4.mp hb with rfl | rfl | rfl | rfl
              · exact .inl (by simp)
              · exact .inl (by simp)
              · exact .inl (by simp)
              · exact .inr rfl
        rintro _ H8 ⟨G', rfl, ow8, f78, n8⟩
        have k78 := f78.ktc ow7.chg
        have dk8 := dk7.fr f78 k78 dFG
        have hHd8 := f78 _ _ hHd7 (outF Hd fHd).2
        have hPk8 := f78 _ _ hPk7 (outF Pk fPk).2
        obtain ⟨dx, Ac, An, Au, Ap, ts, dp, eF, dd⟩ := id dk8
        refine ⟨_, rfl, x, dx, _, rfl, dd.x, fd_no (by decide +kernel) (by decide +kernel) (by decide +kernel) (by decide +kernel) (by decide +kernel) (by decide +kernel), ?_⟩
        refine ⟨_, rfl, _, rfl, x, Hd, F, S, mn, bs, rfl, dk8, hHd8, fun H9 F' dk9 f89 n89 => ?_⟩
        refine fin3 _ _ H8 H9 F' G' ow8 (fun b u e hn => f78 b u (f57 b u e fun z => hn ?_) fun z => hn ?_) (k57.trans k78) (box_c b7 f78 nBF.2.2.1 nBF.2.2.2) (fun b hb => (n8 b hb).imp id fun z => by rw [z]; exact fPk) dk8 hPk8 hHd8 ?_ dk9 f89 n89 (wf.arm (by omega)) fun v h => h.arm
        · rcases List.mem_cons.mp z with rfl | z
          · simp
          · simp [List.mem_singleton.mp z]
        · simp [z]
        · intro z
          rcases n8 Hd z with q | q
          · exact (outF Hd fHd).2 q
          · exact nPH q.symm
      · refine iteF' (decide_eq_false cw) ?_
        refine ⟨_, rfl, rfl, _, rfl, ?_⟩
        by_cases c2 : way = 2
        · refine iteT' (by simp [c2]) ?_
          refine ⟨_, rfl, _, rfl, o, Pk, G, S, n, bs, rfl, ow5, wf, by omega, by omega, hPk5, (fun Ls hLs z => (outF Pk fPk).2 (by rw [z]; exact List.mem_of_getElem? hLs)), fun H8 G' ow8 f58 n8 => ?_⟩
          have k58 := f58.ktc ow5.chg
          have dk8 := dk5.fr f58 k58 dFG
          have hHd8 := f58 _ _ hHd5 (outF Hd fHd).2
          have hPk8 := f58 _ _ hPk5 (outF Pk fPk).2
          obtain ⟨dx, Ac, An, Au, Ap, ts, dp, eF, dd⟩ := id dk8
          refine ⟨_, rfl, x, dx, _, rfl, dd.x, fd_no (by decide +kernel) (by decide +kernel) (by decide +kernel) (by decide +kernel) (by decide +kernel) (by decide +kernel), ?_⟩
          have aft : After C H8 x F (S.fall bs) fun H9 => nx [some (.ref B), some (.ref x), some (.ref o), some (.ref Pk), some (.ref Hd), some (.int way), none, none, none] H9 := fun H9 F' dk9 f89 n89 => by
            exact fin3 _ _ H8 H9 F' G' ow8 (f58.mono fun b h => by simp [h]) k58 (box_c b5 f58 nBF.2.2.1 nBF.2.2.2) (fun b hb => (n8 b hb).imp id (bk b)) dk8 hPk8 hHd8 ((disj2 (A := [Hd]) (fun b h => by rw [List.mem_singleton.mp h]; exact (outF Hd fHd).2) n8 fun b h => by rw [List.mem_singleton.mp h]; exact ⟨_, hHd5⟩) Hd (by simp)) dk9 f89 n89 (wf.fall bs) fun v h => h.fall
          have nHF := (outF Hd fHd).1
          rw [eF] at aft nHF
          refine ⟨_, rfl, x, dx, Ac, An, Au, Ap, Hd, ts, dp, bs, S, n, rfl, dd, wf, hHd8, fun z => nHF (by simp [z]), fun H9 An' Au' ts' n1 d1 f1 => ?_⟩
          exact after_stop dd aft n1 d1 f1
        · refine iteF' (by simp [c2]) ?_
          obtain ⟨Ls, Lp, Lk, ts, rfl, d⟩ := id ow5
          have no := d.no
          refine ⟨_, rfl, o, rfl, .inl ⟨_, .inl d.o⟩, Nat.zero_le _, fun q1 nq1 => ?_⟩
          have s6 := sameNew (o := .lst []) (Same.refl H5) nq1
          have hq1 : upd H5 q1 (.lst []) q1 = some (.lst []) := upd_same
          generalize upd H5 q1 (.lst []) = H6 at s6 hq1 ⊢
          refine ⟨by show 2 ≤ sizeLine; decide, fun t1 nt1 => ?_⟩
          have s7 := sameNew (o := .tup [.str "pending", .ref q1]) (Same.refl H6) nt1
          have ht1 : upd H6 t1 (.tup [.str "pending", .ref q1]) t1 = some (.tup [.str "pending", .ref q1]) := upd_same
          generalize upd H6 t1 (.tup [.str "pending", .ref q1]) = H7 at s7 ht1 ⊢
          refine ⟨by show 2 ≤ sizeLine; decide, fun t2 nt2 => ?_⟩
          have s8 := sameNew (o := .tup [.str "left", .non]) (Same.refl H7) nt2
          have ht2 : upd H7 t2 (.tup [.str "left", .non]) t2 = some (.tup [.str "left", .non]) := upd_same
          generalize upd H7 t2 (.tup [.str "left", .non]) = H8 at s8 ht2 ⊢
          refine ⟨Nat.zero_le _, fun q2 nq2 => ?_⟩
          have hq18 := s8 _ _ (s7 _ _ hq1)
          have nq12 : q1 ≠ q2 := fun z => by rw [← z, hq18] at nq2; cases nq2
          have s9 := sameNew (o := .lst []) (Same.refl H8) nq2
          have hq2 : upd H8 q2 (.lst []) q2 = some (.lst []) := upd_same
          generalize upd H8 q2 (.lst []) = H9 at s9 hq2 ⊢
          refine ⟨by show 2 ≤ sizeLine; decide, fun t3 nt3 => ?_⟩
          have sA := sameNew (o := .tup [.str "picks", .ref q2]) (Same.refl H9) nt3
          have ht3 : upd H9 t3 (.tup [.str "picks", .ref q2]) t3 = some (.tup [.str "picks", .ref q2]) := upd_same
          generalize upd H9 t3 (.tup [.str "picks", .ref q2]) = HA at sA ht3 ⊢
          refine ⟨by show 2 ≤ sizeLine; decide, fun t4 nt4 => ?_⟩
          have sB := sameNew (o := .tup [.str "fallen", .bl false]) (Same.refl HA) nt4
          have ht4 : upd HA t4 (.tup [.str "fallen", .bl false]) t4 = some (.tup [.str "fallen", .bl false]) := upd_same
          generalize upd HA t4 (.tup [.str "fallen", .bl false]) = HB at sB ht4 ⊢
          refine ⟨by show 4 ≤ sizeLine; decide, fun LL nLL => ?_⟩
          have sC := sameNew (o := .lst [.ref t1, .ref t2, .ref t3, .ref t4]) (Same.refl HB) nLL
          have hLL : upd HB LL (.lst [.ref t1, .ref t2, .ref t3, .ref t4]) LL = some (.lst [.ref t1, .ref t2, .ref t3, .ref t4]) := upd_same
          generalize upd HB LL (.lst [.ref t1, .ref t2, .ref t3, .ref t4]) = HC at sC hLL ⊢
          have s5C : Same H5 HC := ((((((s6.trans s7).trans s8).trans s9).trans sA).trans sB).trans sC)
          have hoC := s5C _ _ d.o
          have e1 := sC _ _ (sB _ _ (sA _ _ (s9 _ _ (s8 _ _ ht1))))
          have e2 := sC _ _ (sB _ _ (sA _ _ (s9 _ _ ht2)))
          have e3 := sC _ _ (sB _ _ ht3)
          have e4 := sC _ _ ht4
          have hq1C := sC _ _ (sB _ _ (sA _ _ (s9 _ _ hq18)))
          have hq2C := sC _ _ (sB _ _ (sA _ _ hq2))
          refine ⟨LL, [t1, t2, t3, t4], ownL (.ref Ls) (.ref Lp) (lftV S.left) (.ref Lk) S.fallen, [(kP, .ref q1), (kL, .non), (kK, .ref q2), (kF, .bl false)], rfl, hoC, hLL, rfl, fun j T kv h1 h2 => ?_, by show 5 + 4 ≤ sizeLine; decide, ?_⟩
          · rcases j with _ | _ | _ | _ | j
            · cases h1; cases h2; exact e1
            · cases h1; cases h2; exact e2
            · cases h1; cases h2; exact e3
            · cases h1; cases h2; exact e4
            · simp at h1
          have em : mergeK (ownL (.ref Ls) (.ref Lp) (lftV S.left) (.ref Lk) S.fallen) [(kP, .ref q1), (kL, .non), (kK, .ref q2), (kF, .bl false)] = ownL (.ref Ls) (.ref q1) .non (.ref q2) false := by
            unfold mergeK
            simp only [List.foldl_cons, List.foldl_nil]
            rw [op1, op2, op3, op4]
          rw [em]
          have eo : ∀ b u, HC b = some u → b ≠ o → upd HC o (.dK (ownL (.ref Ls) (.ref q1) .non (.ref q2) false)) b = some u := fun b u e n => (upd_ne n).trans e
          have hoD : upd HC o (.dK (ownL (.ref Ls) (.ref q1) .non (.ref q2) false)) o = some (.dK (ownL (.ref Ls) (.ref q1) .non (.ref q2) false)) := upd_same
          have kD : KpT H5 (upd HC o (.dK (ownL (.ref Ls) (.ref q1) .non (.ref q2) false))) := (KpT.of s5C).trans (.put1 hoC notup_dk)
          have fD : FrF [o] H5 (upd HC o (.dK (ownL (.ref Ls) (.ref q1) .non (.ref q2) false))) := (FrF.of s5C).t (.put1 (by simp))
          generalize upd HC o (.dK (ownL (.ref Ls) (.ref q1) .non (.ref q2) false)) = HD at eo hoD kD fD ⊢
          have fq1 : H5 q1 = none := nq1
          have fq2 : H5 q2 = none := ((s6.trans s7).trans s8).free nq2
          have nqo : q1 ≠ o ∧ q2 ≠ o ∧ Ls ≠ q1 ∧ Ls ≠ q2 := ⟨fun z => (by rw [z, d.o] at fq1; cases fq1), fun z => (by rw [z, d.o] at fq2; cases fq2), fun z => (by rw [← z, d.s] at fq1; cases fq1), fun z => (by rw [← z, d.s] at fq2; cases fq2)⟩
          have owD : OwnAt HD o [o, Ls, q1, q2] S.again := ⟨Ls, q1, q2, [], rfl, hoD, eo _ _ (s5C _ _ d.s) (Ne.symm no.1), eo _ _ hq1C nqo.1, .nil, eo _ _ hq2C nqo.2.1, nqo.2.2.1, nqo.2.2.2, nq12⟩
          have oG : ∀ b ∈ [o], b ∈ [o, Ls, Lp, Lk] := fun b h => by rw [List.mem_singleton.mp h]; simp
          have dkD := dk5.fr fD kD fun b hb z => dFG b hb (oG b z)
          have hHdD := fD _ _ hHd5 fun z => (outF Hd fHd).2 (oG _ z)
          have hPkD := fD _ _ hPk5 fun z => (outF Pk fPk).2 (oG _ z)
          obtain ⟨dx, Ac, An, Au, Ap, ts', dp, eF, dd⟩ := id dkD
          refine ⟨_, rfl, x, dx, _, rfl, dd.x, fd_no (by decide +kernel) (by decide +kernel) (by decide +kernel) (by decide +kernel) (by decide +kernel) (by decide +kernel), ?_⟩
          refine ⟨x, F, S, rfl, dkD, fun HE F' dkE fE nE => ?_⟩
          refine fin3 _ _ HD HE F' [o, Ls, q1, q2] owD (fD.mono fun b h => by simp [List.mem_singleton.mp h]) kD (box_c b5 fD (fun z => nBF.2.2.1 (oG _ z)) (fun z => nBF.2.2.2 (oG _ z))) (fun b hb => ?_) dkD hPkD hHdD (fun z => ?_) dkE fE nE wf.again fun v h => h.again
          · rcases mem4.mp hb with rfl | rfl | rfl | rfl
            · exact .inl (by simp)
            · exact .inl (by simp)
            · exact .inr (bk _ fq1)
            · exact .inr (bk _ fq2)
          · rcases mem4.mp z with e | e | e | e
            · exact (outF Hd fHd).2 (by simp [e])
            · exact (outF Hd fHd).2 (by simp [e])
            · rw [e, fq1] at hHd5; cases hHd5
            · rw [e, fq2] at hHd5; cases hHd5
    rintro _ H6 ⟨v6, S', F', G', rfl, b6, dk6, ow6, d6, wf6, in6, hPk6, hHd6, nF6, nG6, f6, k6, n6⟩
    try dsimp only [gName, List.set]
    refine ⟨_, rfl, _, rfl, .list (bs.map .bool), .list (bs.map .bool), .lst (SqL.of hHd6) (dp_bools bs), .lst (SqL.of hPk6) (dp_bools bs), shaped_bools bs, shaped_bools bs, ?_⟩
    rw [show PyData.eqv (.list (bs.map .bool)) (.list (bs.map .bool)) = true by simp [PyData.eqv, eqD_bools]]
    try dsimp only [gName, List.set]
    refine ⟨_, rfl, .inl ⟨rfl, _, SqL.of hHd6⟩, Hd, _, .bl true, rfl, rfl, hHd6, small1000 (by rw [List.length_map]; omega), ?_⟩
    have f7 : FrF [Hd] H6 (upd H6 Hd (.lst (bs.map V.bl ++ [.bl true]))) := .put1 (by simp)
    have k7 : KpT H6 (upd H6 Hd (.lst (bs.map V.bl ++ [.bl true]))) := .put1 hHd6 notup_lst
    generalize upd H6 Hd (.lst (bs.map V.bl ++ [.bl true])) = H7 at f7 k7 ⊢
    refine ⟨_, rfl, kk H7 (F' ++ G') S' (box_c b6 f7 (by simp [Ne.symm bHd.1]) (by simp [Ne.symm bHd.2])) ⟨⟨F', G', rfl, dk6.fr f7 k7 (fun b h z => nF6 (by rw [← List.mem_singleton.mp z]; exact h)), ow6.fr f7 k7 (fun b h z => nG6 (by rw [← List.mem_singleton.mp z]; exact h)), d6⟩, wf6, fun v h => ((sd5.vs v (in6 v h)).kt k6).kt k7⟩ ?_ n6⟩
    refine fun b u e hn => f7 b u (f6 b u (fB b u e fun z => hn ?_) hn) fun z => ?_
    · rcases List.mem_cons.mp z with rfl | z
      · simp
      · simp [List.mem_singleton.mp z]
    · rw [List.mem_singleton.mp z, fHd] at e
      cases e
end
end RS
set_option Elab.async false
set_option maxRecDepth 100000
set_option maxHeartbeats 8000000
set_option pp.maxSteps 400
namespace RS
open PySem PySem.Spec PyProof.Rows L2 GX LM
abbrev N6D : List Str := ["_law_box", "_law_disk", "_law_own", "_law_again", "_law_found", "_law_far", "_law_blocks", "_law_block", "_law_due", "_law_some", "_law_told_here", "_law_one", "_law_what_here"]
abbrev qI11 : Str := (envOfC "_law_is" (defScope s__law_is) 0 0 (.ref 0)).qual ++ "<lambda>"
/-- the values written into a block, in turn -/
def wrote (p : List (Nat × V)) (b : Nat) : List V := (p.filter fun q => decide (q.1 = b)).map (·.2)
theorem wrote_mem {p : List (Nat × V)} {b : Nat} {v : V} (h : v ∈ wrote p b) : ∃ q ∈ p, q.2 = v := by
  obtain ⟨q, hq, e⟩ := List.mem_map.mp h
  exact ⟨q, (List.mem_filter.mp hq).1, e⟩
theorem wrote_len {p : List (Nat × V)} {b : Nat} : (wrote p b).length ≤ p.length := by
  unfold wrote
  rw [List.length_map]
  exact List.length_filter_le _ _
theorem wrote_snoc {p : List (Nat × V)} {b : Nat} {q : Nat × V} : wrote (p ++ [q]) b = if q.1 = b then wrote p b ++ [q.2] else wrote p b := by
  unfold wrote
  rw [List.filter_append, List.map_append]
  by_cases h : q.1 = b
  · rw [if_pos h]; simp [h]
  · rw [if_neg h]; simp [h]
theorem ovl_snoc_get {l : List V} {p : List (Nat × V)} {q : Nat × V} {b : Nat} (hb : b < l.length) : (ovl l (p ++ [q])).getD b .non = if q.1 = b then q.2 else (ovl l p).getD b .non := by
  rw [ovl_snoc, List.getD_eq_getElem?_getD, List.getElem?_set, ovl_len]
  by_cases h : q.1 = b
  · rw [if_pos h, if_pos h, h, if_pos hb]; rfl
  · rw [if_neg h, if_neg h, List.getD_eq_getElem?_getD]
theorem ovl_wroteN {l : List V} {b : Nat} (hb : b < l.length) : ∀ (n : Nat) (p : List (Nat × V)), p.length = n → (wrote p b = [] → (ovl l p).getD b .non = l.getD b .non) ∧ ∀ xs v, wrote p b = xs ++ [v] → (ovl l p).getD b .non = v
  | n, p, hn => by
    rcases p.eq_nil_or_concat with rfl | ⟨p0, q, rfl⟩
    · refine ⟨fun _ => rfl, fun xs v h => ?_⟩
      have : ([] : List V) = xs ++ [v] := h
      simp at this
    · rw [List.concat_eq_append] at hn ⊢
      rw [List.length_append, List.length_singleton] at hn
      cases n with
      | zero => omega
      | succ n =>
        have ih := ovl_wroteN hb n p0 (by omega)
        rw [wrote_snoc, ovl_snoc_get hb]
        by_cases h : q.1 = b
        · rw [if_pos h, if_pos h]
          refine ⟨fun z => by simp at z, fun xs v z => ?_⟩
          exact (List.append_inj' z rfl).2 |> fun e => (List.cons.inj e).1
        · rw [if_neg h, if_neg h]
          exact ih
theorem ovl_wrote {l : List V} {b : Nat} (hb : b < l.length) (p : List (Nat × V)) : (wrote p b = [] → (ovl l p).getD b .non = l.getD b .non) ∧ ∀ xs v, wrote p b = xs ++ [v] → (ovl l p).getD b .non = v := ovl_wroteN hb _ p rfl
section
variable {P : Program} {w : World} {K : PySem.W.Frag} {mg : Str → Option Value} {base : Heap}
theorem scLIs : FnScope N6D ["_law_box", "_law_disk", "_law_own"] (defScope s__law_is) := ⟨rfl, rfl, rfl, by decide +kernel, rfl, by decide +kernel, by decide +kernel⟩
def spLIs (K : PySem.W.Frag) (C pI : Addr) : Sp := fun vs H Q _ => ∃ (B L x o : Addr) (A : List Addr) (S : Dk) (n : Nat), vs = [.ref B, .ref x, .ref o] ∧ BoxAt H B L ∧ Sd K C H x o A S n ∧ n ≤ 150 ∧ B ∉ A ∧ L ∉ A ∧ LamX.TabS H pI qI11 ∧
  ∀ (H' : Hp), BoxAt H' B L → FrF [B, L, pI] H H' → LamX.TabS H' pI qI11 → Q (.bl true) H'
theorem lis_ok {c C CB CS SE pI : Addr} {C15 : Nat → Addr} (D : DefAt K mg "_law_is" s__law_is c) (T : Txt K mg) (TB : LamX.TabB base mg c pI) (eB : ErrD K SE C15 CB 9) (eS : ErrD K SE C15 CS 10)
    (cT : Cal P w K mg base CX0 1 "_law_take" ["_law_box", "_law_many"] spTake)
    (cA : Cal P w K mg base CX0 42 "_law_alike" ["_law_found", "_law_due"] (spAlike K 40)) (cTd : Cal P w K mg base CX0 6 "_law_told" ["_law_work"] (spTold P w K mg base SE C15 5)) (mB : MetC P w K mg base CX0 1 C "blocks" ["self"] (spDkB C)) (mR : MetC P w K mg base (L2.CX P w) 3 C "read" ["self", "block"] (spDkRd C CB CS)) :
    Cal P w K mg base CX0 43 "_law_is" ["_law_box", "_law_disk", "_law_own"] (spLIs K C pI) := by
  have sc := scLIs
  refine def_ok0 D sc (fun vs H Q E h => ?_) (fun _ _ _ _ _ _ us hl => match us, hl with | [_, _, _], _ => rfl) (fun f A outer s H vs Q E hr h => ?_)
  · obtain ⟨B, L, x, o, A, S, n, rfl, _⟩ := h
    rfl
  · obtain ⟨B, L, x, o, A, S, n, rfl, hb, sd, n9, nB, nL, tI, kk⟩ := h
    have hu := hr.units
    refine ⟨_, (pss_cons (ps_for PassesOwn.never rfl (pi_range1 (by rfl) T.range (pa_cons pe_int pa_nil)) (pg_name (i := 3) sc.nd rfl (Or.inl rfl)) (pss_cons (ps_set (i := 4) sc.nd rfl (Or.inl rfl) (pe_m0 mB hr (by decide) pass0 (pv 1))) (pss_cons (ps_if (pt_not (pt_val (pe_c cA hr (by decide) (by rfl) pass0 (pa_cons (pv 4) (pa_cons (pe_dget (le64D hu) (pv 2) pe_str (by intro _ _; rfl)) pa_nil))))) (pss_one (ps_ret pe_bl)) pss_nil) (pss_one (ps_expr (pe_bm0 PySem.F.plainAttrs_list PySem.F.slot_list_clear PySem.F.type_list_clear mt_clear (pv 4))))))) (pss_cons (ps_set (i := 5) sc.nd rfl (Or.inl rfl) (pe_c cT hr (by decide) (by rfl) pass0 (pa_cons (pv 0) (pa_cons (pe_op op_pow pe_int pe_int) pa_nil)))) (pss_cons (ps_set (i := 6) sc.nd rfl (Or.inl rfl) (pe_lst (pa_cons (pe_c cT hr (by decide) (by rfl) pass0 (pa_cons (pv 0) (pa_cons pe_int pa_nil))) (pa_cons (pe_c cT hr (by decide) (by rfl) pass0 (pa_cons (pv 0) (pa_cons pe_int pa_nil))) (pa_cons (pe_c cT hr (by decide) (by rfl) pass0 (pa_cons (pv 0) (pa_cons pe_int pa_nil))) (pa_cons (pe_op op_add pe_int (pv 5)) (pa_cons (pe_op op_sub (pe_un un_neg pe_int) (pv 5)) (pa_cons (pe_op op_sub (pe_un un_neg pe_int) (pe_c cT hr (by decide) (by rfl) pass0 (pa_cons (pv 0) (pa_cons pe_int pa_nil)))) pa_nil)))))))) (pss_cons (ps_set (i := 7) sc.nd rfl (Or.inr rfl) (pe_ix ix_list (pv 6) (pe_c cT hr (by decide) (by rfl) pass0 (pa_cons (pv 0) (pa_cons pe_int pa_nil))) (fun _ _ => rfl))) (pss_cons (ps_set (i := 8) sc.nd rfl (Or.inl rfl) (pe_tup (pa_cons pe_str (pa_cons pe_int pa_nil)))) (pss_cons (ps_if (pt_chain op_le op_lt pe_int (pv 7) pe_int) (pss_cons (ps_setLc (own := [("_law_one", 11), ("_law_what_here", 12)]) (g := gTup K 2 (gCons (gName 11) (gCons (gName 12) gNil))) (tt := _) rfl sc.nd (i := 9) rfl rfl (by rfl) (pi_list (pe_dget (le64D hu) (pv 2) pe_str (by intro _ _; rfl))) (blkOk_by (N := N6D) (sc := defScope s__law_is) (own := [("_law_one", 11), ("_law_what_here", 12)]) (by decide +kernel)) (fun _ _ _ _ _ => (pg_tup (by rfl) (pgs_cons (pg_name (i := 11) sc.nd rfl (Or.inl rfl)) (pgs_cons (pg_name (i := 12) sc.nd rfl (Or.inl rfl)) pgs_nil)))) (fun _ _ _ _ _ => pts_one (pt_cmpR op_eq (pv 11) (pv 7) (nomark _))) (fun _ _ _ _ _ => pv 12)) (pss_cons (ps_set (i := 10) sc.nd rfl (Or.inl rfl) (pe_ifExp (pt_cmpR (op_eqD hu) (pv 9) (pe_lst pa_nil) (nomark _)) (pe_ix ix_list (pe_dget (le64D hu) (pv 2) pe_str (by intro _ _; rfl)) (pv 7) (fun _ _ => rfl)) (pe_ix ix_list (pv 9) (pe_un un_neg pe_int) (fun _ _ => rfl)))) (pss_one (ps_set (i := 8) sc.nd rfl (Or.inl rfl) (pe_ifExp (pt_truth (pe_dget (le64D hu) (pv 2) pe_str (by intro _ _; rfl)) (by intro _; rfl)) (pe_tup (pa_cons pe_str (pa_cons pe_int pa_nil))) (pv 10)))))) pss_nil) (pss_one (ps_ret (pe_c cA hr (by decide) (by rfl) pass0 (pa_cons (pe_cP cTd hr (by decide) (fun _ => rfl) (by rfl) (pa_cons (pe_lamP TB rfl (LamX.lamS_by (sc := defScope s__law_is) (by decide +kernel)) (by rfl)) pa_nil)) (pa_cons (pv 8) pa_nil))))))))))), ?_⟩
    have tup : ∀ {HX : Hp} {t : Addr} {nm : Str}, HX t = some (.tup [.str nm, .int 0]) → Dp K HX (.ref t) (.tuple [.str nm, .int 0]) := fun h => .tup (SqT.of h) (.cons (.str _) (.cons (.int _) .nil))
    obtain ⟨F, G, rfl, dk, ow, dFG⟩ := sd.ex
    have wf := sd.wf
    have nBF : B ∉ F ∧ L ∉ F ∧ B ∉ G ∧ L ∉ G := ⟨fun z => nB (List.mem_append_left _ z), fun z => nL (List.mem_append_left _ z), fun z => nB (List.mem_append_right _ z), fun z => nL (List.mem_append_right _ z)⟩
    refine ⟨_, rfl, by decide, by decide, ?_⟩
    rw [show (2 : Int).toNat = 2 from rfl]
    refine for_range (fun i σ H' => ∃ v3 v4 : Option V, σ = [some (.ref B), some (.ref x), some (.ref o), v3, v4, none, none, none, none, none, none, none, none] ∧ Same H H') ⟨none, none, rfl, Same.refl H⟩ ?_ ?_
    · rintro i σ H1 hi ⟨v3, v4, rfl, s1⟩
      try dsimp only [gName, List.set]
      have dk1 := dk.same s1
      obtain ⟨dx, Ac, An, Au, Ap, ts, dp, eF, dd⟩ := id dk1
      obtain ⟨Ls, Lp, Lk, tl, eG, d⟩ := id (ow.same s1)
      refine ⟨_, rfl, x, dx, _, rfl, dd.x, fd_no (by decide +kernel) (by decide +kernel) (by decide +kernel) (by decide +kernel) (by decide +kernel) (by decide +kernel), ?_⟩
      refine ⟨x, F, S, rfl, dk1, fun l nl => ?_⟩
      have s2 := sameNew (o := .lst S.set) (Same.refl H1) nl
      have hl : upd H1 l (.lst S.set) l = some (.lst S.set) := upd_same
      generalize upd H1 l (.lst S.set) = H2 at s2 hl ⊢
      have sd2 := sd.same (s1.trans s2)
      obtain ⟨ds, k1, k2, k3, k4, k5⟩ := vk_all (K := K) (H := H2) (xs := S.set) fun v hv => sd2.vs v (.inl hv)
      have hs2 := s2 _ _ d.s
      try dsimp only [gName, List.set]
      refine ⟨_, rfl, _, rfl, o, .ref Ls, rfl, (by rw [← ov0]; exact DGet.k (k := kS) (s2 _ _ d.o)), .ref l, .ref Ls, .list ds, rfl, .lst (SqL.of hl) k1, .lst (SqL.of hs2) k1, ⟨by rw [k4, wf.len]; decide, k2⟩, by simp only [PyData.depth]; omega, _, rfl, iteF ?_⟩
      refine ⟨_, rfl, .inl ⟨rfl, _, SqL.of hl⟩, l, _, rfl, rfl, hl, ?_⟩
      exact ⟨_, _, rfl, fun b u e => (upd_ne (ne_of_none e (s1.free nl))).trans (s2 _ _ (s1 _ _ e))⟩
    rintro σ H1 ⟨v3, v4, rfl, s1⟩
    try dsimp only [gName, List.set]
    refine viaA11 (fun v H' => ∃ z : Int, v = .int z ∧ SameX B L H H' ∧ BoxAt H' B L) (fun Q' fin => ?_) ?_
    · exact ⟨_, rfl, _, _, rfl, rfl, ⟨by decide, by decide, by decide⟩, B, L, _, rfl, hb.same s1, by decide, by decide, fun H2 z s2 b2 _ _ => fin _ _ ⟨z, rfl, (SameX.of s1).trans s2, b2⟩⟩
    rintro _ H2 ⟨far, rfl, s2, b2⟩
    try dsimp only [gName, List.set]
    refine viaA11 (fun v H' => ∃ (M : Addr) (zs : List Int), v = .ref M ∧ zs.length = 6 ∧ H' M = some (.lst (zs.map V.int)) ∧ M ≠ B ∧ M ≠ L ∧ SameX B L H H' ∧ BoxAt H' B L) (fun Q' fin => ?_) ?_
    · refine ⟨_, rfl, B, L, 3, rfl, b2, by decide, by decide, fun H3 z1 s3 b3 _ _ => ⟨_, rfl, B, L, 3, rfl, b3, by decide, by decide, fun H4 z2 s4 b4 _ _ => ⟨_, rfl, B, L, 600, rfl, b4, by decide, by decide, fun H5 z3 s5 b5 _ _ => ?_⟩⟩⟩
      refine ⟨_, rfl, _, _, rfl, rfl, _, rfl, _, rfl, _, _, rfl, rfl, _, rfl, _, rfl, B, L, 600, rfl, b5, by decide, by decide, fun H6 z4 s6 b6 _ _ => ⟨_, _, rfl, rfl, by show 6 ≤ sizeLine; decide, fun M nM => ?_⟩⟩
      have nMb := b6.nb nM
      exact fin _ _ ⟨M, [z1, z2, z3, 600 + far, -1 - far, -1 - z4], rfl, rfl, upd_same, nMb.1, nMb.2, ((((s2.trans s3).trans s4).trans s5).trans s6).trans (.of (sameNew (Same.refl _) nM)), b6.upd_ nMb.1 nMb.2⟩
    rintro _ H3 ⟨M, zs, rfl, lz, hM, nMB, nML, s3, b3⟩
    try dsimp only [gName, List.set]
    refine viaA11 (fun v H' => ∃ i : Int, v = .int i ∧ SameX B L H H' ∧ BoxAt H' B L) (fun Q' fin => ?_) ?_
    · refine ⟨_, rfl, _, rfl, B, L, 6, rfl, b3, by decide, by decide, fun H4 q s4 b4 q0 q6 => ?_⟩
      obtain ⟨i, hi⟩ : ∃ i : Int, atI (zs.map V.int) q = some (.int i) := by
        obtain ⟨k, rfl⟩ : ∃ k : Nat, q = (k : Nat) := ⟨q.toNat, by omega⟩
        have hk : k < zs.length := by omega
        exact ⟨zs[k], atI_nat (by rw [List.getElem?_map, List.getElem?_eq_getElem hk]; rfl)⟩
      exact ⟨M, _, q, _, rfl, rfl, SqL.of (s4 _ _ nMB nML hM), hi, fin _ _ ⟨i, rfl, s3.trans s4, b4⟩⟩
    rintro _ H4 ⟨i, rfl, s4, b4⟩
    try dsimp only [gName, List.set]
    have fB : FrF [B, L] H H4 := frx s4
    have kB := fB.ktc hb.chg
    have nAB : ∀ b ∈ F ++ G, b ∉ [B, L] := fun b h z => by
      rcases List.mem_cons.mp z with rfl | z
      · exact nB h
      · rw [List.mem_singleton.mp z] at h; exact nL h
    have sd4 := sd.fr fB kB nAB
    have dk4 := dk.fr fB kB fun b h => nAB b (List.mem_append_left _ h)
    have ow4 := ow.fr fB kB fun b h => nAB b (List.mem_append_right _ h)
    have tI4 := tabS_c tI fB hb.chg
    refine ⟨by show 2 ≤ sizeLine; decide, fun t0 nt0 => ?_⟩
    have s5 := sameNew (o := .tup [.str "BadBlock", .int 0]) (Same.refl H4) nt0
    have ht0 : upd H4 t0 (.tup [.str "BadBlock", .int 0]) t0 = some (.tup [.str "BadBlock", .int 0]) := upd_same
    generalize upd H4 t0 (.tup [.str "BadBlock", .int 0]) = H5 at s5 ht0 ⊢
    try dsimp only [gName, List.set]
    refine viaS11 (fun σ' H' => ∃ (v9 v10 : Option V) (vd : V) (rd : PyData), σ' = [some (.ref B), some (.ref x), some (.ref o), v3, v4, some (.int far), some (.ref M), some (.int i), some vd, v9, v10, none, none] ∧ Same H4 H' ∧ Dp K H' vd rd ∧ few rd ∧ rd.depth ≤ 40 ∧ noL rd = true ∧
      (¬ (0 ≤ i ∧ i < 600) → rd = .tuple [.str "BadBlock", .int 0]) ∧ (0 ≤ i ∧ i < 600 → S.fallen = true → rd = .tuple [.str "Stopped", .int 0]) ∧ (0 ≤ i ∧ i < 600 → S.fallen = false → vd = (ovl S.set S.pen).getD i.toNat .non)) (fun nx fin => ?_) ?_
    · have rest : ∀ (H6 : Hp) (v9 v10 : Option V) (vd : V) (rd : PyData), Same H4 H6 → Dp K H6 vd rd → few rd → rd.depth ≤ 40 → noL rd = true →
          (¬ (0 ≤ i ∧ i < 600) → rd = .tuple [.str "BadBlock", .int 0]) → (0 ≤ i ∧ i < 600 → S.fallen = true → rd = .tuple [.str "Stopped", .int 0]) → (0 ≤ i ∧ i < 600 → S.fallen = false → vd = (ovl S.set S.pen).getD i.toNat .non) → nx [some (.ref B), some (.ref x), some (.ref o), v3, v4, some (.int far), some (.ref M), some (.int i), some vd, v9, v10, none, none] H6 :=
        fun H6 v9 v10 vd rd a1 a2 a3 a4 a5 a6 a7 a8 => fin _ _ ⟨v9, v10, vd, rd, rfl, a1, a2, a3, a4, a5, a6, a7, a8⟩
      have bad : ¬ (0 ≤ i ∧ i < 600) → nx [some (.ref B), some (.ref x), some (.ref o), v3, v4, some (.int far), some (.ref M), some (.int i), some (.ref t0), none, none, none, none] H5 := fun h => rest H5 none none _ _ s5 (tup ht0) (by simp [few, fews]) (by simp [PyData.depth, PyData.depthAll]) (by simp [noL, noLs]) (fun _ => rfl) (fun z => absurd z h) (fun z => absurd z h)
      refine ⟨_, rfl, _, _, rfl, rfl, _, rfl, ?_⟩
      by_cases c0 : 0 ≤ i
      · rw [decide_eq_true c0]
        refine iteT ⟨_, _, rfl, rfl, _, rfl, ?_⟩
        by_cases c1 : i < 600
        · rw [decide_eq_true c1]
          refine iteT ?_
          obtain ⟨b, rfl⟩ : ∃ b : Nat, i = (b : Nat) := ⟨i.toNat, by omega⟩
          have hb6 : b < 600 := by omega
          obtain ⟨Ls, Lp, Lk, tl, eG, d⟩ := id (ow4.same s5)
          have sd5 := sd4.same s5
          refine ⟨_, rfl, o, .ref Lp, rfl, (by rw [← ov1]; exact DGet.k (k := kP) d.o), Lp, rfl, ⟨_, SqL.of d.p⟩, fun DD hD => ?_⟩
          have lpen := wf.many
          have ltl := d.pe.len
          refine lc_list (K := K) (a := Lp) (xs := tl.map V.ref) (fun j H' => Same H5 H' ∧ H' DD = some (.lst (wrote (S.pen.take j) b)))
            ⟨sameNew (Same.refl H5) hD, upd_same⟩ (fun j H' _ h => SqL.of (h.1 _ _ d.p)) ?_ ?_
          · rintro j y H6 hy ⟨s6, hl⟩
            obtain ⟨t, ht, rfl⟩ : ∃ t, tl[j]? = some t ∧ y = .ref t := by
              rw [List.getElem?_map] at hy
              cases q : tl[j]? with
              | none => rw [q] at hy; cases hy
              | some t => rw [q] at hy; exact ⟨t, rfl, (Option.some.inj hy).symm⟩
            have hj : j < S.pen.length := by
              have := (List.getElem?_eq_some_iff.mp ht).1
              omega
            obtain ⟨p, hp⟩ : ∃ p, S.pen[j]? = some p := ⟨_, List.getElem?_eq_getElem hj⟩
            have htt := s6 _ _ (d.pe.at_ j t p ht hp)
            have tk : wrote (S.pen.take (j + 1)) b = if p.1 = b then wrote (S.pen.take j) b ++ [p.2] else wrote (S.pen.take j) b := by
              rw [List.take_add_one, hp]
              exact wrote_snoc
            have lw := wrote_len (p := S.pen.take j) (b := b)
            rw [List.length_take] at lw
            refine ⟨t, _, rfl, SqT.of htt, rfl, _, _, rfl, _, _, rfl, rfl, rfl, _, rfl, _, rfl, rfl, _, rfl, ?_⟩
            by_cases e : p.1 = b
            · refine iteT' (by rw [e]; simp) ⟨_, rfl, _, hl, small1000 (by omega), fun b' u z => (upd_ne (ne_of_none z hD)).trans (s6 _ _ z), ?_⟩
              rw [tk, if_pos e]
              exact upd_same
            · refine iteF' (decide_eq_false fun z => e (by have := V.int.inj z; omega)) ⟨s6, ?_⟩
              rw [tk, if_neg e]
              exact hl
          rintro H6 ⟨s6, hl⟩
          rw [List.length_map, ltl, List.take_length] at hl
          try dsimp only [gName, List.set]
          have sd6 := sd5.same s6
          have ho6 := s6 _ _ d.o
          have hs6 := s6 _ _ d.s
          obtain ⟨ds, k1, k2, k3, k4, k5⟩ := vk_all (K := K) (H := H6) (xs := wrote S.pen b) fun v hv => sd6.vs v (.inr (wrote_mem hv))
          have hbl : b < S.set.length := by rw [wf.len]; exact hb6
          obtain ⟨w1, w2⟩ := ovl_wrote hbl S.pen
          refine viaA11 (fun v H' => v = (ovl S.set S.pen).getD b .non ∧ Same H6 H') (fun Q' fin2 => ?_) ?_
          · refine ⟨_, rfl, Nat.zero_le _, fun e0 ne0 => ?_⟩
            have s7 := sameNew (o := .lst []) (Same.refl H6) ne0
            have he0 : upd H6 e0 (.lst []) e0 = some (.lst []) := upd_same
            generalize upd H6 e0 (.lst []) = H7 at s7 he0 ⊢
            refine ⟨.list ds, .list [], .lst (SqL.of (s7 _ _ hl)) (dpAll_same s7 _ k1), .lst (SqL.of he0) .nil, ?_, by decide +kernel, _, rfl, ?_⟩
            · unfold SeqAt.shaped
              rw [Bool.and_eq_true]
              exact ⟨by simp only [PyData.canLay0]; exact k5, decide_eq_true (by simp only [PyData.depth]; omega)⟩
            rw [eqv_nil]
            rcases hw : (wrote S.pen b).eq_nil_or_concat with h0 | h0
            · have h0' := h0
              rw [h0] at k4
              have : ds = [] := List.eq_nil_of_length_eq_zero (by simpa using k4)
              rw [this]
              refine iteT ?_
              refine ⟨_, rfl, o, .ref Ls, rfl, (by rw [← ov0]; exact DGet.k (k := kS) (s7 _ _ ho6)), _, rfl, Ls, _, b, _, rfl, rfl, SqL.of (s7 _ _ hs6), atI_nat (List.getElem?_eq_getElem hbl), ?_⟩
              refine fin2 _ _ ⟨?_, s7⟩
              rw [w1 h0', List.getD_eq_getElem?_getD, List.getElem?_eq_getElem hbl]
              rfl
            · obtain ⟨xs, v, e⟩ := h0
              rw [List.concat_eq_append] at e
              have ne : ds.isEmpty = false := by
                cases ds with
                | nil => rw [e] at k4; simp at k4
                | cons _ _ => rfl
              rw [ne]
              refine iteF ?_
              refine ⟨_, rfl, _, rfl, DD, _, -1, v, rfl, rfl, SqL.of (s7 _ _ hl), ?_, ?_⟩
              · rw [e]
                unfold atI
                rw [show ixN (xs ++ [v]).length (-1) = some xs.length by
                  unfold ixN
                  rw [List.length_append, List.length_singleton, if_neg (by omega), if_pos (by omega)]
                  congr 1
                  omega]
                simp
              · exact fin2 _ _ ⟨(w2 xs v e).symm, s7⟩
          rintro _ H7 ⟨rfl, s7⟩
          try dsimp only [gName, List.set]
          have s47 := (s5.trans s6).trans s7
          have sd7 := sd6.same s7
          obtain ⟨dv, dv1, dv2⟩ := sd7.vs ((ovl S.set S.pen).getD b .non) (mem_ovl (by
            rw [List.getD_eq_getElem?_getD, List.getElem?_eq_getElem (by rw [ovl_len]; exact hbl)]
            exact List.getElem_mem _))
          refine ⟨_, rfl, o, .bl S.fallen, rfl, (by rw [← ov4]; exact DGet.k (k := kF) (s7 _ _ ho6)), S.fallen, rfl, ?_⟩
          by_cases hf : S.fallen = true
          · rw [hf]
            refine iteT ⟨by show 2 ≤ sizeLine; decide, fun t nt => ?_⟩
            have s8 := sameNew (o := .tup [.str "Stopped", .int 0]) (Same.refl H7) nt
            have ht : upd H7 t (.tup [.str "Stopped", .int 0]) t = some (.tup [.str "Stopped", .int 0]) := upd_same
            generalize upd H7 t (.tup [.str "Stopped", .int 0]) = H8 at s8 ht ⊢
            try dsimp only [gName, List.set]
            exact rest H8 _ _ _ _ (s47.trans s8) (tup ht) (by simp [few, fews]) (by simp [PyData.depth, PyData.depthAll]) (by simp [noL, noLs]) (fun z => absurd ⟨c0, c1⟩ z) (fun _ _ => rfl) (fun _ z => absurd hf (by rw [z]; decide))
          · rw [show S.fallen = false by simpa using hf]
            refine iteF ⟨_, rfl, ?_⟩
            try dsimp only [gName, List.set]
            exact rest H7 _ _ _ dv s47 dv1 dv2.fw (Nat.le_trans dv2.dp (by decide)) dv2.no (fun z => absurd ⟨c0, c1⟩ z) (fun _ z => absurd z hf) (fun _ _ => by rw [Int.toNat_natCast])
        · rw [decide_eq_false c1]
          exact iteF (bad fun z => c1 z.2)
      · rw [decide_eq_false c0]
        exact iteF ⟨_, rfl, iteF (bad fun z => c0 z.1)⟩
    rintro _ H6 ⟨v9, v10, vd, rd, rfl, s6, hvd, fw, dp40, nord, r1, r2, r3⟩
    try dsimp only [gName, List.set]
    have dk6 := dk4.same s6
    have b6 := b4.same s6
    have tI6 := tI4.ext s6
    refine ⟨tI6, fun fL HA eN xP tS isL hfN => ?_⟩
    intro Gp ca
    have fA : FrF [pI] H6 HA := fun b u e n => xP b u e (by simpa using n)
    have kA := tabS_kt tI6 fA
    have npF : ∀ b ∈ F, b ∉ [pI] := fun b hb z => tabS_ne tI6 (dk6.chg b hb) (List.mem_singleton.mp z)
    have dkA := dk6.fr fA kA npF
    have bA := box_c b6 fA (fun z => tabS_ne tI6 (b6.chg B (by simp)) (List.mem_singleton.mp z)) (fun z => tabS_ne tI6 (b6.chg L (by simp)) (List.mem_singleton.mp z))
    have hvdA := dp_kt kA _ nord hvd
    obtain ⟨R, rG, act⟩ := lam_act (k := 4) ca (LamX.lamS_by (sc := defScope s__law_is) (by decide +kernel)) (isL.up ca) (fun _ _ _ _ _ => rfl) (fun A outer s H E c' hr' => pe_m mR hr' (by decide) (passes_call (takes_of rfl rfl rfl rfl) fun _ _ _ _ h => h) (pv 1) (pa_cons (pv 7) pa_nil))
    refine ⟨fL, R, _, rfl, act, rG, fun E' hE => ?_⟩
    rw [off_up ca]
    have fin : ∀ (HX : Hp) (r : V), Same HA HX → Dp K HX r rd → (∀ (r2 v2 : V), r2 = r → v2 = vd → spAlike K 40 [r2, v2] HX Q E0) := fun HX r sX hr r2 v2 e1 e2 => by
      rw [e1, e2]
      refine ⟨r, vd, rd, rfl, hr, dp_same sX _ hvdA, fw, dp40, ?_⟩
      have f0X : FrF [B, L, pI] H HX := ((fB.mono fun b h => by
        rcases List.mem_cons.mp h with rfl | h
        · simp
        · simp [List.mem_singleton.mp h]).t (.of s6)).t ((fA.mono fun b h => by simp [List.mem_singleton.mp h]).t (.of sX))
      exact kk HX (bA.same sX) f0X (tS.ext sX)
    obtain ⟨dx, Ac, An, Au, Ap, ts, dp, eF, dd⟩ := id dkA
    refine ⟨_, rfl, x, dx, _, rfl, dd.x, fd_no (by decide +kernel) (by decide +kernel) (by decide +kernel) (by decide +kernel) (by decide +kernel) (by decide +kernel), ?_⟩
    refine ⟨_, rfl, x, F, S, n, i, rfl, dkA, wf, fun h1 lo => ?_, fun h1 h2 lo => ?_, fun h1 h2 lo => ?_⟩
    · have := r1 h1
      subst this
      exact hE _ _ _ (err_D eB rfl ca lo fun t H' s' ht => ⟨_, rfl, fin _ _ s' (tup ht) _ _ rfl rfl⟩)
    · have := r2 h1 h2
      subst this
      exact hE _ _ _ (err_D eS rfl ca lo fun t H' s' ht => ⟨_, rfl, fin _ _ s' (tup ht) _ _ rfl rfl⟩)
    · have e := r3 h1 h2
      rw [← e]
      have q := fin HA vd (Same.refl _) hvdA _ _ rfl rfl
      rw [← off_back (G := Gp) lo] at q
      exact ⟨_, rfl, q⟩
end
end RS
set_option Elab.async false
set_option maxRecDepth 100000
set_option maxHeartbeats 8000000
set_option pp.maxSteps 400
namespace RS
open PySem PySem.Spec PyProof.Rows L2 GX LM
abbrev N7D : List Str := ["_law_script", "_law_box", "_law_sides", "_law_turn", "_law_disk", "_law_own", "_law_way", "_law_good", "_law_due", "_law_block", "_law_what_here"]
abbrev qL11 : Str := (envOfC "law" (defScope sLaw) 0 0 (.ref 0)).qual ++ "<lambda>"
structure Parts11 (P : Program) (w : World) (K : PySem.W.Frag) (mg : Str → Option Value) (base : Heap) (C CS SE pW pI : Addr) (C15 : Nat → Addr) : Prop where
  begun : Cal P w K mg base CX0 1 "_law_begun" ["_law_script"] (spBegun K)
  take : Cal P w K mg base CX0 1 "_law_take" ["_law_box", "_law_many"] spTake
  made : Cal P w K mg base CX0 1 "_law_made" [] spMade
  write : Cal P w K mg base CX0 43 "_law_write" ["_law_box", "_law_disk", "_law_own"] (spLWr K C pW)
  arms : Cal P w K mg base CX0 3 "_law_arms" ["_law_box", "_law_disk", "_law_own"] (spLAr K C)
  is_ : Cal P w K mg base CX0 43 "_law_is" ["_law_box", "_law_disk", "_law_own"] (spLIs K C pI)
  count : Cal P w K mg base CX0 2 "_law_count" ["_law_own"] spCount
  alike : Cal P w K mg base CX0 42 "_law_alike" ["_law_found", "_law_due"] (spAlike K 40)
  told : Cal P w K mg base CX0 6 "_law_told" ["_law_work"] (spTold P w K mg base SE C15 5)
  dinit : MakC P w K mg base CX0 1 "Disk" C ["self"] (spDkI C)
  settle : MetC P w K mg base (L2.CX P w) 4 C "settle" ["self"] (spDkT C CS)
/-- what changes: none a tuple, none a code -/
def ChgT (H : Hp) (b : Addr) : Prop := Chg H b ∨ ∃ ps, H b = some (.tbl ps)
theorem FrF.ktt {F : List Addr} {H H' : Hp} (f : FrF F H H') (n : ∀ b ∈ F, ChgT H b) : KpT H H' := f.kt fun b h => by
  rcases n b h with ⟨u, h1, h2, _⟩ | ⟨ps, h1⟩
  · exact ⟨u, h1, h2⟩
  · exact ⟨_, h1, fun z => by rcases z with ⟨_, z⟩ | ⟨_, _, z⟩ <;> cases z⟩
theorem tabS_t {F : List Addr} {H H' : Hp} {P : Addr} {q : Str} (t : LamX.TabS H P q) (f : FrF F H H') (nP : P ∉ F) (n : ∀ b ∈ F, ChgT H b) : LamX.TabS H' P q := by
  obtain ⟨ps, h1, h2, h3⟩ := t
  refine ⟨ps, f _ _ h1 nP, h2, fun pos cv hc => ?_⟩
  obtain ⟨c, e1, e2⟩ := h3 pos cv hc
  refine ⟨c, e1, f _ _ e2 fun z => ?_⟩
  rcases n _ z with ⟨u, k1, _, _, k2⟩ | ⟨ps', k1⟩
  · rw [e2] at k1
    exact k2 _ _ (Option.some.inj k1).symm
  · rw [e2] at k1
    exact LamX.codeO_ne ps' (Option.some.inj k1)
theorem tabS_chg {H : Hp} {P : Addr} {q : Str} (t : LamX.TabS H P q) : ChgT H P := .inr ⟨_, t.choose_spec.1⟩
/-- what the law holds while it goes on -/
structure W11 (K : PySem.W.Frag) (C B L Ss T0 T1 pW pI pZ x0 o0 x1 o1 : Addr) (A0 A1 : List Addr) (S0 S1 : Dk) (n : Nat) (H : Hp) : Prop where
  box : BoxAt H B L
  tw : LamX.TabS H pW qW11
  ti : LamX.TabS H pI qI11
  tz : LamX.TabS H pZ qL11
  ss : H Ss = some (.lst [.ref T0, .ref T1])
  t0 : H T0 = some (.tup [.ref x0, .ref o0])
  t1 : H T1 = some (.tup [.ref x1, .ref o1])
  d0 : Sd K C H x0 o0 A0 S0 n
  d1 : Sd K C H x1 o1 A1 S1 n
  dj : ∀ b ∈ A0, b ∉ A1
  n0 : ∀ b ∈ [B, L, Ss], b ∉ A0
  n1 : ∀ b ∈ [B, L, Ss], b ∉ A1
  ns : Ss ≠ B ∧ Ss ≠ L
theorem Sd.mono {K : PySem.W.Frag} {C : Addr} {H : Hp} {x o : Addr} {A : List Addr} {S : Dk} {n m : Nat} (d : Sd K C H x o A S n) (h : n ≤ m) : Sd K C H x o A S m := ⟨d.ex, d.wf.mono h, d.vs⟩
section
variable {K : PySem.W.Frag} {C B L Ss T0 T1 pW pI pZ x0 o0 x1 o1 : Addr} {A0 A1 : List Addr} {S0 S1 : Dk} {n : Nat} {H : Hp}
/-- one side goes on, the other stays -/
theorem other11 {H' : Hp} {A A' O : List Addr} {p : Addr} (hb : BoxAt H B L) (cA : ∀ b ∈ A, Chg H b) (cO : ∀ b ∈ O, Chg H b) (hp : ∃ ps, H p = some (.tbl ps)) (hs : ∃ xs, H Ss = some (.lst xs)) (f : FrF (B :: L :: p :: A) H H') (nw : News H A A') (dO : ∀ b ∈ O, b ∉ A) (nO : ∀ b ∈ [B, L, Ss], b ∉ O) (nA : ∀ b ∈ [B, L, Ss], b ∉ A) (ns : Ss ≠ B ∧ Ss ≠ L) :
    KpT H H' ∧ (∀ b ∈ O, b ∉ B :: L :: p :: A) ∧ (∀ b ∈ O, b ∉ A') ∧ (∀ b ∈ [B, L, Ss], b ∉ A') ∧ (∀ b ∈ B :: L :: p :: A, ChgT H b) ∧ (∀ u, H Ss = some u → H' Ss = some u) := by
  obtain ⟨ps, hp⟩ := hp
  obtain ⟨xs, hs⟩ := hs
  have cz : ∀ b ∈ B :: L :: p :: A, ChgT H b := fun b h => by
    simp only [List.mem_cons] at h
    rcases h with h | h | h | h
    · rw [h]; exact .inl (hb.chg B (by simp))
    · rw [h]; exact .inl (hb.chg L (by simp))
    · rw [h]; exact .inr ⟨ps, hp⟩
    · exact .inl (cA b h)
  have pc : ∀ b, Chg H b → b ≠ p := fun b ⟨u, k1, _, k2, _⟩ z => by
    rw [z, hp] at k1
    exact k2 ps (Option.some.inj k1).symm
  refine ⟨f.ktt cz, fun b h z => ?_, disj2 dO nw fun b h => (cO b h).has, disj2 nA nw fun b h => ?_, cz, fun u hu => f _ _ hu fun z => ?_⟩
  · simp only [List.mem_cons] at z
    rcases z with z | z | z | z
    · exact nO B (by simp) (z ▸ h)
    · exact nO L (by simp) (z ▸ h)
    · exact pc b (cO b h) z
    · exact dO b h z
  · simp only [List.mem_cons, List.not_mem_nil, or_false] at h
    rcases h with h | h | h
    · rw [h]; exact (hb.chg B (by simp)).has
    · rw [h]; exact (hb.chg L (by simp)).has
    · rw [h]; exact ⟨_, hs⟩
  · simp only [List.mem_cons] at z
    rcases z with z | z | z | z
    · exact ns.1 z
    · exact ns.2 z
    · exact pc Ss (chg_lst hs) z
    · exact nA Ss (by simp) z
theorem W11.step0 (g : W11 K C B L Ss T0 T1 pW pI pZ x0 o0 x1 o1 A0 A1 S0 S1 n H) {H' : Hp} {A' : List Addr} {S' : Dk} {p : Addr} {m : Nat} (hm : n ≤ m) (hp : ∃ ps, H p = some (.tbl ps)) (f : FrF (B :: L :: p :: A0) H H') (nw : News H A0 A') (b : BoxAt H' B L) (d : Sd K C H' x0 o0 A' S' m)
    (tw : p = pW → LamX.TabS H' pW qW11) (ti : p = pI → LamX.TabS H' pI qI11) (tz : p = pZ → LamX.TabS H' pZ qL11) : W11 K C B L Ss T0 T1 pW pI pZ x0 o0 x1 o1 A' A1 S' S1 m H' := by
  obtain ⟨k, q1, q2, q3, cz, hS⟩ := other11 g.box g.d0.chg g.d1.chg hp ⟨_, g.ss⟩ f nw (disj_symm g.dj) g.n1 g.n0 g.ns
  have tt : ∀ {P : Addr} {q : Str}, LamX.TabS H P q → (p = P → LamX.TabS H' P q) → LamX.TabS H' P q := fun {P q} t h => by
    by_cases e : p = P
    · exact h e
    · refine tabS_t t f (fun z => ?_) cz
      simp only [List.mem_cons] at z
      rcases z with z | z | z | z
      · exact tabS_ne t (g.box.chg B (by simp)) z.symm
      · exact tabS_ne t (g.box.chg L (by simp)) z.symm
      · exact e z.symm
      · exact tabS_ne t (g.d0.chg _ z) rfl
  exact ⟨b, tt g.tw tw, tt g.ti ti, tt g.tz tz, hS _ g.ss, k _ _ g.t0 (.inl ⟨_, rfl⟩), k _ _ g.t1 (.inl ⟨_, rfl⟩), d, (g.d1.fr f k q1).mono hm, disj_symm q2, q3, g.n1, g.ns⟩
theorem W11.step1 (g : W11 K C B L Ss T0 T1 pW pI pZ x0 o0 x1 o1 A0 A1 S0 S1 n H) {H' : Hp} {A' : List Addr} {S' : Dk} {p : Addr} {m : Nat} (hm : n ≤ m) (hp : ∃ ps, H p = some (.tbl ps)) (f : FrF (B :: L :: p :: A1) H H') (nw : News H A1 A') (b : BoxAt H' B L) (d : Sd K C H' x1 o1 A' S' m)
    (tw : p = pW → LamX.TabS H' pW qW11) (ti : p = pI → LamX.TabS H' pI qI11) (tz : p = pZ → LamX.TabS H' pZ qL11) : W11 K C B L Ss T0 T1 pW pI pZ x0 o0 x1 o1 A0 A' S0 S' m H' := by
  obtain ⟨k, q1, q2, q3, cz, hS⟩ := other11 g.box g.d1.chg g.d0.chg hp ⟨_, g.ss⟩ f nw g.dj g.n0 g.n1 g.ns
  have tt : ∀ {P : Addr} {q : Str}, LamX.TabS H P q → (p = P → LamX.TabS H' P q) → LamX.TabS H' P q := fun {P q} t h => by
    by_cases e : p = P
    · exact h e
    · refine tabS_t t f (fun z => ?_) cz
      simp only [List.mem_cons] at z
      rcases z with z | z | z | z
      · exact tabS_ne t (g.box.chg B (by simp)) z.symm
      · exact tabS_ne t (g.box.chg L (by simp)) z.symm
      · exact e z.symm
      · exact tabS_ne t (g.d1.chg _ z) rfl
  exact ⟨b, tt g.tw tw, tt g.ti ti, tt g.tz tz, hS _ g.ss, k _ _ g.t0 (.inl ⟨_, rfl⟩), k _ _ g.t1 (.inl ⟨_, rfl⟩), (g.d0.fr f k q1).mono hm, d, q2, g.n0, q3, g.ns⟩
theorem tab_tbl {P : Addr} {q : Str} (t : LamX.TabS H P q) : ∃ ps, H P = some (.tbl ps) := ⟨_, t.choose_spec.1⟩
theorem W11.is (g : W11 K C B L Ss T0 T1 pW pI pZ x0 o0 x1 o1 A0 A1 S0 S1 n H) (nW : pI ≠ pW) (nZ : pI ≠ pZ) {H' : Hp} (b : BoxAt H' B L) (f : FrF [B, L, pI] H H') (t : LamX.TabS H' pI qI11) : W11 K C B L Ss T0 T1 pW pI pZ x0 o0 x1 o1 A0 A1 S0 S1 n H' := by
  have cz : ∀ b ∈ [B, L, pI], ChgT H b := fun b h => by
    simp only [List.mem_cons, List.not_mem_nil, or_false] at h
    rcases h with h | h | h
    · rw [h]; exact .inl (g.box.chg B (by simp))
    · rw [h]; exact .inl (g.box.chg L (by simp))
    · rw [h]; exact tabS_chg g.ti
  have d := g.d0.fr f (f.ktt cz) fun b h z => by
    simp only [List.mem_cons, List.not_mem_nil, or_false] at z
    rcases z with z | z | z
    · exact g.n0 B (by simp) (z ▸ h)
    · exact g.n0 L (by simp) (z ▸ h)
    · exact tabS_ne g.ti (g.d0.chg b h) z
  exact g.step0 (p := pI) (Nat.le_refl _) (tab_tbl g.ti) (f.mono fun b h => by
    simp only [List.mem_cons, List.not_mem_nil, or_false] at h ⊢
    rcases h with h | h | h
    · exact .inl h
    · exact .inr (.inl h)
    · exact .inr (.inr (.inl h))) .refl b d (fun e => absurd e nW) (fun _ => t) (fun e => absurd e nZ)
theorem W11.x (g : W11 K C B L Ss T0 T1 pW pI pZ x0 o0 x1 o1 A0 A1 S0 S1 n H) (nW : pI ≠ pW) (nZ : pI ≠ pZ) {H' : Hp} (s : SameX B L H H') (b : BoxAt H' B L) : W11 K C B L Ss T0 T1 pW pI pZ x0 o0 x1 o1 A0 A1 S0 S1 n H' :=
  g.is nW nZ b ((frx s).mono fun b h => by
    rcases List.mem_cons.mp h with rfl | h
    · simp
    · simp [List.mem_singleton.mp h]) (tabS_c g.ti (frx s) g.box.chg)
theorem W11.same (g : W11 K C B L Ss T0 T1 pW pI pZ x0 o0 x1 o1 A0 A1 S0 S1 n H) (nW : pI ≠ pW) (nZ : pI ≠ pZ) {H' : Hp} (s : Same H H') : W11 K C B L Ss T0 T1 pW pI pZ x0 o0 x1 o1 A0 A1 S0 S1 n H' := g.x nW nZ (.of s) (g.box.same s)
theorem made_same {H H' : Hp} {x dx : Addr} {ob1 ob2 : HO} {F : List Addr} (nx : H x = none) (ndx : H dx = none) (fr : FrF [x] (upd (upd H dx ob1) x ob2) H') (fresh : ∀ b ∈ F, b = x ∨ upd (upd H dx ob1) x ob2 b = none) : Same H H' ∧ ∀ b ∈ F, H b = none := by
  refine ⟨fun b u e => fr b u ?_ ?_, fun b h => ?_⟩
  · rw [upd_ne (ne_of_none e nx), upd_ne (ne_of_none e ndx)]
    exact e
  · simp [ne_of_none e nx]
  · rcases fresh b h with e | e
    · rw [e]; exact nx
    · exact upd_no (upd_no e)
/-- what is due of a settle -/
inductive StOut (S : Dk) : Dk → PyData → Prop
  | stop (c : S.count.1 = false) : StOut S S.count.2 (.tuple [.str "Stopped", .int 0])
  | good (c : S.count.1 = true) : StOut S S.count.2.settle .none
theorem StOut.wf {S S' : Dk} {rd : PyData} {n : Nat} (o : StOut S S' rd) (w : Wf n S) : Wf n S' := by
  cases o with
  | stop c => exact w.count
  | good c => exact w.count.settle
theorem StOut.ind {S S' : Dk} {rd : PyData} {u : V} (o : StOut S S' rd) (h : InD S' u) : InD S u := by
  cases o with
  | stop c => exact h.count
  | good c => exact h.settle.count
theorem StOut.few {S S' : Dk} {rd : PyData} (o : StOut S S' rd) : few rd ∧ rd.depth ≤ 40 ∧ noL rd = true := by
  cases o <;> exact ⟨by simp [RS.few, fews], by simp [PyData.depth, PyData.depthAll], by simp [noL, noLs]⟩
/-- the law settles its own table -/
theorem ovl_take {l : List V} {p : List (Nat × V)} {i : Nat} {q : Nat × V} (h : p[i]? = some q) : ovl l (p.take (i + 1)) = (ovl l (p.take i)).set q.1 q.2 := by
  rw [List.take_add_one, h]
  exact ovl_snoc
end
theorem pe_c0D {X : Cx} {CX : CXT} {k j : Nat} {x : Str} {sp : Sp} {E : XK} {p pos : Pos} (c : Cal X.prog X.w X.K X.mg X.base CX k x [] sp) (hr : Room j X.A) (hk : k ≤ j) (hg : Gl X x) (hx : Passes CX X E) (hdb : (x == ("__debug__" : Str)) = false := by decide) :
    PE X (.Call (.Name x p) [] [] pos) (tCall sp [] E tNil) := by
  obtain ⟨f, fd, F, hm, kp, hb⟩ := c.ex
  exact pe_call0 F (hr.mono hk) hg hm kp hb .nil hx hdb
def spLaw11 (K : PySem.W.Frag) (pW pI pZ : Addr) : Sp := fun vs H Q _ => ∃ (a : Addr) (ns : List Int), vs = [.ref a] ∧ SqL K H a (ns.map V.int) ∧ LamX.TabS H pW qW11 ∧ LamX.TabS H pI qI11 ∧ LamX.TabS H pZ qL11 ∧ ∀ H', Q (.bl true) H'
section
variable {P : Program} {w : World} {K : PySem.W.Frag} {mg : Str → Option Value} {base : Heap}
theorem scLaw11 : FnScope N7D ["_law_script"] (defScope sLaw) := ⟨rfl, rfl, rfl, by decide +kernel, rfl, by decide +kernel, by decide +kernel⟩
theorem law11_fn {f c C CS SE pW pI pZ : Addr} {C15 : Nat → Addr} {oc kV doc pm ct : Value} {od an : Option Addr} {osl : Array (Option Value)} (lk : K.lookup f = some ⟨oc, od, .func (PySem.W.fnOf "law" "law" (defArgs sLaw) (defBody sLaw) (defScope sLaw) .none kV doc pm an (.ref c) ct), osl⟩) (hcd : PySem.W.codeIn K (.ref c) "law" = true)
    (T : Txt K mg) (TB : LamX.TabB base mg c pZ) (eS : ErrD K SE C15 CS 10) (nIW : pI ≠ pW) (nIZ : pI ≠ pZ) (nZW : pZ ≠ pW) (Cs : Parts11 P w K mg base C CS SE pW pI C15) : FnOk P w K mg base CX0 44 f (PySem.W.fnOf "law" "law" (defArgs sLaw) (defBody sLaw) (defScope sLaw) .none kV doc pm an (.ref c) ct) ["_law_script"] (spLaw11 K pW pI pZ) := by
  have sc := scLaw11
  refine fn_of0 lk hcd sc (fun vs H Q E h => ?_) (fun f A outer s H vs Q E hr h => ?_)
  · obtain ⟨a, ns, rfl, _⟩ := h
    rfl
  · obtain ⟨a, ns, rfl, hS, tW, tI, tZ, k⟩ := h
    have hu := hr.units
    refine ⟨_, (pss_cons (ps_set (i := 1) sc.nd rfl (Or.inl rfl) (pe_c Cs.begun hr (by decide) (by rfl) pass0 (pa_cons (pv 0) pa_nil))) (pss_cons (ps_set (i := 2) sc.nd rfl (Or.inl rfl) (pe_lst (pa_cons (pe_tup (pa_cons (pe_mk0 Cs.dinit hr (by decide) (by rfl) pass0) (pa_cons (pe_c0D Cs.made hr (by decide) (by rfl) pass0) pa_nil))) (pa_cons (pe_tup (pa_cons (pe_mk0 Cs.dinit hr (by decide) (by rfl) pass0) (pa_cons (pe_c0D Cs.made hr (by decide) (by rfl) pass0) pa_nil))) pa_nil)))) (pss_cons (ps_for PassesOwn.never rfl (pi_range1 (by rfl) T.range (pa_cons (pe_c Cs.take hr (by decide) (by rfl) pass0 (pa_cons (pv 1) (pa_cons pe_int pa_nil))) pa_nil)) (pg_name (i := 3) sc.nd rfl (Or.inl rfl)) (pss_cons (ps_asg (pe_ix ix_list (pv 2) (pe_op op_fdiv (pe_c Cs.take hr (by decide) (by rfl) pass0 (pa_cons (pv 1) (pa_cons pe_int pa_nil))) pe_int) (fun _ _ => rfl)) (pg_tup (by rfl) (pgs_cons (pg_name (i := 4) sc.nd rfl (Or.inr rfl)) (pgs_cons (pg_name (i := 5) sc.nd rfl (Or.inl rfl)) pgs_nil)))) (pss_cons (ps_set (i := 6) sc.nd rfl (Or.inl rfl) (pe_c Cs.take hr (by decide) (by rfl) pass0 (pa_cons (pv 1) (pa_cons pe_int pa_nil)))) (pss_cons (ps_if (pt_cmpR op_lt (pv 6) pe_int (nomark _)) (pss_one (ps_set (i := 7) sc.nd rfl (Or.inl rfl) (pe_c Cs.write hr (by decide) (by rfl) pass0 (pa_cons (pv 1) (pa_cons (pv 4) (pa_cons (pv 5) pa_nil)))))) (pss_one (ps_if (pt_cmpR op_lt (pv 6) pe_int (nomark _)) (pss_cons (ps_set (i := 8) sc.nd rfl (Or.inl rfl) (pe_ifExp (pt_val (pe_c Cs.count hr (by decide) (by rfl) pass0 (pa_cons (pv 5) pa_nil))) pe_non (pe_tup (pa_cons pe_str (pa_cons pe_int pa_nil))))) (pss_cons (ps_if (pt_cmpR op_isN (pv 8) pe_non (nomark _)) (pss_cons (ps_for PassesOwn.never rfl (pi_list (pe_dget (le64D hu) (pv 5) pe_str (by intro _ _; rfl))) (pg_tup (by rfl) (pgs_cons (pg_name (i := 9) sc.nd rfl (Or.inl rfl)) (pgs_cons (pg_name (i := 10) sc.nd rfl (Or.inl rfl)) pgs_nil))) (pss_one (ps_asg (pv 10) (pg_sub (pe_dget (le64D hu) (pv 5) pe_str (by intro _ _; rfl)) (pv 9) set_list)))) (pss_one (ps_dput (le64D hu) (pv 5) pe_str (pe_lst pa_nil) (by rfl)))) pss_nil) (pss_one (ps_set (i := 7) sc.nd rfl (Or.inl rfl) (pe_c Cs.alike hr (by decide) (by rfl) pass0 (pa_cons (pe_cP Cs.told hr (by decide) (fun _ => rfl) (by rfl) (pa_cons (pe_lamP TB rfl (LamX.lamS_by (sc := defScope sLaw) (by decide +kernel)) (by rfl)) pa_nil)) (pa_cons (pv 8) pa_nil))))))) (pss_one (ps_set (i := 7) sc.nd rfl (Or.inl rfl) (pe_c Cs.arms hr (by decide) (by rfl) pass0 (pa_cons (pv 1) (pa_cons (pv 4) (pa_cons (pv 5) pa_nil))))))))) (pss_one (ps_if ((pw_or (pt_not (pt_truth (pv 7) (by intro _; rfl))) (pw_or (pt_not (pt_val (pe_c Cs.is_ hr (by decide) (by rfl) pass0 (pa_cons (pv 1) (pa_cons (pe_ix ix_tup (pe_ix ix_list (pv 2) pe_int (fun _ _ => rfl)) pe_int (fun _ _ => rfl)) (pa_cons (pe_ix ix_tup (pe_ix ix_list (pv 2) pe_int (fun _ _ => rfl)) pe_int (fun _ _ => rfl)) pa_nil)))))) (pw_or1 (pt_not (pt_val (pe_c Cs.is_ hr (by decide) (by rfl) pass0 (pa_cons (pv 1) (pa_cons (pe_ix ix_tup (pe_ix ix_list (pv 2) pe_int (fun _ _ => rfl)) pe_int (fun _ _ => rfl)) (pa_cons (pe_ix ix_tup (pe_ix ix_list (pv 2) pe_int (fun _ _ => rfl)) pe_int (fun _ _ => rfl)) pa_nil))))))))).pt) (pss_one (ps_ret pe_bl)) pss_nil)))))) (pss_one (ps_ret pe_bl))))), ?_⟩
    refine ⟨_, rfl, a, ns, rfl, hS, fun H1 B L s1 _ _ b1 => ?_⟩
    try dsimp only [gName, List.set]
    refine fun x0 y0 nx0 ny0 nd0 => ⟨x0, y0, rfl, upd_same, fun H2 F0 dk0 fr0 f0 => ⟨rfl, ?_⟩⟩
    obtain ⟨s2, fF0⟩ := made_same nx0 ny0 f0 fr0
    clear f0 fr0
    refine ⟨rfl, fun H3 o0 G0 s3 ow0 fG0 => ⟨by show 2 ≤ sizeLine; decide, fun T0 nT0 => ?_⟩⟩
    have pF0 : ∀ b ∈ F0, b ∉ G0 := fun b h z => by
      obtain ⟨u, hu⟩ := (dk0.chg b h).has
      rw [fG0 b z] at hu; cases hu
    have dk03 := dk0.same s3
    have s4 := sameNew (o := .tup [.ref x0, .ref o0]) (Same.refl H3) nT0
    have hT0 : upd H3 T0 (.tup [.ref x0, .ref o0]) T0 = some (.tup [.ref x0, .ref o0]) := upd_same
    generalize upd H3 T0 (.tup [.ref x0, .ref o0]) = H4 at s4 hT0 ⊢
    have dk04 := dk03.same s4
    have ow04 := ow0.same s4
    refine fun x1 y1 nx1 ny1 nd1 => ⟨x1, y1, rfl, upd_same, fun H5 F1 dk1 fr1 f1 => ⟨rfl, ?_⟩⟩
    obtain ⟨s5, fF1⟩ := made_same nx1 ny1 f1 fr1
    clear f1 fr1
    refine ⟨rfl, fun H6 o1 G1 s6 ow1 fG1 => ⟨by show 2 ≤ sizeLine; decide, fun T1 nT1 => ?_⟩⟩
    have pF1 : ∀ b ∈ F1, b ∉ G1 := fun b h z => by
      obtain ⟨u, hu⟩ := (dk1.chg b h).has
      rw [fG1 b z] at hu; cases hu
    have s7 := sameNew (o := .tup [.ref x1, .ref o1]) (Same.refl H6) nT1
    have hT1 : upd H6 T1 (.tup [.ref x1, .ref o1]) T1 = some (.tup [.ref x1, .ref o1]) := upd_same
    generalize upd H6 T1 (.tup [.ref x1, .ref o1]) = H7 at s7 hT1 ⊢
    refine ⟨by show 2 ≤ sizeLine; decide, fun Ss nSs => ?_⟩
    have s8 := sameNew (o := .lst [.ref T0, .ref T1]) (Same.refl H7) nSs
    have hSs : upd H7 Ss (.lst [.ref T0, .ref T1]) Ss = some (.lst [.ref T0, .ref T1]) := upd_same
    generalize upd H7 Ss (.lst [.ref T0, .ref T1]) = H8 at s8 hSs ⊢
    try dsimp only [gName, List.set]
    have s47 : Same H4 H7 := (s5.trans s6).trans s7
    have s48 := s47.trans s8
    have s18 : Same H1 H8 := ((s2.trans s3).trans s4).trans s48
    have b7 : BoxAt H7 B L := b1.same (((s2.trans s3).trans s4).trans s47)
    have nSB := b7.nb nSs
    have vn : ∀ v, InD .new v → Vk K H8 v := fun v h => by
      rw [h.new]
      exact ⟨.none, .non, lt_non.mono (by decide) (by decide)⟩
    have pres : ∀ {HX : Hp} {A : List Addr}, (∀ b ∈ A, HX b = none) → ∀ b, Chg HX b → b ∉ A := fun h b c z => by
      obtain ⟨u, hu⟩ := c.has
      rw [h b z] at hu; cases hu
    have fA0 : ∀ b ∈ F0 ++ G0, H1 b = none := fun b h => by
      rcases List.mem_append.mp h with h | h
      · exact fF0 b h
      · exact s2.free (fG0 b h)
    have fA1 : ∀ b ∈ F1 ++ G1, H4 b = none := fun b h => by
      rcases List.mem_append.mp h with h | h
      · exact fF1 b h
      · exact s5.free (fG1 b h)
    have c04 : ∀ b ∈ F0 ++ G0, Chg H4 b := fun b h => by
      rcases List.mem_append.mp h with h | h
      · exact dk04.chg b h
      · exact ow04.chg b h
    have c1 : ∀ b ∈ F1 ++ G1, Chg H7 b := fun b h => by
      rcases List.mem_append.mp h with h | h
      · exact ((dk1.same s6).same s7).chg b h
      · exact (ow1.same s7).chg b h
    have c07 : ∀ b ∈ F0 ++ G0, Chg H7 b := fun b h => by
      rcases List.mem_append.mp h with h | h
      · exact (dk04.same s47).chg b h
      · exact (ow04.same s47).chg b h
    have s14 : Same H1 H4 := (s2.trans s3).trans s4
    have g0 : W11 K C B L Ss T0 T1 pW pI pZ x0 o0 x1 o1 (F0 ++ G0) (F1 ++ G1) .new .new 0 H8 := by
      refine ⟨b7.same s8, (tW.ext s1).ext s18, (tI.ext s1).ext s18, (tZ.ext s1).ext s18, hSs, s48 _ _ hT0, s8 _ _ hT1, ⟨⟨F0, G0, rfl, dk04.same s48, ow04.same s48, pF0⟩, .new, vn⟩, ⟨⟨F1, G1, rfl, (((dk1.same s6).same s7).same s8), (ow1.same s7).same s8, pF1⟩, .new, vn⟩, fun b h => pres fA1 b (c04 b h), fun b h => ?_, fun b h => ?_, nSB⟩
      · simp only [List.mem_cons, List.not_mem_nil, or_false] at h
        rcases h with h | h | h
        · rw [h]; exact pres fA0 B (b1.chg B (by simp))
        · rw [h]; exact pres fA0 L (b1.chg L (by simp))
        · rw [h]; exact fun z => by
            obtain ⟨u, hu⟩ := (c07 Ss z).has
            rw [hu] at nSs; cases nSs
      · simp only [List.mem_cons, List.not_mem_nil, or_false] at h
        rcases h with h | h | h
        · rw [h]; exact pres fA1 B ((b1.same s14).chg B (by simp))
        · rw [h]; exact pres fA1 L ((b1.same s14).chg L (by simp))
        · rw [h]; exact fun z => by
            obtain ⟨u, hu⟩ := (c1 Ss z).has
            rw [hu] at nSs; cases nSs
    refine ⟨_, rfl, B, L, 81, rfl, g0.box, by decide, by decide, fun H9 w9 s9 b9 w90 w91 => ⟨_, rfl, by omega, by omega, ?_⟩⟩
    have g9 := g0.x nIW nIZ s9 b9
    have nw : w9.toNat ≤ 80 := by omega
    clear g0 c07 c1 c04 fA1 fA0 vn s18 s48 s47 s14 b7 pF1 pF0 dk1 ow1 dk0 dk03 dk04 ow0 ow04 hT0 hT1 hSs
    refine for_range (fun i σ H' => ∃ (v3 v4 v5 v6 v7 v8 v9 v10 : Option V) (A0 A1 : List Addr) (S0 S1 : Dk), σ = [some (.ref a), some (.ref B), some (.ref Ss), v3, v4, v5, v6, v7, v8, v9, v10] ∧ W11 K C B L Ss T0 T1 pW pI pZ x0 o0 x1 o1 A0 A1 S0 S1 i H')
      ⟨none, none, none, none, none, none, none, none, _, _, _, _, rfl, g9⟩ ?_ fun σ H' _ => k _
    rintro i σ HA hi ⟨v3, v4, v5, v6, v7, v8, v9, v10, A0, A1, S0, S1, rfl, gA⟩
    try dsimp only [gName, List.set]
    refine ⟨_, rfl, _, rfl, B, L, 4, rfl, gA.box, by decide, by decide, fun HB q sB bB q0 q1 => ?_⟩
    have gB := gA.x nIW nIZ sB bB
    obtain ⟨T, x, o, A, S, hT, pick⟩ : ∃ (T xj oj : Addr) (A : List Addr) (S : Dk), atI [V.ref T0, .ref T1] (q / 3) = some (.ref T) ∧ ∀ HX, W11 K C B L Ss T0 T1 pW pI pZ x0 o0 x1 o1 A0 A1 S0 S1 i HX → HX T = some (.tup [.ref xj, .ref oj]) ∧ Sd K C HX xj oj A S i ∧ (∀ b ∈ [B, L, Ss], b ∉ A) ∧
        ∀ (H' : Hp) (A' : List Addr) (S' : Dk) (p : Addr), (∃ ps, HX p = some (.tbl ps)) → FrF (B :: L :: p :: A) HX H' → News HX A A' → BoxAt H' B L → Sd K C H' xj oj A' S' (i + 1) → (p = pW → LamX.TabS H' pW qW11) → (p = pI → LamX.TabS H' pI qI11) → (p = pZ → LamX.TabS H' pZ qL11) →
          ∃ A0' A1' S0' S1', W11 K C B L Ss T0 T1 pW pI pZ x0 o0 x1 o1 A0' A1' S0' S1' (i + 1) H' := by
      rcases (by omega : q / 3 = 0 ∨ q / 3 = 1) with e | e <;> rw [e]
      · exact ⟨T0, x0, o0, A0, S0, rfl, fun HX g => ⟨g.t0, g.d0, g.n0, fun H' A' S' p h1 h2 h3 h4 h5 h6 h7 h8 => ⟨_, _, _, _, g.step0 (by omega) h1 h2 h3 h4 h5 h6 h7 h8⟩⟩⟩
      · exact ⟨T1, x1, o1, A1, S1, rfl, fun HX g => ⟨g.t1, g.d1, g.n1, fun H' A' S' p h1 h2 h3 h4 h5 h6 h7 h8 => ⟨_, _, _, _, g.step1 (by omega) h1 h2 h3 h4 h5 h6 h7 h8⟩⟩⟩
    refine ⟨_, _, rfl, rfl, ⟨by decide, by decide⟩, Ss, _, q / 3, _, rfl, rfl, SqL.of gB.ss, hT, T, _, rfl, SqT.of (pick HB gB).1, rfl, _, _, rfl, _, _, rfl, rfl, ?_⟩
    try dsimp only [gName, List.set]
    refine ⟨_, rfl, B, L, 10, rfl, gB.box, by decide, by decide, fun HC way sC bC y0 y1 => ?_⟩
    have gC := gB.x nIW nIZ sC bC
    obtain ⟨_, sd, nA, step⟩ := pick HC gC
    have nB : B ∉ A := nA B (by simp)
    have nL : L ∉ A := nA L (by simp)
    try dsimp only [gName, List.set]
    refine viaS11 (fun σ' H' => ∃ (v8 v9 v10 : Option V) (A0 A1 : List Addr) (S0 S1 : Dk), σ' = [some (.ref a), some (.ref B), some (.ref Ss), some (.int (0 + (i : Nat))), some (.ref x), some (.ref o), some (.int way), some (.bl true), v8, v9, v10] ∧ W11 K C B L Ss T0 T1 pW pI pZ x0 o0 x1 o1 A0 A1 S0 S1 (i + 1) H') (fun nx fin => ?_) ?_
    · refine ⟨_, rfl, _, _, rfl, rfl, _, rfl, ?_⟩
      by_cases c6 : way < 6
      · refine iteT' (decide_eq_true c6) ?_
        refine ⟨_, rfl, _, rfl, _, rfl, B, L, x, o, A, S, i, rfl, gC.box, sd, by omega, nB, nL, gC.tw, fun HD A' S' bD sD fD nD tD => ?_⟩
        obtain ⟨_, _, _, _, g⟩ := step HD A' S' pW (tab_tbl gC.tw) fD nD bD sD (fun _ => tD) (fun e => absurd e.symm nIW) (fun e => absurd e.symm nZW)
        try dsimp only [gName, List.set]
        exact fin _ _ ⟨_, _, _, _, _, _, _, rfl, g⟩
      · refine iteF' (decide_eq_false c6) ?_
        refine ⟨_, rfl, _, _, rfl, rfl, _, rfl, ?_⟩
        by_cases c8 : way < 8
        · refine iteT' (decide_eq_true c8) ?_
          obtain ⟨F, G, rfl, dk, ow, dFG⟩ := sd.ex
          have wf := sd.wf
          have nBF : B ∉ F ∧ L ∉ F ∧ B ∉ G ∧ L ∉ G := ⟨fun z => nB (List.mem_append_left _ z), fun z => nL (List.mem_append_left _ z), fun z => nB (List.mem_append_right _ z), fun z => nL (List.mem_append_right _ z)⟩
          have tup : ∀ {HX : Hp} {t : Addr} {nm : Str}, HX t = some (.tup [.str nm, .int 0]) → Dp K HX (.ref t) (.tuple [.str nm, .int 0]) := fun h => .tup (SqT.of h) (.cons (.str _) (.cons (.int _) .nil))
          refine viaA11 (fun v H' => ∃ G', OwnAt H' o G' S.count.2 ∧ FrF G HC H' ∧ News HC G G' ∧ ((S.count.1 = true ∧ v = .non) ∨ (S.count.1 = false ∧ ∃ t, v = .ref t ∧ H' t = some (.tup [.str "Stopped", .int 0])))) (fun Q' fin2 => ?_) ?_
          · refine ⟨_, rfl, o, G, S, i, rfl, ow, wf, by omega, fun HD G' ow' f' n' => ?_⟩
            cases hc : S.count.1 with
            | true => exact ⟨_, rfl, iteT (fin2 _ _ ⟨G', ow', f', n', .inl ⟨hc, rfl⟩⟩)⟩
            | false =>
              refine ⟨_, rfl, iteF ⟨by show 2 ≤ sizeLine; decide, fun t nt => ?_⟩⟩
              have s1 := sameNew (o := .tup [.str "Stopped", .int 0]) (Same.refl HD) nt
              exact fin2 _ _ ⟨G', ow'.same s1, f'.t (.of s1), n', .inr ⟨hc, t, rfl, upd_same⟩⟩
          rintro v HD ⟨G1, ow1, f1, n1, hv⟩
          try dsimp only [gName, List.set]
          refine viaS11 (fun σ' H' => ∃ (v9 v10 : Option V) (vd : V) (rd : PyData) (S' : Dk) (G' : List Addr), σ' = [some (.ref a), some (.ref B), some (.ref Ss), some (.int (0 + (i : Nat))), some (.ref x), some (.ref o), some (.int way), v7, some vd, v9, v10] ∧ Dp K H' vd rd ∧ StOut S S' rd ∧ OwnAt H' o G' S' ∧ FrF G HC H' ∧ News HC G G') (fun nx2 fin2 => ?_) ?_
          · rcases hv with ⟨hc, rfl⟩ | ⟨hc, t, rfl, ht⟩
            · refine ⟨_, rfl, rfl, _, rfl, ?_⟩
              refine iteT' (by simp) ?_
              have wf2 := wf.count
              obtain ⟨Ls, Lp, Lk, ts, rfl, d⟩ := ow1
              have no := d.no
              refine ⟨_, rfl, o, .ref Lp, rfl, (by rw [← ov1]; exact DGet.k (k := kP) d.o), Lp, rfl, ⟨_, SqL.of d.p⟩, ?_⟩
              have lts := d.pe.len
              refine for_list (K := K) (a := Lp) (xs := ts.map V.ref) (fun j σ H' => ∃ v9 v10 : Option V, σ = [some (.ref a), some (.ref B), some (.ref Ss), some (.int (0 + (i : Nat))), some (.ref x), some (.ref o), some (.int way), v7, some .non, v9, v10] ∧ FrF [Ls] HD H' ∧ H' Ls = some (.lst (ovl S.count.2.set (S.count.2.pen.take j))))
                ⟨v9, v10, rfl, fun _ _ e _ => e, d.s⟩ (fun j σ H' _ h => ?_) ?_ ?_
              · obtain ⟨_, _, _, fr, _⟩ := h
                exact SqL.of (fr _ _ d.p (by simp [Ne.symm d.nd.1]))
              · rintro j y σ H' hy ⟨w9', w10', rfl, fr, hs⟩
                try dsimp only [gName, List.set]
                obtain ⟨t, ht, rfl⟩ : ∃ t, ts[j]? = some t ∧ y = .ref t := by
                  rw [List.getElem?_map] at hy
                  cases q : ts[j]? with
                  | none => rw [q] at hy; cases hy
                  | some t => rw [q] at hy; exact ⟨t, rfl, (Option.some.inj hy).symm⟩
                have hj : j < S.count.2.pen.length := by
                  have := (List.getElem?_eq_some_iff.mp ht).1
                  omega
                obtain ⟨p, hp⟩ : ∃ p, S.count.2.pen[j]? = some p := ⟨_, List.getElem?_eq_getElem hj⟩
                have htt := d.pe.at_ j t p ht hp
                have htt' := fr _ _ htt (by simp only [List.mem_singleton]; exact fun z => by rw [z, d.s] at htt; cases htt)
                have ho := fr _ _ d.o (by simp [no.1])
                have hp3 := wf2.pen p (List.mem_of_getElem? hp)
                refine ⟨t, _, rfl, SqT.of htt', rfl, _, _, rfl, _, _, rfl, rfl, ?_⟩
                refine ⟨_, rfl, _, rfl, o, .ref Ls, rfl, (by rw [← ov0]; exact DGet.k (k := kS) ho), _, rfl, Ls, _, _, p.1, rfl, rfl, hs, ixN_natD (by rw [ovl_len, wf2.len]; exact hp3), ?_⟩
                refine ⟨_, _, rfl, fr.t (.put1 (by simp)), ?_⟩
                rw [ovl_take hp]
                exact upd_same
              · rintro σ H' ⟨w9', w10', rfl, fr, hs⟩
                rw [List.length_map, lts, List.take_length] at hs
                have ho := fr _ _ d.o (by simp [no.1])
                have hk := fr _ _ d.k (by simp [Ne.symm d.nd.2.1])
                refine ⟨Nat.zero_le _, fun qn nqn => ?_⟩
                have nq := nqn
                have sE := sameNew (o := .lst []) (Same.refl H') nqn
                have hq : upd H' qn (.lst []) qn = some (.lst []) := upd_same
                generalize upd H' qn (.lst []) = HE at sE hq ⊢
                have nqo : qn ≠ o := fun z => by rw [z, ho] at nq; cases nq
                have nqs : qn ≠ Ls := fun z => by rw [z, hs] at nq; cases nq
                have nqk : qn ≠ Lk := fun z => by rw [z, hk] at nq; cases nq
                refine ⟨_, rfl, o, _, rfl, DPut.k (k := kP) (sE _ _ ho) (by show 5 < sizeLine; decide), ?_⟩
                rw [op1]
                have eo : ∀ b u, HE b = some u → b ≠ o → upd HE o (.dK (ownL (.ref Ls) (.ref qn) (lftV S.count.2.left) (.ref Lk) S.count.2.fallen)) b = some u := fun b u e n => (upd_ne n).trans e
                have f2 : FrF [o, Ls, Lp, Lk] HD (upd HE o (.dK (ownL (.ref Ls) (.ref qn) (lftV S.count.2.left) (.ref Lk) S.count.2.fallen))) := (fr.mono fun b h => by simp [List.mem_singleton.mp h]).t ((FrF.of sE).t (.put1 (by simp)))
                refine fin2 _ _ ⟨_, _, _, _, _, [o, Ls, qn, Lk], rfl, .non, .good hc, ⟨Ls, qn, Lk, [], rfl, upd_same, eo _ _ (sE _ _ hs) (Ne.symm no.1), eo _ _ hq nqo, .nil, eo _ _ (sE _ _ hk) (Ne.symm no.2.2), Ne.symm nqs, d.nd.2.1, nqk⟩, f1.trans f2 n1, ?_⟩
                refine n1.trans (fun b hb => ?_) f1
                rcases mem4.mp hb with rfl | rfl | rfl | rfl
                · exact .inl (by simp)
                · exact .inl (by simp)
                · by_cases z : b ∈ [o, Ls, Lp, Lk]
                  · exact .inl z
                  · exact .inr (fr.free nq (by simp [nqs]))
                · exact .inl (by simp)
            · refine ⟨_, rfl, rfl, _, rfl, ?_⟩
              refine iteF' (by simp) ?_
              exact fin2 _ _ ⟨_, _, _, _, _, G1, rfl, tup ht, .stop hc, ow1, f1, n1⟩
          rintro _ HE ⟨v9, v10, vd, rd, S', G', rfl, hvd, out, owE, fE, nE⟩
          try dsimp only [gName, List.set]
          have kE := fE.ktc ow.chg
          have dkE := dk.fr fE kE dFG
          have bE := box_c gC.box fE nBF.2.2.1 nBF.2.2.2
          have tZE := tabS_c gC.tz fE ow.chg
          have dFG' : ∀ b ∈ F, b ∉ G' := disj2 dFG nE fun b hb => (dk.chg b hb).has
          obtain ⟨fw, dp40, nord⟩ := out.few
          refine ⟨tZE, fun fL HG eN xP tS isL hfN => ?_⟩
          intro Gp ca
          have fG : FrF [pZ] HE HG := fun b u e n => xP b u e (by simpa using n)
          have kG := tabS_kt tZE fG
          have npF : ∀ b ∈ F, b ∉ [pZ] := fun b hb z => tabS_ne tZE (dkE.chg b hb) (List.mem_singleton.mp z)
          have npG : ∀ b ∈ G', b ∉ [pZ] := fun b hb z => tabS_ne tZE (owE.chg b hb) (List.mem_singleton.mp z)
          have dkG := dkE.fr fG kG npF
          have owG := owE.fr fG kG npG
          have bG := box_c bE fG (fun z => tabS_ne tZE (bE.chg B (by simp)) (List.mem_singleton.mp z)) (fun z => tabS_ne tZE (bE.chg L (by simp)) (List.mem_singleton.mp z))
          have hvdG := dp_kt kG _ nord hvd
          obtain ⟨R, rG, act⟩ := lam_act (k := 4) ca (LamX.lamS_by (sc := defScope sLaw) (by decide +kernel)) (isL.up ca) (fun _ _ _ _ _ => rfl) (fun A outer s H E c' hr' => pe_m0 Cs.settle hr' (Nat.le_refl _) (passes_call (takes_of rfl rfl rfl rfl) fun _ _ _ _ h => h) (pv 4))
          refine ⟨fL, R, _, rfl, act, rG, fun E' hE => ?_⟩
          rw [off_up ca]
          have fin3 : ∀ (HX : Hp) (F' : List Addr) (r : V), DkAt C HX x F' S' → FrF F HG HX → News HG F F' → Dp K HX r rd → (∀ (r2 v2 : V), r2 = r → v2 = vd → spAlike K 40 [r2, v2] HX (fun y H' => nx [some (.ref a), some (.ref B), some (.ref Ss), some (.int (0 + (i : Nat))), some (.ref x), some (.ref o), some (.int way), some y, some vd, v9, v10] H') E0) := fun HX F' r dkX fX nX hr r2 v2 e1 e2 => by
            rw [e1, e2]
            have kX := fX.ktc dkG.chg
            refine ⟨r, vd, rd, rfl, hr, dp_kt kX _ nord hvdG, fw, dp40, ?_⟩
            have dGF : ∀ b ∈ G', b ∉ F := disj_symm dFG'
            have owX := owG.fr fX kX dGF
            have bX := box_c bG fX nBF.1 nBF.2.1
            have kCX : KpT HC HX := (kE.trans kG).trans kX
            have fCX : FrF (B :: L :: pZ :: (F ++ G)) HC HX := ((fE.mono fun b h => by simp [h]).t (fG.mono fun b h => by simp [List.mem_singleton.mp h])).t (fX.mono fun b h => by simp [h])
            obtain ⟨_, _, _, _, g⟩ := step HX (F' ++ G') S' pZ (tab_tbl gC.tz) fCX (fun b hb => by
              rcases List.mem_append.mp hb with h | h
              · rcases nX b h with q | q
                · exact .inl (List.mem_append_left _ q)
                · by_cases hG : b ∈ G
                  · exact .inl (List.mem_append_right _ hG)
                  · refine .inr ?_
                    cases e : HC b with
                    | none => rfl
                    | some u =>
                      have e4 := fE _ _ e hG
                      by_cases hp : b = pZ
                      · obtain ⟨ps, h1, _⟩ := tS
                        rw [hp, h1] at q; cases q
                      · rw [fG _ _ e4 (by simp [hp])] at q; cases q
              · exact (nE b h).imp (List.mem_append_right _) id) bX ⟨⟨F', G', rfl, dkX, owX, disj_symm (disj2 dGF nX fun b hb => (owG.chg b hb).has)⟩, (out.wf wf).mono (by omega), fun u hu => (sd.vs u (out.ind hu)).kt kCX⟩ (fun e => absurd e nZW) (fun e => absurd e.symm nIZ) (fun _ => tabS_c tS fX dkG.chg)
            exact fin _ _ ⟨_, _, _, _, _, _, _, rfl, g⟩
          obtain ⟨dx, Ac, An, Au, Ap, ts, dp, eF, dd⟩ := id dkG
          refine ⟨_, rfl, x, dx, _, rfl, dd.x, fd_no (by decide +kernel) (by decide +kernel) (by decide +kernel) (by decide +kernel) (by decide +kernel) (by decide +kernel), ?_⟩
          refine ⟨x, F, S, i, rfl, dkG, wf, fun h2 HX FX dX fX nX lo => ?_, fun h2 HX FX dX fX nX lo => ?_⟩
          · cases out with
            | stop _ => exact hE _ _ _ (err_D eS rfl ca lo fun t H' s' ht => ⟨_, rfl, fin3 _ FX _ (dX.same s') (fX.t (.of s')) nX (tup ht) _ _ rfl rfl⟩)
            | good c => rw [h2] at c; cases c
          · cases out with
            | stop c => rw [h2] at c; cases c
            | good _ =>
              have q := fin3 HX FX .non dX fX nX .non _ _ rfl rfl
              rw [← off_back (G := Gp) lo] at q
              exact ⟨_, rfl, q⟩
        · refine iteF' (decide_eq_false c8) ?_
          refine ⟨_, rfl, _, rfl, _, rfl, B, L, x, o, A, S, i, rfl, gC.box, sd, by omega, nB, nL, fun HD A' S' bD sD fD nD => ?_⟩
          have cz : ∀ b ∈ B :: L :: A, Chg HC b := fun b h => by
            simp only [List.mem_cons] at h
            rcases h with h | h | h
            · rw [h]; exact gC.box.chg B (by simp)
            · rw [h]; exact gC.box.chg L (by simp)
            · exact sd.chg b h
          obtain ⟨_, _, _, _, g⟩ := step HD A' S' pW (tab_tbl gC.tw) (fD.mono fun b h => by
            simp only [List.mem_cons] at h ⊢
            rcases h with h | h | h
            · exact .inl h
            · exact .inr (.inl h)
            · exact .inr (.inr (.inr h))) nD bD (sD.mono (by omega)) (fun _ => tabS_c gC.tw fD cz) (fun e => absurd e.symm nIW) (fun e => absurd e.symm nZW)
          try dsimp only [gName, List.set]
          exact fin _ _ ⟨_, _, _, _, _, _, _, rfl, g⟩
    rintro _ HD ⟨v8, v9, v10, A0, A1, S0, S1, rfl, gD⟩
    try dsimp only [gName, List.set]
    refine ⟨_, rfl, true, rfl, iteF ?_⟩
    refine ⟨_, rfl, _, rfl, Ss, _, 0, .ref T0, rfl, rfl, SqL.of gD.ss, rfl, T0, _, 0, .ref x0, rfl, rfl, SqT.of gD.t0, rfl, ?_⟩
    refine ⟨_, rfl, Ss, _, 0, .ref T0, rfl, rfl, SqL.of gD.ss, rfl, T0, _, 1, .ref o0, rfl, rfl, SqT.of gD.t0, rfl, ?_⟩
    refine ⟨B, L, x0, o0, A0, S0, i + 1, rfl, gD.box, gD.d0, by omega, gD.n0 B (by simp), gD.n0 L (by simp), gD.ti, fun HE bE fE tE => ⟨_, rfl, iteF ?_⟩⟩
    have gE := gD.is nIW nIZ bE fE tE
    refine ⟨_, rfl, _, rfl, Ss, _, 1, .ref T1, rfl, rfl, SqL.of gE.ss, rfl, T1, _, 0, .ref x1, rfl, rfl, SqT.of gE.t1, rfl, ?_⟩
    refine ⟨_, rfl, Ss, _, 1, .ref T1, rfl, rfl, SqL.of gE.ss, rfl, T1, _, 1, .ref o1, rfl, rfl, SqT.of gE.t1, rfl, ?_⟩
    refine ⟨B, L, x1, o1, A1, S1, i + 1, rfl, gE.box, gE.d1, by omega, gE.n1 B (by simp), gE.n1 L (by simp), gE.ti, fun HF bF fF tF => ⟨_, rfl, iteF ?_⟩⟩
    exact ⟨_, _, _, _, _, _, _, _, _, _, _, _, rfl, gE.is nIW nIZ bF fF tF⟩
end
end RS
set_option Elab.async false
set_option maxRecDepth 100000
set_option maxHeartbeats 4000000
set_option pp.maxSteps 400
namespace RS
open PySem PySem.Spec PyProof.Rows L2 GX LM
section
variable {X : Cx} {e : Expr} {es : List Expr} {ta : TA} {p1 p2 pos : Pos}
/-- C.__init__(self, ..), C an own class that has ValueError's -/
theorem pe_veinitC {pl : Sem Bool} {x : Str} {SE : Addr} {mc : Value} (hg : Gl X x) (hm : X.mg x = some (.ref SE)) (cr : ClX.CRead X.K SE mc) (cv : PySem.W.findCls X.K (.ref SE) mc "__init__" = some (.val (.builtin "ValueError.__init__"))) (ha : PA X (e :: es) ta) (hdb : (x == ("__debug__" : Str)) = false := by decide)
    (hc : eval (.Call (.Attribute (.Name x p1) "__init__" p2) (e :: es) [] pos) X.env = (do
      let ov ← eval (.Name x p1) X.env
      standAt p2.atName
      let (f, first) ← holding [ov] (getMethod ov "__init__" pl)
      callWith pos f first (backTo pos (starEach (e :: es) X.env)) (backToKw pos (keywordEach [] X.env))) := by rfl)
    (he : starEach (e :: es) X.env = (false, eval e X.env) :: starEach es X.env := by rfl) (hpl : (backTo pos (starEach es X.env)).any (·.1) = false := by rfl) :
    PE X (.Call (.Attribute (.Name x p1) "__init__" p2) (e :: es) [] pos) (tVeI X.K ta) := by
  refine ⟨fun pins s σ H Q I h => ?_⟩
  refine PySem.W.methodCall_KW (ld_glob I hg hm ?_ hdb) hc
  refine PySem.W.method_cls I.kIn cr.ga (PySem.W.cls_value I.kIn cr.rd cv (by decide +kernel) ?_)
  show wpAny _ _ (callWith pos (Value.builtin "ValueError.__init__") [] (backTo pos (starEach (e :: es) X.env)) []) _ _ _
  refine PyProof.Rows.callWith_method1 (thn (ha.run pos pins _ σ H _ (I.tok _) h) fun us s1 ⟨vs, H1, I1, r1, a, C, ws, ev, hl, T, ea, q⟩ => ?_) he hpl
  subst ev
  cases r1 with
  | @cons _ u0 _ ur ra rw' =>
    obtain rfl : u0 = Value.ref a := ra
    have z : ur.length ≤ sizeLine := by
      rw [← Paired.length rw', sizeLine_eq]
      omega
    exact oinit_ok T I1 ea z fun s' J => ⟨.non, H1, J, rfl, q⟩
end
theorem len_app7 (x y : Str) : (x ++ y).length = x.length + y.length := by
  have e : ∀ z : Str, z.length = (TL.tl z).length := fun z => by simp [TL.tl, Str.length]
  rw [e, e x, e y, TL.tl_append, List.length_append]
/-! ### an error with a number -/
def spNumI (K : PySem.W.Frag) (C : Addr) (f : Str) : Sp := fun vs H Q _ => ∃ (a : Addr) (v : Nat), vs = [.ref a, .int (v : Nat)] ∧ v < 200 ∧ H a = some (exo a C none) ∧
  ∀ dx, H dx = none → dx ≠ a → Q .non (upd (upd H dx (exd dx [(f, .int (v : Nat))])) a (exo a C (some dx)))
theorem txt_small : ∀ n < 200, (toString ((n : Nat) : Int) : Str).length ≤ 20 ∧ ((n : Nat) : Int).natAbs.log2 < 1920 := by decide +kernel
/-- the text's class C: its __init__ tells a text, then keeps the number as f -/
structure NumE (P : Program) (w : World) (K : PySem.W.Frag) (mg : Str → Option Value) (base : Heap) (x f : Str) (C : Addr) : Prop where
  ex : ∃ (fI : Addr) (fd : FuncData), OexC K C ∧ PySem.W.findIn K (.ref C) "__init__" = some (some (.ref fI)) ∧ PySem.W.typeIn K (.ref fI) = some (.type "function") ∧ FnOk P w K mg base CX0 1 fI fd ["self", f] (spNumI K C f) ∧ Binds K fd ["self", f] [] ∧ mg x = some (.ref C)
section
variable {X : Cx} {e : Expr} {te : TE} {p pos : Pos} {x f : Str} {C : Addr}
theorem del_end {H1 : Hp} {a dx : Addr} {o u v y : HO} (hn : H1 a = none) (ne : dx ≠ a) : upd (L2.del (upd (upd (upd H1 a o) dx u) a v) a) dx y = upd H1 dx y := by
  funext b
  by_cases hb : b = dx
  · rw [hb, upd_same, upd_same]
  · rw [upd_ne hb, upd_ne hb]
    by_cases ha : b = a
    · rw [ha, L2.del_same, hn]
    · rw [L2.del_ne ha, upd_ne ha, upd_ne hb, upd_ne ha]
/-- C(e), to be raised -/
theorem pmk_num (N : NumE X.prog X.w X.K X.mg X.base x f C) (hr : Room 2 X.A) (hg : Gl X x) (he : PE X e te) (hs : starEach [e] X.env = (false, eval e X.env) :: starEach [] X.env := by rfl) (hdb : (x == ("__debug__" : Str)) = false := by decide) :
    L2.PMk X (.Call (.Name x p) [e] [] pos) (tMkO C (spNumI X.K C f) [] (tCons te tNil)) := by
  obtain ⟨fI, fd, T, iC, tI, F, hb, hm⟩ := N.ex
  exact pmk_oex T iC tI F hr hb .nil pass0 hg hm (pa_cons he pa_nil hs) hdb hs (by rfl)
/-- its reading, the number known -/
theorem num_end {K : PySem.W.Frag} {n : Nat} {H1 : Hp} {Q : XK} (hn : n < 200) (q : ∀ d, H1 d = none → Q (.ref C) (some d) (upd H1 d (.xd [(f, .int (n : Nat))]))) : [V.int (n : Nat)].length ≤ 1000 ∧ ∀ a, H1 a = none → spNumI K C f (.ref a :: ([V.int (n : Nat)] ++ [])) (upd H1 a (exo a C none))
    (fun v H2 => v = .non ∧ ∃ (d : Addr) (fs : List (Str × V)), H2 a = some (exo a C (some d)) ∧ H2 d = some (exd d fs) ∧ H1 d = none ∧ Q (.ref C) (some d) (upd (L2.del H2 a) d (.xd fs))) (fun _ _ _ => False) := by
  refine ⟨by show 1 ≤ 1000; decide, fun a ha => ⟨a, n, rfl, hn, upd_same, fun dx hd ne => ⟨rfl, dx, [(f, .int (n : Nat))], upd_same, (upd_ne ne).trans upd_same, (upd_ne ne).symm.trans hd, ?_⟩⟩⟩
  rw [del_end ha ne]
  exact q dx ((upd_ne ne).symm.trans hd)
end
section
variable {P : Program} {w : World} {K : PySem.W.Frag} {mg : Str → Option Value} {base : Heap}
theorem scPlaceI : FnScope ["self", "place"] ["self", "place"] (defScope s_BadRows_init) := ⟨rfl, rfl, rfl, by decide +kernel, rfl, by decide +kernel, by decide +kernel⟩
theorem init_place {fI C SE : Addr} {fd : FuncData} {mc : Value} (F : L2.Fun K "__init__" "BadRows.__init__" s_BadRows_init fI fd) (T : OexC K C) (iC : PySem.W.findIn K (.ref C) "__init__" = some (some (.ref fI))) (tI : PySem.W.typeIn K (.ref fI) = some (.type "function")) (hm : mg "BadRows" = some (.ref C)) (nf : PySem.W.findIn K (.ref C) "place" = some none)
    (gS : mg "SortError" = some (.ref SE)) (cr : ClX.CRead K SE mc) (cv : PySem.W.findCls K (.ref SE) mc "__init__" = some (.val (.builtin "ValueError.__init__"))) : NumE P w K mg base "BadRows" "place" C := by
  have sc := scPlaceI
  refine ⟨fI, fd, T, iC, tI, ?_, F.binds (fun _ _ _ _ _ _ us hl => match us, hl with | [_, _], _ => rfl), hm⟩
  refine F.ok sc (fun vs H Q E h => ?_) (fun cdv A outer s H vs Q E hr h => ?_)
  · obtain ⟨a, v, rfl, _⟩ := h
    rfl
  · obtain ⟨a, v, rfl, hv, ha, k⟩ := h
    refine ⟨_, (pss_cons (ps_expr (pe_veinitC (by rfl) gS cr cv (pa_cons (pv 0) (pa_cons (pe_joined (.cons pe_str (.cons (pe_fmt (pv 1)) .nil))) pa_nil)))) (pss_one (ps_ost (pv 0) (pv 1)))), ?_⟩
    obtain ⟨z1, z2⟩ := txt_small v hv
    have big : (1000 : Nat) ≤ sizeLine := by decide
    have e0 : (Str.empty ++ Str.ofString "no row that may stand at place ").length ≤ 100 := by decide +kernel
    refine ⟨_, rfl, _, rfl, by omega, _, rfl, .inr ⟨_, rfl, z2, _, rfl, ?_, a, C, _, rfl, by show 1 ≤ 1000; decide, T, ha, ?_⟩⟩
    · rw [len_app7]
      omega
    · exact ⟨_, rfl, _, rfl, a, C, rfl, T, nf, .inl ⟨ha, fun dx hd ne => k dx hd ne⟩⟩
end
end RS
set_option Elab.async false
set_option maxRecDepth 100000
set_option maxHeartbeats 4000000
namespace RS
open PySem PySem.Spec PyProof.Rows L2 GX LM
/-! ### what one reads of the classes of the errors -/
theorem kit_ne {K : PySem.W.Frag} {D C : Addr} {b : Bool} (hne : D ≠ C) (h1 : PySem.W.isClsIn K C = true) (h2 : PySem.W.typeIn K (.ref C) = some (.type "type")) (h3 : PySem.W.subIn K (.ref D) (.ref C) = some b) : PySem.W.kitOne K (.ref D) (.ref C) = some b := by
  have e0 : ((Value.ref D : Value) == .ref C) = false := by
    rw [beq_eq_false_iff_ne]
    exact fun z => hne (Value.ref.inj z)
  have e2 : ((PySem.W.clsIn K C).isSome && PySem.W.typeIn K (.ref C) == some (.type "type")) = true := by
    have h1' : (PySem.W.clsIn K C).isSome = true := h1
    rw [h1', h2] <;> rfl
  unfold PySem.W.kitOne
  rw [if_neg (by rw [e0]; decide)]
  show (if ((PySem.W.clsIn K C).isSome && PySem.W.typeIn K (.ref C) == some (.type "type")) = true then PySem.W.subIn K (.ref D) (.ref C) else none) = some b
  rw [if_pos e2]
  exact h3
theorem kit_same {K : PySem.W.Frag} {D : Addr} : PySem.W.kitOne K (.ref D) (.ref D) = some true := by
  unfold PySem.W.kitOne
  rw [if_pos (beq_self_eq_true _)]
theorem kit_ve {K : PySem.W.Frag} {D : Addr} (h : PySem.W.subIn K (.ref D) (.type "ValueError") = some true) : PySem.W.kitOne K (.ref D) (.type "ValueError") = some true := by
  unfold PySem.W.kitOne
  rw [if_neg (show ¬((Value.ref D : Value) == .type "ValueError") = true from fun z => by have := beq_iff_eq.mp z; cases this)]
  show (if PySem.W.kitMeta "ValueError" = true then PySem.W.subIn K (.ref D) (.type "ValueError") else none) = some true
  rw [if_pos (by decide +kernel)]
  exact h
theorem exm_mk {K : PySem.W.Frag} {D S : Addr} (h1 : PySem.W.subIn K (.ref S) (.type "BaseException") = some true) (h2 : PySem.W.isClsIn K S = true) (h3 : PySem.W.typeIn K (.ref S) = some (.type "type")) (h4 : PySem.W.subIn K (.ref D) (.ref S) = some true) :
    PySem.W.exmOne K (.ref D) (.ref S) = some true := by
  have e1 : (PySem.W.subIn K (.ref S) (.type "BaseException") == some true) = true := by rw [h1] <;> rfl
  have e2 : ((PySem.W.clsIn K S).isSome && PySem.W.typeIn K (.ref S) == some (.type "type")) = true := by
    have h2' : (PySem.W.clsIn K S).isSome = true := h2
    rw [h2', h3] <;> rfl
  show (if (PySem.W.subIn K (.ref S) (.type "BaseException") == some true) = true then (if ((PySem.W.clsIn K S).isSome && PySem.W.typeIn K (.ref S) == some (.type "type")) = true then PySem.W.subIn K (.ref D) (.ref S) else none) else none) = some true
  rw [if_pos e1, if_pos e2]
  exact h4
/-- what one class of an error shows -/
structure OneE (K : PySem.W.Frag) (SE D : Addr) : Prop where
  exc : ExcC K D
  ve : PySem.W.subIn K (.ref D) (.type "ValueError") = some true
  se : PySem.W.exmOne K (.ref D) (.ref SE) = some true
theorem own15_mk {K : PySem.W.Frag} {C : Nat → Addr} {SE : Addr} {j : Nat} (hj : j < 15) (E : OneE K SE (C j)) (cl : ∀ i < 15, PySem.W.isClsIn K (C i) = true ∧ PySem.W.typeIn K (.ref (C i)) = some (.type "type")) (no : ∀ i < 15, i ≠ j → C j ≠ C i ∧ PySem.W.subIn K (.ref (C j)) (.ref (C i)) = some false) : Own15 K C (C j) j := by
  refine ⟨hj, E.exc, fun i hi => ?_, kit_ve E.ve⟩
  by_cases e : i = j
  · subst e
    rw [kit_same, decide_eq_true rfl]
  · obtain ⟨n1, n2⟩ := no i hi e
    rw [kit_ne n1 (cl i hi).1 (cl i hi).2 n2, decide_eq_false e]
def listC (cs : List Addr) : Nat → Addr := fun i => cs.getD i 0
end RS
set_option Elab.async false
set_option maxRecDepth 100000
set_option maxHeartbeats 4000000
namespace RS
open PySem PySem.Spec PyProof.Rows L2 GX
/-- the end: the tables of the defs are empty at the law's entry -/
theorem walk_tabs {l : PySem.W.OpenLaw} {n k : Nat} {q : Program} {loose : List Str} {XP : (Str → Option Value) → Heap → Prop} {YP : World → Heap → Prop} {d : DefRec} {K : Params → PySem.W.Frag} {x : Str}
    (hn : l.most = some n) (hn2 : n ≤ sizeLine) (hdf : d.params.defaults = []) (hr : Room k callerA) (hY : ∀ (w : World) (h : Heap), YP w h → (K w.params).In h)
    (F : ∀ (w : World) (mg : Str → Option Value) (fa : Addr) (h : Heap), (K w.params).In h → h.Ns mainGlobals mg → mg d.name = some (.ref fa) →
      (∀ (y : Str) (d' : DefRec) (c P : Addr), (recsOf q).find? (fun e => e.name == y) = some d' → PySem.W.tabIn (K w.params) y = some (c, P) → PySem.W.CodeHd h c P ∧ h.get? P = some { cls := .none, data := .fields #[] }) →
      LamX.LawAtS l w (K w.params) CX0 k n x mg fa h) :
    PySem.W.WalkO q loose XP YP l.row.toRowW d [] (fun f vs => PySem.call f vs) := by
  refine Att.attach_callB hn hdf fun w s₀ s₁ mg mb fa o pm cd doc a vs ns G Y ho hd hcd hmg hobj hints hlen hbits hg => ?_
  have KX := hY w _ Y
  obtain ⟨fd, cs, sp, hT, nT, C, hb, hsp, hF⟩ := F w mg fa _ KX G.T.g hmg fun y d' c P e1 e2 => PySem.W.tab_of G.T KX e1 e2
  exact LamX.law_callTs KX G.T.g G.T.b G.T.builtins G.T.nolimit hg hT nT C G.T.bmain hobj hints (Nat.le_trans hlen hn2) hr hF hb (fun H hH hS => hsp H a ns hlen hbits hH hS) fun H e s' z => z
end RS
set_option Elab.async false
set_option maxRecDepth 100000
set_option maxHeartbeats 8000000
namespace RS
open PySem PySem.Spec PyProof.Rows L2 GX LM
theorem def_at {K : PySem.W.Frag} {h : Heap} {mg : Str → Option Value} {x : Str} {st : Stmt} {f c : Addr} {oc kV doc pm ct : Value} {od an : Option Addr} {osl : Array (Option Value)} (X : K.In h) (G : h.Ns mainGlobals mg) (a : PySem.W.nsIn K mainGlobals x = some (some (.ref f)))
    (l : K.lookup f = some ⟨oc, od, .func (PySem.W.fnOf x x (defArgs st) (defBody st) (defScope st) .none kV doc pm an (.ref c) ct), osl⟩) (e : PySem.W.codeIn K (.ref c) x = true) (k : PySem.W.keepIn K (.ref f) = true) : DefAt K mg x st c :=
  ⟨f, oc, od, kV, doc, pm, an, ct, osl, PySem.W.mg_of X G a, l, e, k⟩
theorem two_in {K : PySem.W.Frag} {a : Addr} {x y : Str} {t u : Tok} {od : Option Addr} {n : Nat} {sl : Array (Option Value)} (h : K.lookup a = some ⟨.type "tuple", od, .seq #[.str x t, .str y u] n, sl⟩) : ∀ H, SqT K H a [.str x, .str y] :=
  fun _ => .inr ⟨_, #[.str x t, .str y u], n, h, rfl, rfl, by show 2 ≤ sizeLine; decide, .cons ⟨t, rfl⟩ (.cons ⟨u, rfl⟩ .nil)⟩
theorem tabB_of {base : Heap} {mg : Str → Option Value} {c P : Addr} (h : LamX.TabB base mg c P) : GxR.TabB base mg c P := ⟨h.code, h.bm, h.gP⟩
theorem tab_in {K : PySem.W.Frag} {x : Str} {st : Stmt} {f c P : Addr} {oc kV doc pm ct e : Value} {od an dd : Option Addr} {osl sl : Array (Option Value)} {vs : Array Value} (a : PySem.W.nsIn K mainGlobals x = some (some (.ref f)))
    (l : K.lookup f = some ⟨oc, od, .func (PySem.W.fnOf x x (defArgs st) (defBody st) (defScope st) .none kV doc pm an (.ref c) ct), osl⟩) (h1 : K.lookup c = some ⟨e, dd, .fields vs, sl⟩) (h2 : vs[11]? = some (.ref P)) : PySem.W.tabIn K x = some (c, P) := by
  unfold PySem.W.tabIn
  rw [a]
  dsimp only
  rw [l]
  show (match K.lookup c with
    | some ⟨_, _, .fields vs, _⟩ => (match (vs[11]? : Option Value) with
      | some (.ref P) => some (c, P)
      | _ => none)
    | _ => none) = some (c, P)
  rw [h1]
  dsimp only
  rw [h2]
theorem all_mk {l : PySem.W.OpenLaw} {w : World} {K : PySem.W.Frag} {h : Heap} {mg : Str → Option Value} {fa pW pI pZ : Addr} {q : Program} {dW dI dZ : DefRec} {eW eI eZ : Value} {ddW ddI ddZ : Option Addr} {vsW vsI vsZ : Array Value} {stW stI stZ : Array (Option Value)} (tabs : ∀ (y : Str) (d' : DefRec) (c P : Addr), (recsOf q).find? (fun e => e.name == y) = some d' → PySem.W.tabIn K y = some (c, P) → PySem.W.CodeHd h c P ∧ h.get? P = some { cls := .none, data := .fields #[] }) (X : K.In h) (G : h.Ns mainGlobals mg) (hfa : mg "law" = some (.ref fa))
    {f0 c0 : Addr} {oc0 kV0 dc0 pm0 ct0 : Value} {od0 an0 : Option Addr} {sl0 : Array (Option Value)}
    {f1 c1 : Addr} {oc1 kV1 dc1 pm1 ct1 : Value} {od1 an1 : Option Addr} {sl1 : Array (Option Value)}
    {f2 c2 : Addr} {oc2 kV2 dc2 pm2 ct2 : Value} {od2 an2 : Option Addr} {sl2 : Array (Option Value)}
    {f3 c3 : Addr} {oc3 kV3 dc3 pm3 ct3 : Value} {od3 an3 : Option Addr} {sl3 : Array (Option Value)}
    {f4 c4 : Addr} {oc4 kV4 dc4 pm4 ct4 : Value} {od4 an4 : Option Addr} {sl4 : Array (Option Value)}
    {f5 c5 : Addr} {oc5 kV5 dc5 pm5 ct5 : Value} {od5 an5 : Option Addr} {sl5 : Array (Option Value)}
    {f6 c6 : Addr} {oc6 kV6 dc6 pm6 ct6 : Value} {od6 an6 : Option Addr} {sl6 : Array (Option Value)}
    {f7 c7 : Addr} {oc7 kV7 dc7 pm7 ct7 : Value} {od7 an7 : Option Addr} {sl7 : Array (Option Value)}
    {f8 c8 : Addr} {oc8 kV8 dc8 pm8 ct8 : Value} {od8 an8 : Option Addr} {sl8 : Array (Option Value)}
    {f9 c9 : Addr} {oc9 kV9 dc9 pm9 ct9 : Value} {od9 an9 : Option Addr} {sl9 : Array (Option Value)}
    {f10 c10 : Addr} {oc10 kV10 dc10 pm10 ct10 : Value} {od10 an10 : Option Addr} {sl10 : Array (Option Value)}
    {f11 c11 : Addr} {oc11 kV11 dc11 pm11 ct11 : Value} {od11 an11 : Option Addr} {sl11 : Array (Option Value)}
    {f12 c12 : Addr} {oc12 kV12 dc12 pm12 ct12 : Value} {od12 an12 : Option Addr} {sl12 : Array (Option Value)}
    {f13 c13 : Addr} {oc13 kV13 dc13 pm13 ct13 : Value} {od13 an13 : Option Addr} {sl13 : Array (Option Value)}
    {f14 c14 : Addr} {oc14 kV14 dc14 pm14 ct14 : Value} {od14 an14 : Option Addr} {sl14 : Array (Option Value)}
    {f15 c15 : Addr} {oc15 kV15 dc15 pm15 ct15 : Value} {od15 an15 : Option Addr} {sl15 : Array (Option Value)}
    {f16 c16 : Addr} {oc16 kV16 dc16 pm16 ct16 : Value} {od16 an16 : Option Addr} {sl16 : Array (Option Value)}
    {f17 c17 : Addr} {oc17 kV17 dc17 pm17 ct17 : Value} {od17 an17 : Option Addr} {sl17 : Array (Option Value)}
    {tx0 tx1 : Tok}
    {CDisk : Addr}
    {mfDisk0 : Addr} {mocDisk0 mkVDisk0 mdcDisk0 mpmDisk0 mctDisk0 mcdDisk0 : Value} {modDisk0 manDisk0 : Option Addr} {mslDisk0 : Array (Option Value)}
    {mfDisk1 : Addr} {mocDisk1 mkVDisk1 mdcDisk1 mpmDisk1 mctDisk1 mcdDisk1 : Value} {modDisk1 manDisk1 : Option Addr} {mslDisk1 : Array (Option Value)}
    {mfDisk2 : Addr} {mocDisk2 mkVDisk2 mdcDisk2 mpmDisk2 mctDisk2 mcdDisk2 : Value} {modDisk2 manDisk2 : Option Addr} {mslDisk2 : Array (Option Value)}
    {mfDisk3 : Addr} {mocDisk3 mkVDisk3 mdcDisk3 mpmDisk3 mctDisk3 mcdDisk3 : Value} {modDisk3 manDisk3 : Option Addr} {mslDisk3 : Array (Option Value)}
    {mfDisk4 : Addr} {mocDisk4 mkVDisk4 mdcDisk4 mpmDisk4 mctDisk4 mcdDisk4 : Value} {modDisk4 manDisk4 : Option Addr} {mslDisk4 : Array (Option Value)}
    {mfDisk5 : Addr} {mocDisk5 mkVDisk5 mdcDisk5 mpmDisk5 mctDisk5 mcdDisk5 : Value} {modDisk5 manDisk5 : Option Addr} {mslDisk5 : Array (Option Value)}
    {mfDisk6 : Addr} {mocDisk6 mkVDisk6 mdcDisk6 mpmDisk6 mctDisk6 mcdDisk6 : Value} {modDisk6 manDisk6 : Option Addr} {mslDisk6 : Array (Option Value)}
    {mfDisk7 : Addr} {mocDisk7 mkVDisk7 mdcDisk7 mpmDisk7 mctDisk7 mcdDisk7 : Value} {modDisk7 manDisk7 : Option Addr} {mslDisk7 : Array (Option Value)}
    {mfDisk8 : Addr} {mocDisk8 mkVDisk8 mdcDisk8 mpmDisk8 mctDisk8 mcdDisk8 : Value} {modDisk8 manDisk8 : Option Addr} {mslDisk8 : Array (Option Value)}
    {mfDisk9 : Addr} {mocDisk9 mkVDisk9 mdcDisk9 mpmDisk9 mctDisk9 mcdDisk9 : Value} {modDisk9 manDisk9 : Option Addr} {mslDisk9 : Array (Option Value)}
    {mfDisk10 : Addr} {mocDisk10 mkVDisk10 mdcDisk10 mpmDisk10 mctDisk10 mcdDisk10 : Value} {modDisk10 manDisk10 : Option Addr} {mslDisk10 : Array (Option Value)}
    {SE CC0 CC1 CC2 CC3 CC4 CC5 CC6 CC7 CC8 CC9 CC10 CC11 CC12 CC13 CC14 : Addr}
    (xCDisk : PySem.W.nsIn K mainGlobals "Disk" = some (some (.ref CDisk)))
    (xpgDisk : PySem.W.plainGet K CDisk Str.empty = true)
    (xhdDisk : PySem.W.hasDictIn K CDisk = true)
    (xpoDisk : PySem.W.plainOver K CDisk = true)
    (xsaDisk : PySem.W.findIn K (.ref CDisk) "__setattr__" = some (some (.builtin "object.__setattr__")))
    (xmkDisk : PySem.W.makesIn K CDisk = true)
    (xkcDisk : PySem.W.keepIn K (.ref CDisk) = true)
    (xnDisk0 : PySem.W.findIn K (.ref CDisk) "certain" = some none)
    (xnDisk1 : PySem.W.findIn K (.ref CDisk) "newest" = some none)
    (xnDisk2 : PySem.W.findIn K (.ref CDisk) "unsettled" = some none)
    (xnDisk3 : PySem.W.findIn K (.ref CDisk) "has_stopped" = some none)
    (xnDisk4 : PySem.W.findIn K (.ref CDisk) "deeds_left" = some none)
    (xnDisk5 : PySem.W.findIn K (.ref CDisk) "picks" = some none)
    (maDisk0 : PySem.W.findIn K (.ref CDisk) "__init__" = some (some (.ref mfDisk0)))
    (miDisk0 : PySem.W.isFn K (.ref mfDisk0) = true)
    (mlDisk0 : K.lookup mfDisk0 = some ⟨mocDisk0, modDisk0, .func (PySem.W.fnOf "__init__" "Disk.__init__" (defArgs s_Disk_init) (defBody s_Disk_init) (defScope s_Disk_init) .none mkVDisk0 mdcDisk0 mpmDisk0 manDisk0 mcdDisk0 mctDisk0), mslDisk0⟩)
    (mcDisk0 : PySem.W.codeIn K mcdDisk0 "Disk.__init__" = true)
    (mkDisk0 : PySem.W.keepIn K (.ref mfDisk0) = true)
    (maDisk1 : PySem.W.findIn K (.ref CDisk) "write" = some (some (.ref mfDisk1)))
    (miDisk1 : PySem.W.isFn K (.ref mfDisk1) = true)
    (mlDisk1 : K.lookup mfDisk1 = some ⟨mocDisk1, modDisk1, .func (PySem.W.fnOf "write" "Disk.write" (defArgs s_Disk_write) (defBody s_Disk_write) (defScope s_Disk_write) .none mkVDisk1 mdcDisk1 mpmDisk1 manDisk1 mcdDisk1 mctDisk1), mslDisk1⟩)
    (mcDisk1 : PySem.W.codeIn K mcdDisk1 "Disk.write" = true)
    (mkDisk1 : PySem.W.keepIn K (.ref mfDisk1) = true)
    (maDisk2 : PySem.W.findIn K (.ref CDisk) "settle" = some (some (.ref mfDisk2)))
    (miDisk2 : PySem.W.isFn K (.ref mfDisk2) = true)
    (mlDisk2 : K.lookup mfDisk2 = some ⟨mocDisk2, modDisk2, .func (PySem.W.fnOf "settle" "Disk.settle" (defArgs s_Disk_settle) (defBody s_Disk_settle) (defScope s_Disk_settle) .none mkVDisk2 mdcDisk2 mpmDisk2 manDisk2 mcdDisk2 mctDisk2), mslDisk2⟩)
    (mcDisk2 : PySem.W.codeIn K mcdDisk2 "Disk.settle" = true)
    (mkDisk2 : PySem.W.keepIn K (.ref mfDisk2) = true)
    (maDisk3 : PySem.W.findIn K (.ref CDisk) "read" = some (some (.ref mfDisk3)))
    (miDisk3 : PySem.W.isFn K (.ref mfDisk3) = true)
    (mlDisk3 : K.lookup mfDisk3 = some ⟨mocDisk3, modDisk3, .func (PySem.W.fnOf "read" "Disk.read" (defArgs s_Disk_read) (defBody s_Disk_read) (defScope s_Disk_read) .none mkVDisk3 mdcDisk3 mpmDisk3 manDisk3 mcdDisk3 mctDisk3), mslDisk3⟩)
    (mcDisk3 : PySem.W.codeIn K mcdDisk3 "Disk.read" = true)
    (mkDisk3 : PySem.W.keepIn K (.ref mfDisk3) = true)
    (maDisk4 : PySem.W.findIn K (.ref CDisk) "arm" = some (some (.ref mfDisk4)))
    (miDisk4 : PySem.W.isFn K (.ref mfDisk4) = true)
    (mlDisk4 : K.lookup mfDisk4 = some ⟨mocDisk4, modDisk4, .func (PySem.W.fnOf "arm" "Disk.arm" (defArgs s_Disk_arm) (defBody s_Disk_arm) (defScope s_Disk_arm) .none mkVDisk4 mdcDisk4 mpmDisk4 manDisk4 mcdDisk4 mctDisk4), mslDisk4⟩)
    (mcDisk4 : PySem.W.codeIn K mcdDisk4 "Disk.arm" = true)
    (mkDisk4 : PySem.W.keepIn K (.ref mfDisk4) = true)
    (maDisk5 : PySem.W.findIn K (.ref CDisk) "stop" = some (some (.ref mfDisk5)))
    (miDisk5 : PySem.W.isFn K (.ref mfDisk5) = true)
    (mlDisk5 : K.lookup mfDisk5 = some ⟨mocDisk5, modDisk5, .func (PySem.W.fnOf "stop" "Disk.stop" (defArgs s_Disk_stop) (defBody s_Disk_stop) (defScope s_Disk_stop) .none mkVDisk5 mdcDisk5 mpmDisk5 manDisk5 mcdDisk5 mctDisk5), mslDisk5⟩)
    (mcDisk5 : PySem.W.codeIn K mcdDisk5 "Disk.stop" = true)
    (mkDisk5 : PySem.W.keepIn K (.ref mfDisk5) = true)
    (maDisk6 : PySem.W.findIn K (.ref CDisk) "again" = some (some (.ref mfDisk6)))
    (miDisk6 : PySem.W.isFn K (.ref mfDisk6) = true)
    (mlDisk6 : K.lookup mfDisk6 = some ⟨mocDisk6, modDisk6, .func (PySem.W.fnOf "again" "Disk.again" (defArgs s_Disk_again) (defBody s_Disk_again) (defScope s_Disk_again) .none mkVDisk6 mdcDisk6 mpmDisk6 manDisk6 mcdDisk6 mctDisk6), mslDisk6⟩)
    (mcDisk6 : PySem.W.codeIn K mcdDisk6 "Disk.again" = true)
    (mkDisk6 : PySem.W.keepIn K (.ref mfDisk6) = true)
    (maDisk7 : PySem.W.findIn K (.ref CDisk) "blocks" = some (some (.ref mfDisk7)))
    (miDisk7 : PySem.W.isFn K (.ref mfDisk7) = true)
    (mlDisk7 : K.lookup mfDisk7 = some ⟨mocDisk7, modDisk7, .func (PySem.W.fnOf "blocks" "Disk.blocks" (defArgs s_Disk_blocks) (defBody s_Disk_blocks) (defScope s_Disk_blocks) .none mkVDisk7 mdcDisk7 mpmDisk7 manDisk7 mcdDisk7 mctDisk7), mslDisk7⟩)
    (mcDisk7 : PySem.W.codeIn K mcdDisk7 "Disk.blocks" = true)
    (mkDisk7 : PySem.W.keepIn K (.ref mfDisk7) = true)
    (maDisk8 : PySem.W.findIn K (.ref CDisk) "let_go" = some (some (.ref mfDisk8)))
    (miDisk8 : PySem.W.isFn K (.ref mfDisk8) = true)
    (mlDisk8 : K.lookup mfDisk8 = some ⟨mocDisk8, modDisk8, .func (PySem.W.fnOf "let_go" "Disk.let_go" (defArgs s_Disk_let_go) (defBody s_Disk_let_go) (defScope s_Disk_let_go) .none mkVDisk8 mdcDisk8 mpmDisk8 manDisk8 mcdDisk8 mctDisk8), mslDisk8⟩)
    (mcDisk8 : PySem.W.codeIn K mcdDisk8 "Disk.let_go" = true)
    (mkDisk8 : PySem.W.keepIn K (.ref mfDisk8) = true)
    (maDisk9 : PySem.W.findIn K (.ref CDisk) "do_deed" = some (some (.ref mfDisk9)))
    (miDisk9 : PySem.W.isFn K (.ref mfDisk9) = true)
    (mlDisk9 : K.lookup mfDisk9 = some ⟨mocDisk9, modDisk9, .func (PySem.W.fnOf "do_deed" "Disk.do_deed" (defArgs s_Disk_do_deed) (defBody s_Disk_do_deed) (defScope s_Disk_do_deed) .none mkVDisk9 mdcDisk9 mpmDisk9 manDisk9 mcdDisk9 mctDisk9), mslDisk9⟩)
    (mcDisk9 : PySem.W.codeIn K mcdDisk9 "Disk.do_deed" = true)
    (mkDisk9 : PySem.W.keepIn K (.ref mfDisk9) = true)
    (maDisk10 : PySem.W.findIn K (.ref CDisk) "check_runs" = some (some (.ref mfDisk10)))
    (miDisk10 : PySem.W.isFn K (.ref mfDisk10) = true)
    (mlDisk10 : K.lookup mfDisk10 = some ⟨mocDisk10, modDisk10, .func (PySem.W.fnOf "check_runs" "Disk.check_runs" (defArgs s_Disk_check_runs) (defBody s_Disk_check_runs) (defScope s_Disk_check_runs) .none mkVDisk10 mdcDisk10 mpmDisk10 manDisk10 mcdDisk10 mctDisk10), mslDisk10⟩)
    (mcDisk10 : PySem.W.codeIn K mcdDisk10 "Disk.check_runs" = true)
    (mkDisk10 : PySem.W.keepIn K (.ref mfDisk10) = true)
    (sg : PySem.W.nsIn K mainGlobals "SortError" = some (some (.ref SE)))
    (scl : PySem.W.isClsIn K SE = true)
    (sty : PySem.W.typeIn K (.ref SE) = some (.type "type"))
    (sbe : PySem.W.subIn K (.ref SE) (.type "BaseException") = some true)
    (srd : PySem.W.readsIn K SE (.type "type") = true)
    (sga : PySem.W.specialIn K (.ref SE) "__getattribute__" = some (some (.builtin "type.__getattribute__")))
    (sfi : PySem.W.findCls K (.ref SE) (.type "type") "__init__" = some (.val (.builtin "ValueError.__init__")))
    (ohn : PySem.W.specialIn K (.builtin "object.__class__") "__get__" = some (some (.builtin "getset_descriptor.__get__")))
    (oht : PySem.W.takesIn K (.builtin "object.__class__") = some true)
    (cg0 : PySem.W.nsIn K mainGlobals "BadKinds" = some (some (.ref CC0)))
    (cc0 : PySem.W.isClsIn K CC0 = true)
    (cy0 : PySem.W.typeIn K (.ref CC0) = some (.type "type"))
    (cg1 : PySem.W.nsIn K mainGlobals "BadOrder" = some (some (.ref CC1)))
    (cc1 : PySem.W.isClsIn K CC1 = true)
    (cy1 : PySem.W.typeIn K (.ref CC1) = some (.type "type"))
    (cg2 : PySem.W.nsIn K mainGlobals "BadRows" = some (some (.ref CC2)))
    (cc2 : PySem.W.isClsIn K CC2 = true)
    (cy2 : PySem.W.typeIn K (.ref CC2) = some (.type "type"))
    (cg3 : PySem.W.nsIn K mainGlobals "BadRuns" = some (some (.ref CC3)))
    (cc3 : PySem.W.isClsIn K CC3 = true)
    (cy3 : PySem.W.typeIn K (.ref CC3) = some (.type "type"))
    (cg4 : PySem.W.nsIn K mainGlobals "BadRoom" = some (some (.ref CC4)))
    (cc4 : PySem.W.isClsIn K CC4 = true)
    (cy4 : PySem.W.typeIn K (.ref CC4) = some (.type "type"))
    (cg5 : PySem.W.nsIn K mainGlobals "BadLengths" = some (some (.ref CC5)))
    (cc5 : PySem.W.isClsIn K CC5 = true)
    (cy5 : PySem.W.typeIn K (.ref CC5) = some (.type "type"))
    (cg6 : PySem.W.nsIn K mainGlobals "BadPlan" = some (some (.ref CC6)))
    (cc6 : PySem.W.isClsIn K CC6 = true)
    (cy6 : PySem.W.typeIn K (.ref CC6) = some (.type "type"))
    (cg7 : PySem.W.nsIn K mainGlobals "BadPaper" = some (some (.ref CC7)))
    (cc7 : PySem.W.isClsIn K CC7 = true)
    (cy7 : PySem.W.typeIn K (.ref CC7) = some (.type "type"))
    (cg8 : PySem.W.nsIn K mainGlobals "BadCount" = some (some (.ref CC8)))
    (cc8 : PySem.W.isClsIn K CC8 = true)
    (cy8 : PySem.W.typeIn K (.ref CC8) = some (.type "type"))
    (cg9 : PySem.W.nsIn K mainGlobals "BadBlock" = some (some (.ref CC9)))
    (cc9 : PySem.W.isClsIn K CC9 = true)
    (cy9 : PySem.W.typeIn K (.ref CC9) = some (.type "type"))
    (cg10 : PySem.W.nsIn K mainGlobals "Stopped" = some (some (.ref CC10)))
    (cc10 : PySem.W.isClsIn K CC10 = true)
    (cy10 : PySem.W.typeIn K (.ref CC10) = some (.type "type"))
    (cg11 : PySem.W.nsIn K mainGlobals "Shut" = some (some (.ref CC11)))
    (cc11 : PySem.W.isClsIn K CC11 = true)
    (cy11 : PySem.W.typeIn K (.ref CC11) = some (.type "type"))
    (cg12 : PySem.W.nsIn K mainGlobals "NotYet" = some (some (.ref CC12)))
    (cc12 : PySem.W.isClsIn K CC12 = true)
    (cy12 : PySem.W.typeIn K (.ref CC12) = some (.type "type"))
    (cg13 : PySem.W.nsIn K mainGlobals "Empty" = some (some (.ref CC13)))
    (cc13 : PySem.W.isClsIn K CC13 = true)
    (cy13 : PySem.W.typeIn K (.ref CC13) = some (.type "type"))
    (cg14 : PySem.W.nsIn K mainGlobals "BadText" = some (some (.ref CC14)))
    (cc14 : PySem.W.isClsIn K CC14 = true)
    (cy14 : PySem.W.typeIn K (.ref CC14) = some (.type "type"))
    (hg9 : PySem.W.findIn K (.ref CC9) "__getattribute__" = some (some (.builtin "BaseException.__getattribute__")))
    (hk9 : PySem.W.findIn K (.ref CC9) "__getattr__" = some none)
    (hs9 : PySem.W.subIn K (.ref CC9) (.type "BaseException") = some true)
    (hd9 : PySem.W.hasDictIn K CC9 = true)
    (ha9 : PySem.W.findIn K (.ref CC9) "__class__" = some (some (.builtin "object.__class__")))
    (hm9 : PySem.W.mroIn K CC9 (.type "object") = some true)
    (hv9 : PySem.W.subIn K (.ref CC9) (.type "ValueError") = some true)
    (hS9 : PySem.W.subIn K (.ref CC9) (.ref SE) = some true)
    (kc9 : PySem.W.keepIn K (.ref CC9) = true)
    (no9_0 : PySem.W.subIn K (.ref CC9) (.ref CC0) = some false)
    (ne9_0 : CC9 ≠ CC0)
    (no9_1 : PySem.W.subIn K (.ref CC9) (.ref CC1) = some false)
    (ne9_1 : CC9 ≠ CC1)
    (no9_2 : PySem.W.subIn K (.ref CC9) (.ref CC2) = some false)
    (ne9_2 : CC9 ≠ CC2)
    (no9_3 : PySem.W.subIn K (.ref CC9) (.ref CC3) = some false)
    (ne9_3 : CC9 ≠ CC3)
    (no9_4 : PySem.W.subIn K (.ref CC9) (.ref CC4) = some false)
    (ne9_4 : CC9 ≠ CC4)
    (no9_5 : PySem.W.subIn K (.ref CC9) (.ref CC5) = some false)
    (ne9_5 : CC9 ≠ CC5)
    (no9_6 : PySem.W.subIn K (.ref CC9) (.ref CC6) = some false)
    (ne9_6 : CC9 ≠ CC6)
    (no9_7 : PySem.W.subIn K (.ref CC9) (.ref CC7) = some false)
    (ne9_7 : CC9 ≠ CC7)
    (no9_8 : PySem.W.subIn K (.ref CC9) (.ref CC8) = some false)
    (ne9_8 : CC9 ≠ CC8)
    (no9_10 : PySem.W.subIn K (.ref CC9) (.ref CC10) = some false)
    (ne9_10 : CC9 ≠ CC10)
    (no9_11 : PySem.W.subIn K (.ref CC9) (.ref CC11) = some false)
    (ne9_11 : CC9 ≠ CC11)
    (no9_12 : PySem.W.subIn K (.ref CC9) (.ref CC12) = some false)
    (ne9_12 : CC9 ≠ CC12)
    (no9_13 : PySem.W.subIn K (.ref CC9) (.ref CC13) = some false)
    (ne9_13 : CC9 ≠ CC13)
    (no9_14 : PySem.W.subIn K (.ref CC9) (.ref CC14) = some false)
    (ne9_14 : CC9 ≠ CC14)
    (hg10 : PySem.W.findIn K (.ref CC10) "__getattribute__" = some (some (.builtin "BaseException.__getattribute__")))
    (hk10 : PySem.W.findIn K (.ref CC10) "__getattr__" = some none)
    (hs10 : PySem.W.subIn K (.ref CC10) (.type "BaseException") = some true)
    (hd10 : PySem.W.hasDictIn K CC10 = true)
    (ha10 : PySem.W.findIn K (.ref CC10) "__class__" = some (some (.builtin "object.__class__")))
    (hm10 : PySem.W.mroIn K CC10 (.type "object") = some true)
    (hv10 : PySem.W.subIn K (.ref CC10) (.type "ValueError") = some true)
    (hS10 : PySem.W.subIn K (.ref CC10) (.ref SE) = some true)
    (kc10 : PySem.W.keepIn K (.ref CC10) = true)
    (no10_0 : PySem.W.subIn K (.ref CC10) (.ref CC0) = some false)
    (ne10_0 : CC10 ≠ CC0)
    (no10_1 : PySem.W.subIn K (.ref CC10) (.ref CC1) = some false)
    (ne10_1 : CC10 ≠ CC1)
    (no10_2 : PySem.W.subIn K (.ref CC10) (.ref CC2) = some false)
    (ne10_2 : CC10 ≠ CC2)
    (no10_3 : PySem.W.subIn K (.ref CC10) (.ref CC3) = some false)
    (ne10_3 : CC10 ≠ CC3)
    (no10_4 : PySem.W.subIn K (.ref CC10) (.ref CC4) = some false)
    (ne10_4 : CC10 ≠ CC4)
    (no10_5 : PySem.W.subIn K (.ref CC10) (.ref CC5) = some false)
    (ne10_5 : CC10 ≠ CC5)
    (no10_6 : PySem.W.subIn K (.ref CC10) (.ref CC6) = some false)
    (ne10_6 : CC10 ≠ CC6)
    (no10_7 : PySem.W.subIn K (.ref CC10) (.ref CC7) = some false)
    (ne10_7 : CC10 ≠ CC7)
    (no10_8 : PySem.W.subIn K (.ref CC10) (.ref CC8) = some false)
    (ne10_8 : CC10 ≠ CC8)
    (no10_9 : PySem.W.subIn K (.ref CC10) (.ref CC9) = some false)
    (ne10_9 : CC10 ≠ CC9)
    (no10_11 : PySem.W.subIn K (.ref CC10) (.ref CC11) = some false)
    (ne10_11 : CC10 ≠ CC11)
    (no10_12 : PySem.W.subIn K (.ref CC10) (.ref CC12) = some false)
    (ne10_12 : CC10 ≠ CC12)
    (no10_13 : PySem.W.subIn K (.ref CC10) (.ref CC13) = some false)
    (ne10_13 : CC10 ≠ CC13)
    (no10_14 : PySem.W.subIn K (.ref CC10) (.ref CC14) = some false)
    (ne10_14 : CC10 ≠ CC14)
    (xE9 : PySem.W.excIn K CC9 [.type "ValueError", .type "Exception", .type "BaseException", .type "object"] "ValueError.__new__" = true)
    (xE10 : PySem.W.excIn K CC10 [.type "ValueError", .type "Exception", .type "BaseException", .type "object"] "ValueError.__new__" = true)
    (a0 : PySem.W.nsIn K mainGlobals "is_number" = some (some (.ref f0))) (l0 : K.lookup f0 = some ⟨oc0, od0, .func (PySem.W.fnOf "is_number" "is_number" (defArgs sIsNumber) (defBody sIsNumber) (defScope sIsNumber) .none kV0 dc0 pm0 an0 (.ref c0) ct0), sl0⟩) (e0 : PySem.W.codeIn K (.ref c0) "is_number" = true) (k0 : PySem.W.keepIn K (.ref f0) = true)
    (a1 : PySem.W.nsIn K mainGlobals "check_block" = some (some (.ref f1))) (l1 : K.lookup f1 = some ⟨oc1, od1, .func (PySem.W.fnOf "check_block" "check_block" (defArgs s_check_block) (defBody s_check_block) (defScope s_check_block) .none kV1 dc1 pm1 an1 (.ref c1) ct1), sl1⟩) (e1 : PySem.W.codeIn K (.ref c1) "check_block" = true) (k1 : PySem.W.keepIn K (.ref f1) = true)
    (a2 : PySem.W.nsIn K mainGlobals "check_weight" = some (some (.ref f2))) (l2 : K.lookup f2 = some ⟨oc2, od2, .func (PySem.W.fnOf "check_weight" "check_weight" (defArgs s_check_weight) (defBody s_check_weight) (defScope s_check_weight) .none kV2 dc2 pm2 an2 (.ref c2) ct2), sl2⟩) (e2 : PySem.W.codeIn K (.ref c2) "check_weight" = true) (k2 : PySem.W.keepIn K (.ref f2) = true)
    (a3 : PySem.W.nsIn K mainGlobals "_law_begun" = some (some (.ref f3))) (l3 : K.lookup f3 = some ⟨oc3, od3, .func (PySem.W.fnOf "_law_begun" "_law_begun" (defArgs sBegun) (defBody sBegun) (defScope sBegun) .none kV3 dc3 pm3 an3 (.ref c3) ct3), sl3⟩) (e3 : PySem.W.codeIn K (.ref c3) "_law_begun" = true) (k3 : PySem.W.keepIn K (.ref f3) = true)
    (a4 : PySem.W.nsIn K mainGlobals "_law_take" = some (some (.ref f4))) (l4 : K.lookup f4 = some ⟨oc4, od4, .func (PySem.W.fnOf "_law_take" "_law_take" (defArgs sTake) (defBody sTake) (defScope sTake) .none kV4 dc4 pm4 an4 (.ref c4) ct4), sl4⟩) (e4 : PySem.W.codeIn K (.ref c4) "_law_take" = true) (k4 : PySem.W.keepIn K (.ref f4) = true)
    (a5 : PySem.W.nsIn K mainGlobals "_law_alike" = some (some (.ref f5))) (l5 : K.lookup f5 = some ⟨oc5, od5, .func (PySem.W.fnOf "_law_alike" "_law_alike" (defArgs sAlike) (defBody sAlike) (defScope sAlike) .none kV5 dc5 pm5 an5 (.ref c5) ct5), sl5⟩) (e5 : PySem.W.codeIn K (.ref c5) "_law_alike" = true) (k5 : PySem.W.keepIn K (.ref f5) = true)
    (a6 : PySem.W.nsIn K mainGlobals "_law_class" = some (some (.ref f6))) (l6 : K.lookup f6 = some ⟨oc6, od6, .func (PySem.W.fnOf "_law_class" "_law_class" (defArgs sClass) (defBody sClass) (defScope sClass) .none kV6 dc6 pm6 an6 (.ref c6) ct6), sl6⟩) (e6 : PySem.W.codeIn K (.ref c6) "_law_class" = true) (k6 : PySem.W.keepIn K (.ref f6) = true)
    (a7 : PySem.W.nsIn K mainGlobals "_law_told" = some (some (.ref f7))) (l7 : K.lookup f7 = some ⟨oc7, od7, .func (PySem.W.fnOf "_law_told" "_law_told" (defArgs sTold) (defBody sTold) (defScope sTold) .none kV7 dc7 pm7 an7 (.ref c7) ct7), sl7⟩) (e7 : PySem.W.codeIn K (.ref c7) "_law_told" = true) (k7 : PySem.W.keepIn K (.ref f7) = true)
    (a8 : PySem.W.nsIn K mainGlobals "_law_nest" = some (some (.ref f8))) (l8 : K.lookup f8 = some ⟨oc8, od8, .func (PySem.W.fnOf "_law_nest" "_law_nest" (defArgs s__law_nest) (defBody s__law_nest) (defScope s__law_nest) .none kV8 dc8 pm8 an8 (.ref c8) ct8), sl8⟩) (e8 : PySem.W.codeIn K (.ref c8) "_law_nest" = true) (k8 : PySem.W.keepIn K (.ref f8) = true)
    (a9 : PySem.W.nsIn K mainGlobals "_law_what" = some (some (.ref f9))) (l9 : K.lookup f9 = some ⟨oc9, od9, .func (PySem.W.fnOf "_law_what" "_law_what" (defArgs s__law_what) (defBody s__law_what) (defScope s__law_what) .none kV9 dc9 pm9 an9 (.ref c9) ct9), sl9⟩) (e9 : PySem.W.codeIn K (.ref c9) "_law_what" = true) (k9 : PySem.W.keepIn K (.ref f9) = true)
    (a10 : PySem.W.nsIn K mainGlobals "_law_weight" = some (some (.ref f10))) (l10 : K.lookup f10 = some ⟨oc10, od10, .func (PySem.W.fnOf "_law_weight" "_law_weight" (defArgs s__law_weight) (defBody s__law_weight) (defScope s__law_weight) .none kV10 dc10 pm10 an10 (.ref c10) ct10), sl10⟩) (e10 : PySem.W.codeIn K (.ref c10) "_law_weight" = true) (k10 : PySem.W.keepIn K (.ref f10) = true)
    (a11 : PySem.W.nsIn K mainGlobals "_law_made" = some (some (.ref f11))) (l11 : K.lookup f11 = some ⟨oc11, od11, .func (PySem.W.fnOf "_law_made" "_law_made" (defArgs s__law_made) (defBody s__law_made) (defScope s__law_made) .none kV11 dc11 pm11 an11 (.ref c11) ct11), sl11⟩) (e11 : PySem.W.codeIn K (.ref c11) "_law_made" = true) (k11 : PySem.W.keepIn K (.ref f11) = true)
    (a12 : PySem.W.nsIn K mainGlobals "_law_fall" = some (some (.ref f12))) (l12 : K.lookup f12 = some ⟨oc12, od12, .func (PySem.W.fnOf "_law_fall" "_law_fall" (defArgs s__law_fall) (defBody s__law_fall) (defScope s__law_fall) .none kV12 dc12 pm12 an12 (.ref c12) ct12), sl12⟩) (e12 : PySem.W.codeIn K (.ref c12) "_law_fall" = true) (k12 : PySem.W.keepIn K (.ref f12) = true)
    (a13 : PySem.W.nsIn K mainGlobals "_law_count" = some (some (.ref f13))) (l13 : K.lookup f13 = some ⟨oc13, od13, .func (PySem.W.fnOf "_law_count" "_law_count" (defArgs s__law_count) (defBody s__law_count) (defScope s__law_count) .none kV13 dc13 pm13 an13 (.ref c13) ct13), sl13⟩) (e13 : PySem.W.codeIn K (.ref c13) "_law_count" = true) (k13 : PySem.W.keepIn K (.ref f13) = true)
    (a14 : PySem.W.nsIn K mainGlobals "_law_write" = some (some (.ref f14))) (l14 : K.lookup f14 = some ⟨oc14, od14, .func (PySem.W.fnOf "_law_write" "_law_write" (defArgs s__law_write) (defBody s__law_write) (defScope s__law_write) .none kV14 dc14 pm14 an14 (.ref c14) ct14), sl14⟩) (e14 : PySem.W.codeIn K (.ref c14) "_law_write" = true) (k14 : PySem.W.keepIn K (.ref f14) = true)
    (a15 : PySem.W.nsIn K mainGlobals "_law_arms" = some (some (.ref f15))) (l15 : K.lookup f15 = some ⟨oc15, od15, .func (PySem.W.fnOf "_law_arms" "_law_arms" (defArgs s__law_arms) (defBody s__law_arms) (defScope s__law_arms) .none kV15 dc15 pm15 an15 (.ref c15) ct15), sl15⟩) (e15 : PySem.W.codeIn K (.ref c15) "_law_arms" = true) (k15 : PySem.W.keepIn K (.ref f15) = true)
    (a16 : PySem.W.nsIn K mainGlobals "_law_is" = some (some (.ref f16))) (l16 : K.lookup f16 = some ⟨oc16, od16, .func (PySem.W.fnOf "_law_is" "_law_is" (defArgs s__law_is) (defBody s__law_is) (defScope s__law_is) .none kV16 dc16 pm16 an16 (.ref c16) ct16), sl16⟩) (e16 : PySem.W.codeIn K (.ref c16) "_law_is" = true) (k16 : PySem.W.keepIn K (.ref f16) = true)
    (a17 : PySem.W.nsIn K mainGlobals "law" = some (some (.ref f17))) (l17 : K.lookup f17 = some ⟨oc17, od17, .func (PySem.W.fnOf "law" "law" (defArgs sLaw) (defBody sLaw) (defScope sLaw) .none kV17 dc17 pm17 an17 (.ref c17) ct17), sl17⟩) (e17 : PySem.W.codeIn K (.ref c17) "law" = true) (k17 : PySem.W.keepIn K (.ref f17) = true)
    (z0 : PySem.W.nsIn K mainGlobals "isinstance" = some none)
    (z1 : PySem.W.nsIn K mainGlobals "int" = some none)
    (z2 : PySem.W.nsIn K mainGlobals "bool" = some none)
    (z3 : PySem.W.nsIn K mainGlobals "str" = some none)
    (z4 : PySem.W.nsIn K mainGlobals "list" = some none)
    (z5 : PySem.W.nsIn K mainGlobals "tuple" = some none)
    (z6 : PySem.W.nsIn K mainGlobals "len" = some none)
    (z7 : PySem.W.nsIn K mainGlobals "all" = some none)
    (z8 : PySem.W.nsIn K mainGlobals "zip" = some none)
    (z9 : PySem.W.nsIn K mainGlobals "enumerate" = some none)
    (z10 : PySem.W.nsIn K mainGlobals "ord" = some none)
    (z11 : PySem.W.nsIn K mainGlobals "range" = some none)
    (z12 : PySem.W.nsIn K mainGlobals "sorted" = some none)
    (z13 : PySem.W.nsIn K mainGlobals "max" = some none)
    (z14 : PySem.W.nsIn K mainGlobals "min" = some none)
    (yx0 : PySem.W.nsIn K mainGlobals "MANY_BLOCKS" = some (some (.int 600 tx0)))
    (yx1 : PySem.W.nsIn K mainGlobals "MOST_WEIGHT" = some (some (.int 40 tx1)))
    (zzsum : PySem.W.nsIn K mainGlobals "sum" = some none)
    (zzValueError : PySem.W.nsIn K mainGlobals "ValueError" = some none)
    (rW : (recsOf q).find? (fun e => e.name == ("_law_write" : Str)) = some dW) (hW : K.lookup c14 = some ⟨eW, ddW, .fields vsW, stW⟩) (iW : vsW[11]? = some (.ref pW)) (nW' : K.lookup pW = none)
    (rI : (recsOf q).find? (fun e => e.name == ("_law_is" : Str)) = some dI) (hI : K.lookup c16 = some ⟨eI, ddI, .fields vsI, stI⟩) (iI : vsI[11]? = some (.ref pI)) (nI' : K.lookup pI = none)
    (rZ : (recsOf q).find? (fun e => e.name == ("law" : Str)) = some dZ) (hZ : K.lookup c17 = some ⟨eZ, ddZ, .fields vsZ, stZ⟩) (iZ : vsZ[11]? = some (.ref pZ)) (nZ' : K.lookup pZ = none)
    (dIW' : pI ≠ pW)
    (dIZ' : pI ≠ pZ)
    (dZW' : pZ ≠ pW)
    : LamX.LawAtS l w K CX0 44 63 "_law_script" mg fa h := by
  have efa := hfa.symm.trans (PySem.W.mg_of X G a17)
  cases efa
  have gW := tabs "_law_write" dW c14 pW rW (tab_in (st := s__law_write) a14 l14 hW iW)
  have gI := tabs "_law_is" dI c16 pI rI (tab_in (st := s__law_is) a16 l16 hI iI)
  have gZ := tabs "law" dZ c17 pZ rZ (tab_in (st := sLaw) a17 l17 hZ iZ)
  have T : Txt K mg := ⟨PySem.W.mg_none_of X G z0, PySem.W.mg_none_of X G z1, PySem.W.mg_none_of X G z2, PySem.W.mg_none_of X G z3, PySem.W.mg_none_of X G z4, PySem.W.mg_none_of X G z5, PySem.W.mg_none_of X G z6, PySem.W.mg_none_of X G z7, PySem.W.mg_none_of X G z8, PySem.W.mg_none_of X G z9, PySem.W.mg_none_of X G z10, PySem.W.mg_none_of X G z11, PySem.W.mg_none_of X G z12, PySem.W.mg_none_of X G z13, PySem.W.mg_none_of X G z14, PySem.W.mg_none_of X G zzsum⟩
  have Zsum : mg "sum" = none := PySem.W.mg_none_of X G zzsum
  have ZValueError : mg "ValueError" = none := PySem.W.mg_none_of X G zzValueError
  have D0 := def_at (st := sIsNumber) X G a0 l0 e0 k0
  have D1 := def_at (st := s_check_block) X G a1 l1 e1 k1
  have D2 := def_at (st := s_check_weight) X G a2 l2 e2 k2
  have D3 := def_at (st := sBegun) X G a3 l3 e3 k3
  have D4 := def_at (st := sTake) X G a4 l4 e4 k4
  have D5 := def_at (st := sAlike) X G a5 l5 e5 k5
  have D6 := def_at (st := sClass) X G a6 l6 e6 k6
  have D7 := def_at (st := sTold) X G a7 l7 e7 k7
  have D8 := def_at (st := s__law_nest) X G a8 l8 e8 k8
  have D9 := def_at (st := s__law_what) X G a9 l9 e9 k9
  have D10 := def_at (st := s__law_weight) X G a10 l10 e10 k10
  have D11 := def_at (st := s__law_made) X G a11 l11 e11 k11
  have D12 := def_at (st := s__law_fall) X G a12 l12 e12 k12
  have D13 := def_at (st := s__law_count) X G a13 l13 e13 k13
  have D14 := def_at (st := s__law_write) X G a14 l14 e14 k14
  have D15 := def_at (st := s__law_arms) X G a15 l15 e15 k15
  have D16 := def_at (st := s__law_is) X G a16 l16 e16 k16
  have D17 := def_at (st := sLaw) X G a17 l17 e17 k17
  refine ⟨PySem.W.fnOf "law" "law" (defArgs sLaw) (defBody sLaw) (defScope sLaw) .none kV17 dc17 pm17 an17 (.ref c17) ct17, [(c14, pW), (c16, pI), (c17, pZ)], spT [] (spLaw11 K pW pI pZ), ?_, ?_, ?_, fun s v => .of_eq rfl, ?_, fun base KB GB TB => ?_⟩
  · intro p hp
    simp only [List.mem_cons, List.not_mem_nil, or_false] at hp
    rcases hp with rfl | rfl | rfl
    · exact gW.2
    · exact gI.2
    · exact gZ.2
  · intro p hp
    simp only [List.mem_cons, List.not_mem_nil, or_false] at hp
    rcases hp with rfl | rfl | rfl
    · exact nW'
    · exact nI'
    · exact nZ'
  · intro p hp
    simp only [List.mem_cons, List.not_mem_nil, or_false] at hp
    rcases hp with rfl | rfl | rfl
    · exact gW.1
    · exact gI.1
    · exact gZ.1
  · intro H a ns hl hb hT hS
    have hT2 : ∀ b ∈ [], H b = some (.tbl #[]) := fun b hb => by
      simp at hb
    have hFW : H pW = some (.tbl #[]) := hT (c14, pW) (by simp)
    have hFI : H pI = some (.tbl #[]) := hT (c16, pI) (by simp)
    have hFZ : H pZ = some (.tbl #[]) := hT (c17, pZ) (by simp)
    refine ⟨hT2, a, ns, rfl, ?_, .nil ((ext_out (by simp [])).trans hFW), .nil ((ext_out (by simp [])).trans hFI), .nil ((ext_out (by simp [])).trans hFZ), fun H'  => ⟨fun b hb => ?_, fun _ => rfl⟩⟩
    · rcases hS with (hS | ⟨o, hS⟩) | hS
      · refine .inl (.inl ?_)
        rw [ext_out fun hb => by rw [hT2 a hb] at hS; cases hS]
        exact hS
      · refine .inl (.inr ⟨o, ?_⟩)
        rw [ext_out fun hb => by rw [hT2 a hb] at hS; cases hS]
        exact hS
      · exact .inr hS
    · simp at hb
  · have bW := TB (c14, pW) (by simp)
    have bI := TB (c16, pI) (by simp)
    have bZ := TB (c17, pZ) (by simp)
    let CC : Nat → Addr := listC [CC0, CC1, CC2, CC3, CC4, CC5, CC6, CC7, CC8, CC9, CC10, CC11, CC12, CC13, CC14]
    have gSE := PySem.W.mg_of X G sg
    have G15 : Cls15 mg CC := ⟨PySem.W.mg_of X G cg0, PySem.W.mg_of X G cg1, PySem.W.mg_of X G cg2, PySem.W.mg_of X G cg3, PySem.W.mg_of X G cg4, PySem.W.mg_of X G cg5, PySem.W.mg_of X G cg6, PySem.W.mg_of X G cg7, PySem.W.mg_of X G cg8, PySem.W.mg_of X G cg9, PySem.W.mg_of X G cg10, PySem.W.mg_of X G cg11, PySem.W.mg_of X G cg12, PySem.W.mg_of X G cg13, PySem.W.mg_of X G cg14⟩
    have cl15 : ∀ i < 15, PySem.W.isClsIn K (CC i) = true ∧ PySem.W.typeIn K (.ref (CC i)) = some (.type "type") := fun i hi => match i, hi with
      | 0, _ => ⟨cc0, cy0⟩
      | 1, _ => ⟨cc1, cy1⟩
      | 2, _ => ⟨cc2, cy2⟩
      | 3, _ => ⟨cc3, cy3⟩
      | 4, _ => ⟨cc4, cy4⟩
      | 5, _ => ⟨cc5, cy5⟩
      | 6, _ => ⟨cc6, cy6⟩
      | 7, _ => ⟨cc7, cy7⟩
      | 8, _ => ⟨cc8, cy8⟩
      | 9, _ => ⟨cc9, cy9⟩
      | 10, _ => ⟨cc10, cy10⟩
      | 11, _ => ⟨cc11, cy11⟩
      | 12, _ => ⟨cc12, cy12⟩
      | 13, _ => ⟨cc13, cy13⟩
      | 14, _ => ⟨cc14, cy14⟩
    have oe9 : OneE K SE CC9 := ⟨⟨hg9, hk9, hs9, hd9, ha9, ohn, oht, hm9⟩, hv9, exm_mk sbe scl sty hS9⟩
    have o15_9 : Own15 K CC CC9 9 := own15_mk (C := CC) (j := 9) (by decide) oe9 cl15 fun i hi n => match i, hi, n with
      | 0, _, _ => ⟨ne9_0, no9_0⟩
      | 1, _, _ => ⟨ne9_1, no9_1⟩
      | 2, _, _ => ⟨ne9_2, no9_2⟩
      | 3, _, _ => ⟨ne9_3, no9_3⟩
      | 4, _, _ => ⟨ne9_4, no9_4⟩
      | 5, _, _ => ⟨ne9_5, no9_5⟩
      | 6, _, _ => ⟨ne9_6, no9_6⟩
      | 7, _, _ => ⟨ne9_7, no9_7⟩
      | 8, _, _ => ⟨ne9_8, no9_8⟩
      | 9, _, n => absurd rfl n
      | 10, _, _ => ⟨ne9_10, no9_10⟩
      | 11, _, _ => ⟨ne9_11, no9_11⟩
      | 12, _, _ => ⟨ne9_12, no9_12⟩
      | 13, _, _ => ⟨ne9_13, no9_13⟩
      | 14, _, _ => ⟨ne9_14, no9_14⟩
    have oe10 : OneE K SE CC10 := ⟨⟨hg10, hk10, hs10, hd10, ha10, ohn, oht, hm10⟩, hv10, exm_mk sbe scl sty hS10⟩
    have o15_10 : Own15 K CC CC10 10 := own15_mk (C := CC) (j := 10) (by decide) oe10 cl15 fun i hi n => match i, hi, n with
      | 0, _, _ => ⟨ne10_0, no10_0⟩
      | 1, _, _ => ⟨ne10_1, no10_1⟩
      | 2, _, _ => ⟨ne10_2, no10_2⟩
      | 3, _, _ => ⟨ne10_3, no10_3⟩
      | 4, _, _ => ⟨ne10_4, no10_4⟩
      | 5, _, _ => ⟨ne10_5, no10_5⟩
      | 6, _, _ => ⟨ne10_6, no10_6⟩
      | 7, _, _ => ⟨ne10_7, no10_7⟩
      | 8, _, _ => ⟨ne10_8, no10_8⟩
      | 9, _, _ => ⟨ne10_9, no10_9⟩
      | 10, _, n => absurd rfl n
      | 11, _, _ => ⟨ne10_11, no10_11⟩
      | 12, _, _ => ⟨ne10_12, no10_12⟩
      | 13, _, _ => ⟨ne10_13, no10_13⟩
      | 14, _, _ => ⟨ne10_14, no10_14⟩
    have XD : TxD K CDisk := ⟨⟨xpgDisk, xhdDisk, xpoDisk, xsaDisk⟩, xnDisk0, xnDisk1, xnDisk2, xnDisk3, xnDisk4, xnDisk5⟩
    have XB : PlE K mg "BadBlock" CC9 := ⟨xE9, PySem.W.mg_of X G cg9, kc9, hs9, cy9⟩
    have XS : PlE K mg "Stopped" CC10 := ⟨xE10, PySem.W.mg_of X G cg10, kc10, hs10, cy10⟩
    have erB : ErrD K SE CC CC9 9 := ⟨o15_9, oe9.se, by decide⟩
    have erS : ErrD K SE CC CC10 10 := ⟨o15_10, oe10.se, by decide⟩
    have P0 : Cal l.prog w K mg base CX0 1 "is_number" ["value"] (spNum K) := is_number_ok D0 T
    have P1 : Cal l.prog w K mg base (L2.CX l.prog w) 2 "check_block" ["block"] (spBlk CC9) := check_block_ok D1 (PySem.W.mg_of X G yx0) XB P0
    have P2 : Cal l.prog w K mg base (L2.CX l.prog w) 1 "check_weight" ["what"] (spWt K CC9) := check_weight_ok D2 T (PySem.W.mg_of X G yx1) XB
    have P3 : Cal l.prog w K mg base CX0 1 "_law_begun" ["_law_script"] (spBegun K) := begun_ok D3 T
    have P4 : Cal l.prog w K mg base CX0 1 "_law_take" ["_law_box", "_law_many"] (spTake) := take_ok D4
    have P5 : Cal l.prog w K mg base CX0 42 "_law_alike" ["_law_found", "_law_due"] (spAlike K 40) := alike_ok D5 T 40
    have P6 : CalW l.prog w K mg base 1 "_law_class" ["_law_e"] (spClass K CC) := class_ok D6 T G15 ZValueError
    have P7 : Cal l.prog w K mg base CX0 6 "_law_told" ["_law_work"] (spTold l.prog w K mg base SE CC 5) := told_ok D7 5 (by decide) gSE P6
    have P8 : Cal l.prog w K mg base CX0 5 "_law_nest" ["_law_box", "_law_parts", "_law_deep"] (spNest K 3) := nest_ok D8 T P4 3
    have P9 : Cal l.prog w K mg base CX0 6 "_law_what" ["_law_box"] (spWhat K) := what_ok D9 T P4 P8
    have P10 : Cal l.prog w K mg base CX0 7 "_law_weight" ["_law_what_here"] (spWgt K 5) := wgt_ok D10 T 5
    have P11 : Cal l.prog w K mg base CX0 1 "_law_made" [] (spMade) := made_ok D11
    have P12 : Cal l.prog w K mg base CX0 1 "_law_fall" ["_law_own", "_law_picks"] (spFall) := fall_ok D12 T
    have P13 : Cal l.prog w K mg base CX0 2 "_law_count" ["_law_own"] (spCount) := count_ok D13 P12
    have PdG : MetC l.prog w K mg base CX0 1 CDisk "let_go" ["self"] (spDkG K CDisk) := dkgo_ok XD T ⟨⟨maDisk8, miDisk8, mkDisk8⟩, fun_mk mlDisk8 mcDisk8 mkDisk8⟩
    have PdS : MetC l.prog w K mg base CX0 2 CDisk "stop" ["self", "picks"] (spDkS CDisk) := dkstop_ok XD T ⟨⟨maDisk5, miDisk5, mkDisk5⟩, fun_mk mlDisk5 mcDisk5 mkDisk5⟩ PdG
    have PdC : MetC l.prog w K mg base (L2.CX l.prog w) 1 CDisk "check_runs" ["self"] (spDkC CDisk CC10) := dkruns_ok XD ⟨⟨maDisk10, miDisk10, mkDisk10⟩, fun_mk mlDisk10 mcDisk10 mkDisk10⟩ XS
    have PdD : MetC l.prog w K mg base (L2.CX l.prog w) 3 CDisk "do_deed" ["self"] (spDkD CDisk CC10) := dkdeed_ok XD ⟨⟨maDisk9, miDisk9, mkDisk9⟩, fun_mk mlDisk9 mcDisk9 mkDisk9⟩ PdS PdC
    have PdW : MetC l.prog w K mg base (L2.CX l.prog w) 4 CDisk "write" ["self", "block", "what"] (spDkW K CDisk CC9 CC10) := dkwrite_ok XD ⟨⟨maDisk1, miDisk1, mkDisk1⟩, fun_mk mlDisk1 mcDisk1 mkDisk1⟩ P1 P2 PdD
    have P14 : Cal l.prog w K mg base CX0 43 "_law_write" ["_law_box", "_law_disk", "_law_own"] (spLWr K CDisk pW) := lwrite_ok D14 T bW erB erS P4 P9 P10 P13 P5 P7 PdW
    have PdA : MetC l.prog w K mg base CX0 1 CDisk "arm" ["self", "deeds", "picks"] (spDkA CDisk) := dkarm_ok XD T ⟨⟨maDisk4, miDisk4, mkDisk4⟩, fun_mk mlDisk4 mcDisk4 mkDisk4⟩
    have PdN : MetC l.prog w K mg base CX0 2 CDisk "again" ["self"] (spDkG2 CDisk) := dkagain_ok XD ⟨⟨maDisk6, miDisk6, mkDisk6⟩, fun_mk mlDisk6 mcDisk6 mkDisk6⟩ PdG
    have P15 : Cal l.prog w K mg base CX0 3 "_law_arms" ["_law_box", "_law_disk", "_law_own"] (spLAr K CDisk) := larms_ok D15 T P4 P12 PdA PdS PdN
    have PdB : MetC l.prog w K mg base CX0 1 CDisk "blocks" ["self"] (spDkB CDisk) := dkblocks_ok XD T ⟨⟨maDisk7, miDisk7, mkDisk7⟩, fun_mk mlDisk7 mcDisk7 mkDisk7⟩
    have PdR : MetC l.prog w K mg base (L2.CX l.prog w) 3 CDisk "read" ["self", "block"] (spDkRd CDisk CC9 CC10) := dkread_ok XD ⟨⟨maDisk3, miDisk3, mkDisk3⟩, fun_mk mlDisk3 mcDisk3 mkDisk3⟩ P1 PdC
    have P16 : Cal l.prog w K mg base CX0 43 "_law_is" ["_law_box", "_law_disk", "_law_own"] (spLIs K CDisk pI) := lis_ok D16 T bI erB erS P4 P5 P7 PdB PdR
    have PdI : MakC l.prog w K mg base CX0 1 "Disk" CDisk ["self"] (spDkI CDisk) := dkinit_ok ⟨xmkDisk, maDisk0, miDisk0, xkcDisk⟩ (fun_mk mlDisk0 mcDisk0 mkDisk0) XD (PySem.W.mg_of X G xCDisk) (PySem.W.mg_of X G yx0)
    have PdT : MetC l.prog w K mg base (L2.CX l.prog w) 4 CDisk "settle" ["self"] (spDkT CDisk CC10) := dksettle_ok XD T ⟨⟨maDisk2, miDisk2, mkDisk2⟩, fun_mk mlDisk2 mcDisk2 mkDisk2⟩ PdD
    exact FnOk.tables (law11_fn l17 e17 T bZ erS dIW' dIZ' dZW' ⟨P3, P4, P11, P14, P15, P16, P13, P5, P7, PdI, PdT⟩)
end RS
set_option Elab.async false
open PySem PySem.W PyProof.Rows in
set_option maxRecDepth 100000 in
set_option maxHeartbeats 0 in
theorem PySem.Challenge.cw_runsorts_k11_disks_holds : PySem.Challenge.rw_runsorts_k11_disks.Holds := by
  w_on; o_law; k_head; (case hw => w_witness2)
  k_fill
  refine RS.walk_tabs (l := PySem.Challenge.rw_runsorts_k11_disks) (n := 63) (k := 44) (x := "_law_script") rfl (by decide) rfl ⟨rfl, by decide, by decide⟩ (fun w h Y => PySem.W.km_in_of Y) ?F
  case F =>
    intro w mg fa h KX G hmg tabs
    refine' RS.all_mk tabs KX G hmg ?xCDisk ?xpgDisk ?xhdDisk ?xpoDisk ?xsaDisk ?xmkDisk ?xkcDisk ?xnDisk0 ?xnDisk1 ?xnDisk2 ?xnDisk3 ?xnDisk4 ?xnDisk5 ?maDisk0 ?miDisk0 ?mlDisk0 ?mcDisk0 ?mkDisk0 ?maDisk1 ?miDisk1 ?mlDisk1 ?mcDisk1 ?mkDisk1 ?maDisk2 ?miDisk2 ?mlDisk2 ?mcDisk2 ?mkDisk2 ?maDisk3 ?miDisk3 ?mlDisk3 ?mcDisk3 ?mkDisk3 ?maDisk4 ?miDisk4 ?mlDisk4 ?mcDisk4 ?mkDisk4 ?maDisk5 ?miDisk5 ?mlDisk5 ?mcDisk5 ?mkDisk5 ?maDisk6 ?miDisk6 ?mlDisk6 ?mcDisk6 ?mkDisk6 ?maDisk7 ?miDisk7 ?mlDisk7 ?mcDisk7 ?mkDisk7 ?maDisk8 ?miDisk8 ?mlDisk8 ?mcDisk8 ?mkDisk8 ?maDisk9 ?miDisk9 ?mlDisk9 ?mcDisk9 ?mkDisk9 ?maDisk10 ?miDisk10 ?mlDisk10 ?mcDisk10 ?mkDisk10 ?sg ?scl ?sty ?sbe ?srd ?sga ?sfi ?ohn ?oht ?cg0 ?cc0 ?cy0 ?cg1 ?cc1 ?cy1 ?cg2 ?cc2 ?cy2 ?cg3 ?cc3 ?cy3 ?cg4 ?cc4 ?cy4 ?cg5 ?cc5 ?cy5 ?cg6 ?cc6 ?cy6 ?cg7 ?cc7 ?cy7 ?cg8 ?cc8 ?cy8 ?cg9 ?cc9 ?cy9 ?cg10 ?cc10 ?cy10 ?cg11 ?cc11 ?cy11 ?cg12 ?cc12 ?cy12 ?cg13 ?cc13 ?cy13 ?cg14 ?cc14 ?cy14 ?hg9 ?hk9 ?hs9 ?hd9 ?ha9 ?hm9 ?hv9 ?hS9 ?kc9 ?no9_0 ?ne9_0 ?no9_1 ?ne9_1 ?no9_2 ?ne9_2 ?no9_3 ?ne9_3 ?no9_4 ?ne9_4 ?no9_5 ?ne9_5 ?no9_6 ?ne9_6 ?no9_7 ?ne9_7 ?no9_8 ?ne9_8 ?no9_10 ?ne9_10 ?no9_11 ?ne9_11 ?no9_12 ?ne9_12 ?no9_13 ?ne9_13 ?no9_14 ?ne9_14 ?hg10 ?hk10 ?hs10 ?hd10 ?ha10 ?hm10 ?hv10 ?hS10 ?kc10 ?no10_0 ?ne10_0 ?no10_1 ?ne10_1 ?no10_2 ?ne10_2 ?no10_3 ?ne10_3 ?no10_4 ?ne10_4 ?no10_5 ?ne10_5 ?no10_6 ?ne10_6 ?no10_7 ?ne10_7 ?no10_8 ?ne10_8 ?no10_9 ?ne10_9 ?no10_11 ?ne10_11 ?no10_12 ?ne10_12 ?no10_13 ?ne10_13 ?no10_14 ?ne10_14 ?xE9 ?xE10 ?a0 ?l0 ?e0 ?k0 ?a1 ?l1 ?e1 ?k1 ?a2 ?l2 ?e2 ?k2 ?a3 ?l3 ?e3 ?k3 ?a4 ?l4 ?e4 ?k4 ?a5 ?l5 ?e5 ?k5 ?a6 ?l6 ?e6 ?k6 ?a7 ?l7 ?e7 ?k7 ?a8 ?l8 ?e8 ?k8 ?a9 ?l9 ?e9 ?k9 ?a10 ?l10 ?e10 ?k10 ?a11 ?l11 ?e11 ?k11 ?a12 ?l12 ?e12 ?k12 ?a13 ?l13 ?e13 ?k13 ?a14 ?l14 ?e14 ?k14 ?a15 ?l15 ?e15 ?k15 ?a16 ?l16 ?e16 ?k16 ?a17 ?l17 ?e17 ?k17 ?z0 ?z1 ?z2 ?z3 ?z4 ?z5 ?z6 ?z7 ?z8 ?z9 ?z10 ?z11 ?z12 ?z13 ?z14 ?yx0 ?yx1 ?zzsum ?zzValueError ?rW ?hW ?iW ?nW2 ?rI ?hI ?iI ?nI2 ?rZ ?hZ ?iZ ?nZ2 ?dIW2 ?dIZ2 ?dZW2
    (case xCDisk => k_is)
    (case xpgDisk => k_is)
    (case xhdDisk => k_is)
    (case xpoDisk => k_is)
    (case xsaDisk => k_is)
    (case xmkDisk => k_is)
    (case xkcDisk => k_is)
    (case xnDisk0 => k_is)
    (case xnDisk1 => k_is)
    (case xnDisk2 => k_is)
    (case xnDisk3 => k_is)
    (case xnDisk4 => k_is)
    (case xnDisk5 => k_is)
    (case maDisk0 => k_is)
    (case miDisk0 => k_is)
    (case mlDisk0 => k_is)
    (case mcDisk0 => k_is)
    (case mkDisk0 => k_is)
    (case maDisk1 => k_is)
    (case miDisk1 => k_is)
    (case mlDisk1 => k_is)
    (case mcDisk1 => k_is)
    (case mkDisk1 => k_is)
    (case maDisk2 => k_is)
    (case miDisk2 => k_is)
    (case mlDisk2 => k_is)
    (case mcDisk2 => k_is)
    (case mkDisk2 => k_is)
    (case maDisk3 => k_is)
    (case miDisk3 => k_is)
    (case mlDisk3 => k_is)
    (case mcDisk3 => k_is)
    (case mkDisk3 => k_is)
    (case maDisk4 => k_is)
    (case miDisk4 => k_is)
    (case mlDisk4 => k_is)
    (case mcDisk4 => k_is)
    (case mkDisk4 => k_is)
    (case maDisk5 => k_is)
    (case miDisk5 => k_is)
    (case mlDisk5 => k_is)
    (case mcDisk5 => k_is)
    (case mkDisk5 => k_is)
    (case maDisk6 => k_is)
    (case miDisk6 => k_is)
    (case mlDisk6 => k_is)
    (case mcDisk6 => k_is)
    (case mkDisk6 => k_is)
    (case maDisk7 => k_is)
    (case miDisk7 => k_is)
    (case mlDisk7 => k_is)
    (case mcDisk7 => k_is)
    (case mkDisk7 => k_is)
    (case maDisk8 => k_is)
    (case miDisk8 => k_is)
    (case mlDisk8 => k_is)
    (case mcDisk8 => k_is)
    (case mkDisk8 => k_is)
    (case maDisk9 => k_is)
    (case miDisk9 => k_is)
    (case mlDisk9 => k_is)
    (case mcDisk9 => k_is)
    (case mkDisk9 => k_is)
    (case maDisk10 => k_is)
    (case miDisk10 => k_is)
    (case mlDisk10 => k_is)
    (case mcDisk10 => k_is)
    (case mkDisk10 => k_is)
    (case sg => k_is)
    (case scl => k_is)
    (case sty => k_is)
    (case sbe => k_is)
    (case srd => k_is)
    (case sga => k_is)
    (case sfi => k_is)
    (case ohn => k_is)
    (case oht => k_is)
    (case cg0 => k_is)
    (case cc0 => k_is)
    (case cy0 => k_is)
    (case cg1 => k_is)
    (case cc1 => k_is)
    (case cy1 => k_is)
    (case cg2 => k_is)
    (case cc2 => k_is)
    (case cy2 => k_is)
    (case cg3 => k_is)
    (case cc3 => k_is)
    (case cy3 => k_is)
    (case cg4 => k_is)
    (case cc4 => k_is)
    (case cy4 => k_is)
    (case cg5 => k_is)
    (case cc5 => k_is)
    (case cy5 => k_is)
    (case cg6 => k_is)
    (case cc6 => k_is)
    (case cy6 => k_is)
    (case cg7 => k_is)
    (case cc7 => k_is)
    (case cy7 => k_is)
    (case cg8 => k_is)
    (case cc8 => k_is)
    (case cy8 => k_is)
    (case cg9 => k_is)
    (case cc9 => k_is)
    (case cy9 => k_is)
    (case cg10 => k_is)
    (case cc10 => k_is)
    (case cy10 => k_is)
    (case cg11 => k_is)
    (case cc11 => k_is)
    (case cy11 => k_is)
    (case cg12 => k_is)
    (case cc12 => k_is)
    (case cy12 => k_is)
    (case cg13 => k_is)
    (case cc13 => k_is)
    (case cy13 => k_is)
    (case cg14 => k_is)
    (case cc14 => k_is)
    (case cy14 => k_is)
    (case hg9 => k_is)
    (case hk9 => k_is)
    (case hs9 => k_is)
    (case hd9 => k_is)
    (case ha9 => k_is)
    (case hm9 => k_is)
    (case hv9 => k_is)
    (case hS9 => k_is)
    (case kc9 => k_is)
    (case no9_0 => k_is)
    (case ne9_0 => decide)
    (case no9_1 => k_is)
    (case ne9_1 => decide)
    (case no9_2 => k_is)
    (case ne9_2 => decide)
    (case no9_3 => k_is)
    (case ne9_3 => decide)
    (case no9_4 => k_is)
    (case ne9_4 => decide)
    (case no9_5 => k_is)
    (case ne9_5 => decide)
    (case no9_6 => k_is)
    (case ne9_6 => decide)
    (case no9_7 => k_is)
    (case ne9_7 => decide)
    (case no9_8 => k_is)
    (case ne9_8 => decide)
    (case no9_10 => k_is)
    (case ne9_10 => decide)
    (case no9_11 => k_is)
    (case ne9_11 => decide)
    (case no9_12 => k_is)
    (case ne9_12 => decide)
    (case no9_13 => k_is)
    (case ne9_13 => decide)
    (case no9_14 => k_is)
    (case ne9_14 => decide)
    (case hg10 => k_is)
    (case hk10 => k_is)
    (case hs10 => k_is)
    (case hd10 => k_is)
    (case ha10 => k_is)
    (case hm10 => k_is)
    (case hv10 => k_is)
    (case hS10 => k_is)
    (case kc10 => k_is)
    (case no10_0 => k_is)
    (case ne10_0 => decide)
    (case no10_1 => k_is)
    (case ne10_1 => decide)
    (case no10_2 => k_is)
    (case ne10_2 => decide)
    (case no10_3 => k_is)
    (case ne10_3 => decide)
    (case no10_4 => k_is)
    (case ne10_4 => decide)
    (case no10_5 => k_is)
    (case ne10_5 => decide)
    (case no10_6 => k_is)
    (case ne10_6 => decide)
    (case no10_7 => k_is)
    (case ne10_7 => decide)
    (case no10_8 => k_is)
    (case ne10_8 => decide)
    (case no10_9 => k_is)
    (case ne10_9 => decide)
    (case no10_11 => k_is)
    (case ne10_11 => decide)
    (case no10_12 => k_is)
    (case ne10_12 => decide)
    (case no10_13 => k_is)
    (case ne10_13 => decide)
    (case no10_14 => k_is)
    (case ne10_14 => decide)
    (case xE9 => k_exc)
    (case xE10 => k_exc)
    (case a0 => k_is)
    (case l0 => k_is)
    (case e0 => k_is)
    (case k0 => k_is)
    (case a1 => k_is)
    (case l1 => k_is)
    (case e1 => k_is)
    (case k1 => k_is)
    (case a2 => k_is)
    (case l2 => k_is)
    (case e2 => k_is)
    (case k2 => k_is)
    (case a3 => k_is)
    (case l3 => k_is)
    (case e3 => k_is)
    (case k3 => k_is)
    (case a4 => k_is)
    (case l4 => k_is)
    (case e4 => k_is)
    (case k4 => k_is)
    (case a5 => k_is)
    (case l5 => k_is)
    (case e5 => k_is)
    (case k5 => k_is)
    (case a6 => k_is)
    (case l6 => k_is)
    (case e6 => k_is)
    (case k6 => k_is)
    (case a7 => k_is)
    (case l7 => k_is)
    (case e7 => k_is)
    (case k7 => k_is)
    (case a8 => k_is)
    (case l8 => k_is)
    (case e8 => k_is)
    (case k8 => k_is)
    (case a9 => k_is)
    (case l9 => k_is)
    (case e9 => k_is)
    (case k9 => k_is)
    (case a10 => k_is)
    (case l10 => k_is)
    (case e10 => k_is)
    (case k10 => k_is)
    (case a11 => k_is)
    (case l11 => k_is)
    (case e11 => k_is)
    (case k11 => k_is)
    (case a12 => k_is)
    (case l12 => k_is)
    (case e12 => k_is)
    (case k12 => k_is)
    (case a13 => k_is)
    (case l13 => k_is)
    (case e13 => k_is)
    (case k13 => k_is)
    (case a14 => k_is)
    (case l14 => k_is)
    (case e14 => k_is)
    (case k14 => k_is)
    (case a15 => k_is)
    (case l15 => k_is)
    (case e15 => k_is)
    (case k15 => k_is)
    (case a16 => k_is)
    (case l16 => k_is)
    (case e16 => k_is)
    (case k16 => k_is)
    (case a17 => k_is)
    (case l17 => k_is)
    (case e17 => k_is)
    (case k17 => k_is)
    (case z0 => k_is)
    (case z1 => k_is)
    (case z2 => k_is)
    (case z3 => k_is)
    (case z4 => k_is)
    (case z5 => k_is)
    (case z6 => k_is)
    (case z7 => k_is)
    (case z8 => k_is)
    (case z9 => k_is)
    (case z10 => k_is)
    (case z11 => k_is)
    (case z12 => k_is)
    (case z13 => k_is)
    (case z14 => k_is)
    (case yx0 => k_is)
    (case yx1 => k_is)
    (case zzsum => k_is)
    (case zzValueError => k_is)
    (case rW => rfl)
    (case hW => k_is)
    (case iW => rfl)
    (case nW2 => first | kernel_rfl | rfl)
    (case rI => rfl)
    (case hI => k_is)
    (case iI => rfl)
    (case nI2 => first | kernel_rfl | rfl)
    (case rZ => rfl)
    (case hZ => k_is)
    (case iZ => rfl)
    (case nZ2 => first | kernel_rfl | rfl)
    (case dIW2 => decide)
    (case dIZ2 => decide)
    (case dZW2 => decide)
