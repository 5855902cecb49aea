import PyProof.Rows.All
import Wide.All
import OpenK.AllK
import Wide.FinOn
import HandS.ForMost
import HandS.AnyAll
import HandS.GenList
import HandS.IsInst
import HandS.Zip
import HandS.Deep
import HandS.StrMore
import HandS.Codes
import HandS.FStr
import KE.KDictZip
import HandS.More
import HandS.Iter
import HandS.Conv
import HandS.Text
import PyProof.AutoSeq1
import HandS.EndTab
import PySem.Challenge.RW_runsorts_k21_written_and_read
set_option Elab.async false
set_option maxRecDepth 100000
set_option maxHeartbeats 4000000
namespace GX
open PySem PySem.Spec PyProof.Rows L2

/-- the table of a def's code objects, whatever has come into it -/
def TabE (P : Addr) : Heap → Prop := fun g =>
  ∃ rs : Array Value, g.get? P = some { cls := .none, data := .fields rs } ∧ TriplesOk rs.toList
def Tab (H : Hp) (P : Addr) : Prop := H P = some (.ext (TabE P))
theorem tabE_stable {P : Addr} : ∀ g1 g2 : Heap, TabE P g1 → (∀ o, g1.get? P = some o → g2.get? P = some o) → TabE P g2 :=
  fun _ _ ⟨rs, e, t⟩ k => ⟨rs, k _ e, t⟩

section
variable {X : Cx} {pins : List (Addr × Obj)} {σ : L2.St} {H : Hp} {s : Shared}

/-- the table has grown; what else stood is kept -/
theorem tab_grown {P : Addr} {rs : Array Value} {g : Heap} {G : Array GenState} {dd : Drawn} {tk : Nat}
    (I : Inv X pins σ H s) (hP : Tab H P)
    (kp : ∀ b o, b ≠ P → s.heap.get? b = some o → g.get? b = some o)
    (at_ : g.get? P = some { cls := .none, data := .fields rs }) (ht : TriplesOk rs.toList) (hG : AllBare G) :
    Inv X pins σ H { s with heap := g, gens := G, drawn := dd, toks := tk } := by
  have free_ne : ∀ b, H b = none → b ≠ P := fun b e z => by
    subst z
    have q : H b = some (.ext (TabE b)) := hP
    rw [q] at e
    cases e
  have own_ne : ∀ b c, H b = some (.own c) → b ≠ P := fun b c e z => by
    subst z
    have q : H b = some (.ext (TabE b)) := hP
    rw [q] at e
    cases e
  refine I.step (g' := G) (d' := dd) (ch := []) (fun b hb => by cases hb) (fun b o _ _ _ e n => kp b o (free_ne b n) e)
    (fun b o _ _ _ e n => ⟨o.slots, kp b o (free_ne b n) e⟩) (fun _ _ _ _ n => n) (fun b o _ e => ?_)
    (fun _ _ e => e) (fun _ _ _ e => e) (fun b qs e => ⟨#[], by rw [e, Array.append_empty]⟩) (fun m hm => ?_) (fun b u e => ?_) hG
  · by_cases z : b = P
    · subst z
      exact ⟨_, at_⟩
    · exact ⟨o, kp b o z e⟩
  · obtain ⟨o, es, ep, ho, r⟩ := hm
    exact ⟨o, es, ep, kp _ o (free_ne _ I.free) ho, r⟩
  · by_cases z : b = P
    · subst z
      have q : H b = some (.ext (TabE b)) := hP
      rw [q] at e
      cases e
      exact ⟨⟨rs, at_, ht⟩, ⟨_, at_⟩, tabE_stable⟩
    · refine (I.hok b u e).stay (fun c o hc q => kp c o ?_ q) (fun _ q => q) (fun _ _ q => q)
      rcases hc with y | y
      · rw [y]
        exact z
      · exact own_ne c b y

/-- the context of a generator expression's element -/
abbrev genCx (X : Cx) (B : Around) (s0 : Shared) (H0 : Hp) (ce : Env) (fp : List Addr) (pn : List (Addr × Obj)) : Cx :=
  { X with A := B, s_0 := s0, H_0 := H0, env := ce, outer := X.stack, stack := ce :: X.stack, ex := fp, fn := fun _ => false, pn := pn, xe := fun _ _ => False }
/-- its environment -/
abbrev gEnv (X : Cx) (sc : Scope) (C : Addr) (cv : Value) : Env :=
  genEnv sc (cloFrom X.env.cells sc.names []) C cv builtinsNs X.env

theorem gen_start {B : Around} {sc : Scope} {own : List (Str × Nat)} {fp : List Addr} {cv : Value} {g : Heap} {go fo : Obj} {m : Str → Option Value} {gs : GenState} {tk : Nat}
    (I : Inv X pins σ H s) (ok : BlkOk X.N X.env.scope sc own) (nocell : ∀ y ∈ sc.names, y.2 ≠ .cell) (hN : X.N.Nodup)
    (hfp : ∀ b ∈ fp, FpOk X pins H b ∧ b < s.heap.objs.size) (hB : X.calm = true → B.handled = none)
    (hF : B.frames = some (gEnv X sc s.heap.objs.size cv :: X.stack))
    (hn : g.Ns s.heap.objs.size m) (hs : Heap.SameBut s.heap.objs.size (s.heap.push fo) g)
    (hgo : ∀ v, go.data ≠ .cell v) (hgp : (g.push go).get? g.objs.size = some go) (hgs : gs.bare = true) :
    Inv (genCx X B s H (gEnv X sc s.heap.objs.size cv) fp [(g.objs.size, go)]) [] (wipe σ (own.map (·.2))) H
      { s with gens := s.gens.push gs, toks := tk, heap := g.push go } := by
  have caught : ∀ y ∈ sc.names, y.2 = .free → ∃ c, X.env.cells.lookup y.1 = some c := fun y hy e =>
    (ok.free y hy e).elim (fun z => I.ok.has _ (.inl z)) (fun z => I.ok.has _ (.inr z))
  have gsz : g.objs.size = s.heap.objs.size + 1 := by rw [hs.1, Heap.size_push]
  have kp1 : ∀ b o, s.heap.get? b = some o → g.get? b = some o := fun b o e =>
    hs.extBut b o (Nat.ne_of_lt (Heap.lt_size e)) (Heap.get?_push_of_some _ e)
  have kp : ∀ b o, s.heap.get? b = some o → (g.push go).get? b = some o := fun b o e => Heap.get?_push_of_some _ (kp1 b o e)
  have down : ∀ {y c}, (gEnv X sc s.heap.objs.size cv).cells.lookup y = some c → X.env.cells.lookup y = some c ∧ c < s.heap.objs.size := fun {y c} e => by
    have e' : (cloFrom X.env.cells sc.names []).lookup y = some c := e
    rcases cloFrom_mem (PySem.mem_of_lookup e') with q | ⟨q1, q2⟩
    · cases q
    · obtain ⟨c', hc'⟩ := caught _ q1 rfl
      have hc2 : X.env.cells.lookup y = some c' := hc'
      rw [hc2] at q2
      have q3 : c = c' := q2
      subst q3
      obtain ⟨v, z⟩ := I.cell _ _ hc2
      exact ⟨hc2, z.lt⟩
  have up : ∀ {y}, sc.names.lookup y = some .free → ∃ c, (gEnv X sc s.heap.objs.size cv).cells.lookup y = some c ∧ X.env.cells.lookup y = some c := fun {y} hl => by
    obtain ⟨c, e⟩ := mem_lookup (cloFrom_has (cells := X.env.cells) (acc := []) (PySem.mem_of_lookup hl))
    exact ⟨c, e, (down e).1⟩
  have young : ∀ b, b < s.heap.objs.size → b ≠ s.heap.objs.size := fun b hb => Nat.ne_of_lt hb
  have okG : (genCx X B s H (gEnv X sc s.heap.objs.size cv) fp [(g.objs.size, go)]).Ok := by
    refine ⟨I.ok.mod, ok.kind, I.ok.glob, rfl, Nat.le_refl _, fun y z c e1 e2 => I.ok.inj y z c (down e1).1 (down e2).1, fun y hy => ?_,
      (fun y c z _ => nomatch z), hB, hF, .inr ⟨rfl, rfl⟩, fun b hb => ⟨young b (hfp b hb).2, fun y c e z => ?_⟩, I.bs, Nat.le_trans I.ok.bsz I.sz,
      fun b o e hb => ?_, fun b hb z => ?_, I.stack, I.stkFree⟩
    · rcases hy with z | z
      · exact absurd rfl (nocell _ (PySem.mem_of_lookup z))
      · obtain ⟨c, e, _⟩ := up z
        exact ⟨c, e⟩
    · exact (hfp b hb).1.2.2.2.2.1 y c (down e).1 z
    · rcases (hfp b hb).1.2.2.2.1 with z | z
      · exact I.ok.noex b o e z
      · exact Nat.lt_irrefl _ (Nat.lt_of_lt_of_le (Heap.lt_size e) (Nat.le_trans I.ok.bsz z))
    · rcases List.mem_cons.mp (I.stkSub b z) with y | y
      · exact (hfp b hb).1.2.1 y
      · exact (hfp b hb).1.2.2.1 y
  refine ⟨okG, rfl, I.bare.push hgs, Un.kept kp, ⟨m, ?_, fun i y av e1 e2 e3 => ?_⟩, fun y c e => ?_, I.hok.fresh (Nat.le_refl _), fun y c e => I.freeC y c (down e).1, fun p hp => ?_, I.hok.kept kp, by rw [wipe_length]; exact I.len⟩
  · exact hn.push _
  · obtain ⟨e2, ne⟩ := wipe_some e2
    have notOwn : ∀ k, sc.names.lookup y = some k → k = .local ∨ k = .cell → False := fun k hk hk' => by
      rcases ok.own _ (PySem.mem_of_lookup hk) hk' with q | q
      · obtain ⟨p, hp, hpy⟩ := List.mem_map.mp q
        have e4 := ok.ix p hp
        have hpy' : p.1 = y := hpy
        rw [hpy'] at e4
        exact ne (List.mem_map.mpr ⟨p, hp, nodup_ix hN e4 e1⟩)
      · exact q (List.mem_of_getElem? e1)
    have hfree : sc.names.lookup y = some .free := by
      rcases e3 with z | z | z
      · exact (notOwn _ z (.inl rfl)).elim
      · exact (notOwn _ z (.inr rfl)).elim
      · exact z
    obtain ⟨m', _, hl⟩ := I.loc
    have q0 := ok.free _ (PySem.mem_of_lookup hfree) rfl
    have hv : Vis X.env.scope y := q0.elim (fun z => .inr (.inl z)) (fun z => .inr (.inr z))
    obtain ⟨u, r, q⟩ := hl i y av e1 e2 hv
    obtain ⟨c, h1, h2⟩ := up hfree
    refine ⟨u, r, .inr ⟨.inr hfree, c, h1, ?_⟩⟩
    rcases q with ⟨k, _⟩ | ⟨_, c', e', z⟩
    · have k' : X.env.scope.names.lookup y = some .local := k
      rcases q0 with z | z
      · have z' : X.env.scope.names.lookup y = some .cell := z
        rw [z'] at k'
        cases k'
      · have z' : X.env.scope.names.lookup y = some .free := z
        rw [z'] at k'
        cases k'
    · rw [h2] at e'
      cases e'
      exact z.keeps kp
  · obtain ⟨v, z⟩ := I.cell y c (down e).1
    exact ⟨v, z.keeps kp⟩
  · have e : p = (g.objs.size, go) := by simpa using hp
    subst e
    refine ⟨hgp, I.hok.fresh (by rw [gsz]; exact Nat.le_succ _), ?_, fun z => ?_, hgo⟩
    · show g.objs.size ≠ s.heap.objs.size
      rw [gsz]
      exact Nat.succ_ne_self _
    · have z' : g.objs.size ∈ frs X.stack := z
      obtain ⟨_, o, ho, _⟩ := I.stack.mem z'
      have q := Heap.lt_size ho
      rw [gsz] at q
      exact absurd q (Nat.not_lt.mpr (Nat.le_succ _))
end
end GX
set_option Elab.async false
set_option maxRecDepth 100000
set_option maxHeartbeats 4000000
namespace GX
open PySem PySem.Spec PyProof.Rows L2

/-- what is known when an element has been handed out: a truth; where it is true, the generator goes on at any state with the same heap -/
def YAll (Y : Cx) (τ : L2.St) (Qf : Hp → Prop) : Protocol := fun _ _ v s kap =>
  ∃ (b : Bool) (H : Hp), v = .bool b ∧ Inv Y [] τ H s ∧ (b = false → Qf H) ∧
    (b = true → ∀ s2 : Shared, s2.heap = s.heap → s2.os = s.os → AllBare s2.gens → kap (.send .none) s2)
abbrev RAll (Y : Cx) (τ : L2.St) (Qt : Hp → Prop) : Nat → Shared → Shared → Prop := fun _ _ s =>
  ∃ H : Hp, Inv Y [] τ H s ∧ Qt H
theorem inv_samehp {Y : Cx} {pins : List (Addr × Obj)} {τ : L2.St} {H : Hp} {s s2 : Shared} (I : Inv Y pins τ H s) (h : s2.heap = s.heap) (ho : s2.os = s.os) (hb : AllBare s2.gens) : Inv Y pins τ H s2 := by
  have J := I.call' (s' := s2) (H' := H) (ch := []) ho (by rw [h]; exact Un.refl) (by rw [h]; exact I.hok) hb (fun b z => by cases z)
  exact J

section
variable {Y : Cx} {B : Around} {elt tg iter : Expr} {sc : Scope} {gpos : Pos} {it : Addr} {fp : List Addr} {tn : Nat → Heap → Prop} {J : It} {g : TG} {te : TE} {vs : List Nat}

/-- one turn of the walk that a generator expression's elements pass -/
def Step (J : It) (g : TG) (te : TE) (vs : List Nat) (τ : L2.St) (Qt Qf : Hp → Prop) (W : Nat → Nat → Hp → Prop) : Prop :=
  ∀ i m H, W i m H → (J.stop i H ∧ Qt H) ∨ (J.go i H ∧ ∀ x H', J.yld i H x H' → g x τ H' fun τ2 H2 => wipe τ2 vs = τ ∧
    te τ2 H2 fun y H3 => ∃ b, y = V.bl b ∧ (b = true → ∃ m', m' < m ∧ W (i + 1) m' H3) ∧ (b = false → Qf H3))

theorem seg_all {τ : L2.St} {Qt Qf : Hp → Prop} {W : Nat → Nat → Hp → Prop}
    (hA : Y.A = B.over (.compLoop (.GeneratorExp elt [⟨tg, iter, [], 0⟩] sc gpos) 0 (.ref it) .none Y.env) [])
    (hc : Y.calm = true) (hco : Y.env.scope.isCoroutine = false) (hfp : ∀ b ∈ fp, b ∈ Y.ex) (hpn : ∀ p ∈ Y.pn, p.1 ∉ fp)
    (xe : Y.xe = fun _ _ => False)
    (pg : PG Y tg g) (pe : PE Y elt te) (T : Turn Y.prog Y.w Y.K tg J fp it tn) (turn : Step J g te vs τ Qt Qf W) (hτ : ∀ τ2, wipe τ2 vs = τ → ∀ (k : Nat) v, τ[k]? = some (some v) → τ2[k]? = some (some v)) :
    ∀ (n i m : Nat) (s0 s : Shared) (H : Hp), m < n → Inv Y [] τ H s → tn i s.heap → (∀ b ∈ fp, H b = none) → W i m H →
      Seg (model Y.prog Y.w) B (fun n s₀ r s₁ => r = .ok .next ∧ RAll Y τ Qt n s₀ s₁) (YAll Y τ Qf) n s0
        (.compLoop (.GeneratorExp elt [⟨tg, iter, [], 0⟩] sc gpos) 0 (.ref it) .none Y.env)
        ((model Y.prog Y.w).den (.compLoop (.GeneratorExp elt [⟨tg, iter, [], 0⟩] sc gpos) 0 (.ref it) .none Y.env)) [] s := by
  intro n
  induction n with
  | zero => intro i m s0 s H hm; exact absurd hm (Nat.not_lt_zero _)
  | succ n ih =>
    intro i m s0 s H hm I st nf w0
    have fpo : ∀ {pins' : List (Addr × Obj)} {τ' : L2.St} {H' : Hp} {s' : Shared}, Inv Y pins' τ' H' s' → (∀ p ∈ pins', p.1 ∉ fp) → (∀ b ∈ fp, H' b = none) → ∀ b ∈ fp, FpOk Y pins' H' b := fun {pins' τ' H' s'} I' hp hn b hb =>
      ⟨hn b hb, (I'.ok.exf b (hfp b hb)).1, I'.ok.exfs b (hfp b hb), .inl (hfp b hb), fun x c e => (I'.ok.exf b (hfp b hb)).2 x c e, fun p q z => by
        rcases List.mem_append.mp q with q | q
        · exact hpn p q (by rw [z]; exact hb)
        · exact hp p q (by rw [z]; exact hb)⟩
    show Seg _ B _ _ _ s0 _ ((compTurn (.GeneratorExp elt [⟨tg, iter, [], 0⟩] sc gpos) 0 (.ref it) .none Y.env).onRaise (leaving Y.env)) [] s
    rw [compTurn_gen, Sem.onRaise_eq_wrap]
    apply seg_bind_wrap
    apply wpAny_standAt
    apply seg_bind_wrap
    rw [← hA]
    rcases turn i m H w0 with ⟨stop, q⟩ | ⟨go, step⟩
    · refine wpAny_mono (T.done Y rfl rfl rfl hc i [] s τ H (fun _ _ => False) I (fpo I (fun _ z => by cases z) nf) st stop) (fun r s1 h1 => ?_) (fun _ _ z => z.elim)
      obtain ⟨hr, I1⟩ := h1
      subst hr
      exact seg_end (.ok .next) ⟨rfl, H, I1, q⟩
    · refine wpAny_mono (T.item Y rfl rfl rfl hc i [] s τ H (fun _ _ => False) I (fpo I (fun _ z => by cases z) nf) st go) (fun r s1 h1 => ?_) (fun _ _ z => z.elim)
      obtain ⟨u, hr, h1⟩ := h1
      subst hr
      apply seg_bind_wrap
      rw [← hA]
      refine wpAny_mono h1 (fun _ s2 h2 => ?_) (fun _ _ z => z.elim)
      obtain ⟨x, H2, I2, r2, y2, st2, n2⟩ := h2
      have I2' := I2.pinned (fpo I2 (fun _ z => by cases z) n2) (T.obj _ _ st2)
      apply seg_bind_wrap
      rw [← hA]
      refine wpAny_mono (pg.run _ s2 τ H2 x u _ I2' r2 (step x H2 y2)) (fun _ s3 h3 => ?_) (fun e s3 z => by rw [xe] at z; exact z.elim)
      obtain ⟨τ3, H3, I3, hw3, q3⟩ := h3
      have hy : ∀ v, yieldOut Y.env v = yieldValue v := fun v => by simp only [yieldOut, hco, Bool.false_eq_true, if_false]
      simp only [List.forIn_nil, pure_bind, if_true, hy]
      rw [Sem.bind_eq_wrap', Sem.bind_eq_wrap', Sem.wrap_wrap, Sem.wrap_wrap]
      apply seg_wrap
      rw [← hA]
      refine wpAny_mono (pe.run _ s3 τ3 H3 _ I3 q3) (fun v s4 h4 => ?_) (fun e s4 z => by rw [xe] at z; exact z.elim)
      obtain ⟨yv, H4, I4, r4, b, rfl, ht, hf⟩ := h4
      have hv : v = .bool b := r4
      subst hv
      have kp : ∀ b' ∈ fp, ∀ o, s2.heap.get? b' = some o → s4.heap.get? b' = some o ∧ H4 b' = none := fun b' hb o e => by
        have z := I4.pin (b', o) (List.mem_append_right _ (List.mem_append_right _ (mem_pinsAt hb e)))
        exact ⟨z.1, z.2.1⟩
      have J4 : Inv Y [] τ H4 s4 := (I4.unpinned (pins := [])).weak (by rw [← hw3, wipe_length]) fun k v e => hτ τ3 hw3 k v e
      refine seg_at (seg_yield rfl rfl rfl ⟨b, H4, rfl, J4, hf, fun hb s5 e5 o5 b5 => ?_⟩)
      obtain ⟨m', hm', w'⟩ := ht hb
      refine seg_again rfl (ih (i + 1) m' s5 s5 H4 (by omega) (inv_samehp J4 e5 o5 b5) ?_ (fun b' hb' => ?_) w')
      · rw [e5]
        exact T.keep _ _ _ st2 fun b' hb' o e => (kp b' hb' o e).1
      · obtain ⟨o, e, _⟩ := T.obj _ _ st2 b' hb'
        exact (kp b' hb' o e).2
end
end GX
set_option Elab.async false
set_option maxRecDepth 100000
set_option maxHeartbeats 4000000
namespace GX
open PySem PySem.Spec PyProof.Rows L2

theorem seg_all_start {P : Program} {w : World} {K : PySem.W.Frag} {B : Around} {R : GenEnd} {Yp : Protocol} {n : Nat} {s0 s : Shared} {elt tg iter : Expr} {sc : Scope} {gpos : Pos} {it : Addr} {fp : List Addr} {tn : Nat → Heap → Prop} {J : It} {ce : Env}
    (T : Turn P w K tg J fp it tn) (st : tn 0 s.heap)
    (loop : Seg (model P w) B R Yp n s0 (.compLoop (.GeneratorExp elt [⟨tg, iter, [], 0⟩] sc gpos) 0 (.ref it) .none ce)
      ((model P w).den (.compLoop (.GeneratorExp elt [⟨tg, iter, [], 0⟩] sc gpos) 0 (.ref it) .none ce)) [] s) :
    Seg (model P w) B R Yp n s0 (.compStart (.GeneratorExp elt [⟨tg, iter, [], 0⟩] sc gpos) 0 (.ref it) .none ce)
      ((model P w).den (.compStart (.GeneratorExp elt [⟨tg, iter, [], 0⟩] sc gpos) 0 (.ref it) .none ce)) [] s := by
  show Seg _ B _ _ _ s0 _ ((compStart (.GeneratorExp elt [⟨tg, iter, [], 0⟩] sc gpos) 0 (.ref it) .none ce).onRaise (leaving ce)) [] s
  unfold compStart
  rw [Sem.onRaise_eq_wrap]
  show Seg _ B _ _ _ s0 _ ((ask >>= _).wrap _ _ _ _) [] s
  apply seg_bind_wrap
  apply wpAny_askSetting
  split
  · exact seg_again rfl loop
  · apply seg_bind_wrap
    apply wpAny_rule
    show Seg _ B _ _ _ s0 _ ((standAt iter.pos >>= _).wrap _ _ _ _) [] s
    apply seg_bind_wrap
    apply wpAny_standAt
    apply seg_bind_wrap
    exact T.self _ 0 s _ _ st (seg_again rfl loop)

section
variable {Y : Cx} {A : Around} {a : Addr} {g : Nat} {go : Obj} {τ : L2.St} {Qt Qf : Hp → Prop}
theorem code_all {R : Result → Shared → Prop} (hh : A.handled = none) (hroom : A.depth < recursionLimit) (hpin : (a, go) ∈ Y.pn) (hgen : ∀ h : Heap, h.get? a = some go → h.IsGen a g)
    (hT : ∀ s H, Inv Y [] τ H s → Qt H → R (.ok (.ret (.bool true))) s) (hF : ∀ s H, Inv Y [] τ H s → Qf H → R (.ok (.ret (.bool false))) s) :
    ∀ (n : Nat) (s : Shared) (gs : GenState), s.heap.IsGen a g → s.heap.NoLimit → AllBare s.gens → s.gens[g]? = some gs →
      (∀ s2 : Shared, s2.heap = s.heap → s2.os = s.os → AllBare s2.gens →
        gs.Goes (model Y.prog Y.w) A.in1.in1 (fun n s₀ r s₁ => r = .ok .next ∧ RAll Y τ Qt n s₀ s₁) (YAll Y τ Qf) n (.send .none) s2) →
      codeAny (model Y.prog Y.w) A (.builtin "all.loop" ⟨[.ref a], []⟩) R s := by
  intro n
  induction n with
  | zero =>
    intro s gs hg hl hb hgs hgo
    refine codeAny_builtin F.entry_all_loop ?_
    rw [Around.under_plainId F.plain_all_loop _]
    show wpAny _ A.in1 (pyNext (.ref a) >>= _) _ _ s
    refine wpAny_bind (GenW.wpAny_gsz (n := g + 1) (Array.getElem?_eq_some_iff.mp hgs).1 (wpAny_pyNext_genexpQ (A := A.in1) (P := RAll Y τ Qt) hh hl hroom hg hgs (hgo _ rfl rfl (allBare_setGen hb rfl)) (fun v s1 gs' hb' hv hsz => ?_) (fun s1 hp h' hk hsz => ?_)))
    · obtain ⟨b, H, rfl, I, hf, ht⟩ := hv
      apply wpAny_bind
      apply wpAny_holding
      apply wpAny_truthy_bool
      apply wpAny_bind
      apply wpAny_letGo
      cases b with
      | true => exact (ht rfl s1 rfl rfl I.bare).elim
      | false =>
        simp only [Bool.false_eq_true, if_false]
        apply wpAny_bind
        apply wpAny_rule
        apply wpAny_pure
        exact hF _ H (inv_samehp I rfl rfl (allBare_setGen I.bare hb')) (hf rfl)
    · obtain ⟨H, I, q⟩ := hp
      apply wpAny_bind
      apply wpAny_rule
      apply wpAny_pure
      have I2 := inv_samehp (s2 := s1.setGen g .finished) I rfl rfl (allBare_setGen I.bare rfl)
      exact hT _ H (I2.kept (t' := (s1.setGen g .finished).toks) hk) q
  | succ n ih =>
    intro s gs hg hl hb hgs hgo
    refine codeAny_builtin F.entry_all_loop ?_
    rw [Around.under_plainId F.plain_all_loop _]
    show wpAny _ A.in1 (pyNext (.ref a) >>= _) _ _ s
    refine wpAny_bind (GenW.wpAny_gsz (n := g + 1) (Array.getElem?_eq_some_iff.mp hgs).1 (wpAny_pyNext_genexpQ (A := A.in1) (P := RAll Y τ Qt) hh hl hroom hg hgs (hgo _ rfl rfl (allBare_setGen hb rfl)) (fun v s1 gs' hb' hv hsz => ?_) (fun s1 hp h' hk hsz => ?_)))
    · obtain ⟨b, H, rfl, I, hf, ht⟩ := hv
      apply wpAny_bind
      apply wpAny_holding
      apply wpAny_truthy_bool
      apply wpAny_bind
      apply wpAny_letGo
      cases b with
      | true =>
        simp only [if_true]
        apply wpAny_pure
        refine ⟨plainId_quiet F.plain_all_loop _, ih _ gs' (hgen _ (I.pin (a, go) (List.mem_append_left _ hpin)).1) I.nolimit (allBare_setGen I.bare hb') (setGen_at ?_) fun s2 e1 e2 e3 => ht rfl s2 e1 e2 e3⟩
        rw [GenW.setGen_size] at hsz
        exact hsz
      | false =>
        simp only [Bool.false_eq_true, if_false]
        apply wpAny_bind
        apply wpAny_rule
        apply wpAny_pure
        exact hF _ H (inv_samehp I rfl rfl (allBare_setGen I.bare hb')) (hf rfl)
    · obtain ⟨H, I, q⟩ := hp
      apply wpAny_bind
      apply wpAny_rule
      apply wpAny_pure
      have I2 := inv_samehp (s2 := s1.setGen g .finished) I rfl rfl (allBare_setGen I.bare rfl)
      exact hT _ H (I2.kept (t' := (s1.setGen g .finished).toks) hk) q
end
end GX
set_option Elab.async false
set_option maxRecDepth 100000
set_option maxHeartbeats 4000000
namespace GX
open PySem PySem.Spec PyProof.Rows L2

section
variable {X : Cx} {pins : List (Addr × Obj)} {σ : L2.St} {H : Hp} {s : Shared}

/-- a generator expression has been made, ready to be walked, in the state s5; what stood ahead of its frame: s4 -/
structure Ready (X : Cx) (pins : List (Addr × Obj)) (σ : L2.St) (own : List (Str × Nat)) (sc : Scope) (elt tg iter : Expr) (gpos : Pos) (J : It) (H1 : Hp) (a : Addr) (s5 : Shared)
    (s4 : Shared) (cv : Value) (g : Nat) (go : Obj) (it : Addr) (fp : List Addr) (tn : Nat → Heap → Prop) : Prop where
  outer : Inv X pins σ H1 s4
  fps : ∀ b ∈ fp, FpOk X pins H1 b ∧ b < s4.heap.objs.size
  turn : Turn X.prog X.w X.K tg J fp it tn
  st : tn 0 s5.heap
  inner : ∀ B : Around, (X.calm = true → B.handled = none) → B.frames = some (gEnv X sc s4.heap.objs.size cv :: X.stack) →
    Inv (genCx X B s4 H1 (gEnv X sc s4.heap.objs.size cv) fp [(a, go)]) [] (wipe σ (own.map (·.2))) H1 s5
  gen : ∀ h : Heap, h.get? a = some go → h.IsGen a g
  at_ : s5.heap.get? a = some go
  old : a ∉ fp
  gs : s5.gens[g]? = some (.fresh (.compStart (.GeneratorExp elt [⟨tg, iter, [], 0⟩] sc gpos) 0 (.ref it) .none (gEnv X sc s4.heap.objs.size cv)))
  lim : s5.heap.NoLimit
  bare : AllBare s5.gens

theorem gx_make {c P : Addr} {own : List (Str × Nat)} {sc : Scope} {elt tg iter : Expr} {gpos : Pos} {wi : TI} {k : Nat} {R : It → Hp → Prop} {Q' : Value → Shared → Prop}
    (hr : Room k X.A) (TB : GxR.TabB X.base X.mg c P) (hcode : X.env.code = .ref c) (hN : X.N.Nodup)
    (ok : BlkOk X.N X.env.scope sc own) (nocell : ∀ y ∈ sc.names, y.2 ≠ .cell) (dot : sc.names.lookup (".0" : Str) = some NameKind.local) (hco : sc.isCoroutine = false)
    (hi : PI X tg iter wi) (hs : ∀ v, genFold iter X.env v = pure v)
    (I : Inv X pins σ H s) (h : wi σ H fun J H1 => Tab H1 P ∧ R J H1)
    (hQ : ∀ J H1 a s5 s4 cv g go it fp tn, R J H1 → Ready X pins σ own sc elt tg iter gpos J H1 a s5 s4 cv g go it fp tn → Q' (.ref a) s5) :
    wpAny (model X.prog X.w) X.A (eval (.GeneratorExp elt [⟨tg, iter, [], 0⟩] sc gpos) X.env) Q' X.xe s := by
  have caught : ∀ y ∈ sc.names, y.2 = .free → ∃ c, X.env.cells.lookup y.1 = some c := fun y hy e =>
    (ok.free y hy e).elim (fun z => I.ok.has _ (.inl z)) (fun z => I.ok.has _ (.inr z))
  refine wpAny_GeneratorExp_make hco (closure_ok caught) nocell dot ok.kind (by have := hr.dp; omega) ?_ hs
  refine thn (hi.run pins s σ H _ I h) fun xv s1 h1 => thn h1 fun itv s2 h2 => ?_
  obtain ⟨it, fp, tn, J, H2, rfl, I2, T, st2, f2, hT, hR⟩ := h2
  obtain ⟨⟨rs, hPs, ht⟩, _, _⟩ := I2.hok P _ hT
  have cd : PySem.W.CodeHd s2.heap c P := TB.code.keeps I2.bk
  refine ⟨I2.nolimit, ?_⟩
  have fsz : ∀ b ∈ fp, b < s2.heap.objs.size := fun b hb => by
    obtain ⟨o, e, _⟩ := T.obj _ _ st2 b hb
    exact Heap.lt_size e
  have neP : ∀ b ∈ fp, b ≠ P := fun b hb z => by
    have q := (f2 b hb).1
    have q2 : H2 P = some (.ext (TabE P)) := hT
    rw [z, q2] at q
    cases q
  have cont : ∀ (cv : Value) (s4 : Shared), Inv X pins σ H2 s4 → (∀ b o, b ≠ P → s2.heap.get? b = some o → s4.heap.get? b = some o) → s2.heap.objs.size ≤ s4.heap.objs.size →
      wpAny (model X.prog X.w) X.A (builtinsFor X.env.globals X.env.builtins) (fun bi s₄ => ∀ h', h'.Ns s₄.heap.objs.size (fun y => if y = ".0" then some (Value.ref it) else none) →
        Heap.SameBut s₄.heap.objs.size (s₄.heap.push { cls := .type "frame", data := .dict #[] }) h' →
          Q' (.ref h'.objs.size) { s₄ with
            gens := s₄.gens.push (.fresh (.compStart (.GeneratorExp elt [⟨tg, iter, [], 0⟩] sc gpos) 0 (.ref it) .none (genEnv sc (cloFrom X.env.cells sc.names []) s₄.heap.objs.size cv bi X.env))),
            toks := s₄.toks + 1 + 1 + 1,
            heap := h'.push { cls := .type "generator", data := .fields #[.int s₄.gens.size 0, .str "<genexpr>" (s₄.toks + 1), .str (X.env.qual ++ "<genexpr>") (s₄.toks + 1 + 1)] } }) X.xe s4 := by
    intro cv s4 I4 kp sz
    obtain ⟨bm, ob, e1, e2, e3, e4, e5, e6, e7, e8⟩ := TB.bm
    refine wpAny_builtinsFor (m := X.mg) (by rw [I4.ok.glob]; exact I4.mod.glob.keeps I4.bk) e1 e2 (I4.bk _ _ e5) e6 e7 e8 ?_
    intro h' hn' hs'
    have hsz : h'.objs.size = s4.heap.objs.size + 1 := by rw [hs'.1, Heap.size_push]
    have kp4 : ∀ b o, s4.heap.get? b = some o → (h'.push { cls := .type "generator", data := .fields #[.int s4.gens.size 0, .str "<genexpr>" (s4.toks + 1), .str (X.env.qual ++ "<genexpr>") (s4.toks + 1 + 1)] }).get? b = some o := fun b o e =>
      Heap.get?_push_of_some _ (hs'.extBut b o (Nat.ne_of_lt (Heap.lt_size e)) (Heap.get?_push_of_some _ e))
    have fok : ∀ b ∈ fp, FpOk X pins H2 b ∧ b < s4.heap.objs.size := fun b hb => ⟨f2 b hb, Nat.lt_of_lt_of_le (fsz b hb) sz⟩
    refine hQ J H2 h'.objs.size _ s4 cv s4.gens.size { cls := .type "generator", data := .fields #[.int s4.gens.size 0, .str "<genexpr>" (s4.toks + 1), .str (X.env.qual ++ "<genexpr>") (s4.toks + 1 + 1)] } it fp tn hR
      ⟨I4, fok, T, ?_, fun B hB hF => gen_start I4 ok nocell hN fok hB hF hn' hs' (fun v z => by cases z) (Heap.get?_push_size _ rfl) rfl, fun h e => ⟨_, _, _, e, rfl, rfl, rfl⟩, Heap.get?_push_size _ rfl, fun z => ?_, Array.getElem?_push_size .., I4.nolimit.keeps kp4, I4.bare.push rfl⟩
    · refine T.keep _ _ _ st2 fun b hb o e => kp4 b o (kp b o (neP b hb) e)
    · have q := (fok _ z).2
      rw [hsz] at q
      exact absurd q (Nat.not_lt.mpr (Nat.le_succ _))
  cases hf : codeAmong gpos rs.toList with
  | none =>
    refine wpAny_genexprCodeX hcode (cd.code hPs ht) (cd.tab hPs) hf fun c' h' tk hx hge hlt hco' _ htab' _ => ?_
    obtain ⟨o1, vs, f1, tf, fl, tg', inF, tx, tt, op, _, _, _, _, _, _, _, _, _, htr, _⟩ := hco'
    exact cont _ { s2 with heap := h', toks := tk } (tab_grown (tk := tk) (dd := s2.drawn) (G := s2.gens) I2 hT (fun b o hb e => hx b o hb e) htab'.2 htr I2.bare) (fun b o hb e => hx b o hb e) (Nat.le_trans hge (Nat.le_of_lt hlt))
  | some cv =>
    refine wpAny_genexprCode_hit hcode (cd.code hPs ht) hf ?_
    exact cont cv s2 I2 (fun b o _ e => e) (Nat.le_refl _)

/-- all(e for x in xs): J what is walked; W by the turn and a measure -/
def tAll (P : Addr) (wi : TI) (g : TG) (te : TE) (vs : List Nat) : TE := fun σ H Q => wi σ H fun J H1 => Tab H1 P ∧
  ∃ W : Nat → Nat → Hp → Prop, (∃ m, W 0 m H1) ∧ Step J g te vs (wipe σ vs) (Q (.bl true)) (Q (.bl false)) W

theorem over_gx {A : Around} {elt tg iter : Expr} {sc : Scope} {gpos : Pos} {it : Addr} {ce : Env} :
    (A.over (.compLoop (.GeneratorExp elt [⟨tg, iter, [], 0⟩] sc gpos) 0 (.ref it) .none ce) []).frames = A.frames.map (ce :: ·) := by
  show pushEnvs [ce] (pushEnvs [] A.frames) = _
  cases A.frames <;> rfl
theorem room_gx {A : Around} {k : Nat} {elt tg iter : Expr} {sc : Scope} {gpos : Pos} {it : Addr} {ce : Env} (r : Room (k + 1) A) :
    Room k (A.in1.in1.over (.compLoop (.GeneratorExp elt [⟨tg, iter, [], 0⟩] sc gpos) 0 (.ref it) .none ce) []) := by
  refine ⟨r.hd, ?_, ?_⟩
  · have := r.dp
    show A.depth + 0 + 1 + 3 * k + 5 < _
    omega
  · have := r.un
    show A.units + 1 + 1 + 0 + 3 + 16 * k + 200 < _
    omega

theorem pe_all {c P : Addr} {own : List (Str × Nat)} {sc : Scope} {elt tg iter : Expr} {p pos gpos : Pos} {wi : TI} {g : TG} {te : TE} {k : Nat}
    (hr : Room (k + 1) X.A) (hg : Gl X "all") (hm : X.mg "all" = none) (TB : GxR.TabB X.base X.mg c P) (hcode : X.env.code = .ref c) (hc : X.calm = true) (hN : X.N.Nodup)
    (ok : BlkOk X.N X.env.scope sc own) (nocell : ∀ y ∈ sc.names, y.2 ≠ .cell) (dot : sc.names.lookup (".0" : Str) = some NameKind.local) (hco : sc.isCoroutine = false)
    (hi : PI X tg iter wi) (pg : ∀ (B : Around) (s0 : Shared) (H0 : Hp) (C : Addr) (cv : Value) (fp : List Addr) (pn : List (Addr × Obj)), PG (genCx X B s0 H0 (gEnv X sc C cv) fp pn) tg g)
    (pe : ∀ (B : Around) (s0 : Shared) (H0 : Hp) (C : Addr) (cv : Value) (fp : List Addr) (pn : List (Addr × Obj)), Room k B → PE (genCx X B s0 H0 (gEnv X sc C cv) fp pn) elt te)
    (hs : ∀ v, genFold iter X.env v = pure v := by intro _; rfl)
    (he : starEach [.GeneratorExp elt [⟨tg, iter, [], 0⟩] sc gpos] X.env = (false, eval (.GeneratorExp elt [⟨tg, iter, [], 0⟩] sc gpos) X.env) :: starEach [] X.env := by rfl) :
    PE X (.Call (.Name "all" p) [.GeneratorExp elt [⟨tg, iter, [], 0⟩] sc gpos] [] pos) (tAll P wi g te (own.map (·.2))) := by
  refine ⟨fun pins s σ H Q I h => ?_⟩
  refine wpAny_Call_Name_kw (ld_blt I hg hm (show bootBuiltins "all" = some (.builtin "all") by decide +kernel) ?_)
  refine PyProof.Rows.callWith_builtin1 ?_ he (by rfl)
  rw [he]
  show wpAny _ _ (spliced ((false, eval (.GeneratorExp elt [⟨tg, iter, [], 0⟩] sc gpos) X.env) :: backTo pos (starEach [] X.env))) _ _ s
  refine Calls.spliced_cons (gx_make (own := own) (R := fun J H1 => ∃ W : Nat → Nat → Hp → Prop, (∃ m, W 0 m H1) ∧ Step J g te (List.map Prod.snd own) (wipe σ (List.map Prod.snd own)) (Q (.bl true)) (Q (.bl false)) W)
    hr TB hcode hN ok nocell dot hco hi hs I h fun J H1 a s5 s4 cv gn go it fp tn hR rd => ?_)
  obtain ⟨W, ⟨m0, w0⟩, step⟩ := hR
  refine Calls.spliced_nil ?_
  refine call_function_tree F.kind_all F.plain_all F.entry_all (F.args_all1 _) ?_
  unfold Builtin.«all»
  apply wpAny_bind (m := oneArg "all" _)
  apply wpAny_pure
  apply wpAny_bind
  refine wpAny_pyIter_gen (rd.gen _ rd.at_) ?_
  apply wpAny_pure
  refine ⟨plainId_quiet F.plain_all_loop _, ?_⟩
  -- the element's context
  have hB : X.calm = true → (X.A.in1.in1.over (.compLoop (.GeneratorExp elt [⟨tg, iter, [], 0⟩] sc gpos) 0 (.ref it) .none (gEnv X sc s4.heap.objs.size cv)) []).handled = none := fun z => I.ok.hd z
  have hF : (X.A.in1.in1.over (.compLoop (.GeneratorExp elt [⟨tg, iter, [], 0⟩] sc gpos) 0 (.ref it) .none (gEnv X sc s4.heap.objs.size cv)) []).frames = some (gEnv X sc s4.heap.objs.size cv :: X.stack) := by
    rw [over_gx]
    show X.A.frames.map _ = _
    rw [I.ok.frames]
    rfl
  have J5 := rd.inner _ hB hF
  have back : ∀ (s6 : Shared) (H6 : Hp), Inv (genCx X (X.A.in1.in1.over (.compLoop (.GeneratorExp elt [⟨tg, iter, [], 0⟩] sc gpos) 0 (.ref it) .none (gEnv X sc s4.heap.objs.size cv)) []) s4 H1 (gEnv X sc s4.heap.objs.size cv) fp [(a, go)]) [] (wipe σ (own.map (·.2))) H6 s6 →
      Inv X pins σ H6 s6 := fun s6 H6 I6 => by
    exact rd.outer.call' (ch := fp) I6.os I6.base I6.hok I6.bare fun b hb => ⟨(rd.fps b hb).1.2.2.2.1, (rd.fps b hb).1.2.1, (rd.fps b hb).1.2.2.2.2.1, (rd.fps b hb).1.2.2.2.2.2⟩
  refine code_all (Y := genCx X (X.A.in1.in1.over (.compLoop (.GeneratorExp elt [⟨tg, iter, [], 0⟩] sc gpos) 0 (.ref it) .none (gEnv X sc s4.heap.objs.size cv)) []) s4 H1 (gEnv X sc s4.heap.objs.size cv) fp [(a, go)])
    (A := X.A) (go := go) (g := gn) (τ := wipe σ (own.map (·.2))) (Qt := Q (.bl true)) (Qf := Q (.bl false)) hr.hd hr.depth (by simp) rd.gen
    (fun s6 H6 I6 q6 => ⟨.bl true, H6, back s6 H6 I6, rfl, q6⟩) (fun s6 H6 I6 q6 => ⟨.bl false, H6, back s6 H6 I6, rfl, q6⟩) (m0 + 1) s5 _ (rd.gen _ rd.at_) rd.lim rd.bare rd.gs (fun s7 e7 o7 b7 => ?_)
  have J7 := inv_samehp J5 e7 o7 b7
  have st7 : tn 0 s7.heap := by
    rw [e7]
    exact rd.st
  refine ⟨rfl, seg_all_start rd.turn st7 ?_⟩
  refine seg_all (Y := genCx X (X.A.in1.in1.over (.compLoop (.GeneratorExp elt [⟨tg, iter, [], 0⟩] sc gpos) 0 (.ref it) .none (gEnv X sc s4.heap.objs.size cv)) []) s4 H1 (gEnv X sc s4.heap.objs.size cv) fp [(a, go)])
    rfl hc hco (fun b hb => hb) (fun q hq => ?_) rfl (pg _ _ _ _ _ _ _) (pe _ _ _ _ _ _ _ (room_gx hr)) rd.turn step (fun τ2 hw k v e => ?_) (m0 + 1) 0 m0 s7 s7 H1 (Nat.lt_succ_self _) J7 st7 (fun b hb => (rd.fps b hb).1.1) w0
  · have e : q = (a, go) := by simpa using hq
    subst e
    exact rd.old
  · rw [← hw] at e
    exact (wipe_some e).1
end
end GX
set_option Elab.async false
set_option maxRecDepth 100000
set_option maxHeartbeats 4000000
namespace GX
open PySem PySem.Spec PyProof.Rows L2

/-- a walk of n turns by a word of its own: the next turn is reached -/
def AllNx (n : Nat) (Pv : Nat → Hp → Prop) (i : Nat) (H : Hp) : Prop := ∃ m', m' < n - i ∧ (m' = n - (i + 1) ∧ i + 1 ≤ n ∧ Pv (i + 1) H)
theorem AllNx.mk {n : Nat} {Pv : Nat → Hp → Prop} {i : Nat} {H : Hp} (hi : i < n) (p : Pv (i + 1) H) : AllNx n Pv i H := ⟨n - (i + 1), by omega, rfl, hi, p⟩
theorem all_by {J : It} {g : TG} {te : TE} {vs : List Nat} {τ : L2.St} {Qt Qf : Hp → Prop} {H1 : Hp} (n : Nat) (Pv : Nat → Hp → Prop) (h0 : Pv 0 H1)
    (turn : ∀ i H, i < n → Pv i H → J.go i H ∧ ∀ x H', J.yld i H x H' → g x τ H' fun τ2 H2 => wipe τ2 vs = τ ∧ te τ2 H2 fun y H3 => ∃ b, y = V.bl b ∧ (b = true → AllNx n Pv i H3) ∧ (b = false → Qf H3))
    (stop : ∀ H, Pv n H → J.stop n H ∧ Qt H) :
    ∃ W : Nat → Nat → Hp → Prop, (∃ m, W 0 m H1) ∧ Step J g te vs τ Qt Qf W := by
  refine ⟨fun i m H => m = n - i ∧ i ≤ n ∧ Pv i H, ⟨n, rfl, Nat.zero_le _, h0⟩, ?_⟩
  rintro i m H ⟨rfl, hi, p⟩
  by_cases hlt : i < n
  · obtain ⟨go, nx⟩ := turn i H hlt p
    exact .inr ⟨go, nx⟩
  · have e : i = n := by omega
    subst e
    exact .inl (stop H p)
theorem bf {b : Bool} (h : ¬ b = true) : b = false := by
  cases b with
  | true => exact absurd rfl h
  | false => rfl
end GX

namespace RS
open PySem PySem.Spec PyProof.Rows L2 GX
/-! ### defs as constants of the module -/
/-- the def st stands as the module's x; c: its code object -/
structure DefAt (K : PySem.W.Frag) (mg : Str → Option Value) (x : Str) (st : Stmt) (c : Addr) : Prop where
  ex : ∃ (f : Addr) (oc : Value) (od : Option Addr) (kV doc pm : Value) (an : Option Addr) (ct : Value) (osl : Array (Option Value)),
    mg x = some (.ref f) ∧ K.lookup f = some ⟨oc, od, .func (PySem.W.fnOf x x (defArgs st) (defBody st) (defScope st) .none kV doc pm an (.ref c) ct), osl⟩ ∧
    PySem.W.codeIn K (.ref c) x = true ∧ PySem.W.keepIn K (.ref f) = true
/-- what a caller needs of a def: its promise -/
structure Cal (P : Program) (w : World) (K : PySem.W.Frag) (mg : Str → Option Value) (base : Heap) (CX : CXT) (k : Nat) (x : Str) (ps : List Str) (sp : Sp) : Prop where
  ex : ∃ (f : Addr) (fd : FuncData), FnOk P w K mg base CX k f fd ps sp ∧ mg x = some (.ref f) ∧ PySem.W.keepIn K (.ref f) = true ∧ Binds K fd ps []
section
variable {P : Program} {w : World} {K : PySem.W.Frag} {mg : Str → Option Value} {base : Heap}
theorem def_ok {CX : CXT} {x : Str} {st : Stmt} {c : Addr} {N ps : List Str} {k : Nat} {sp : Sp} (D : DefAt K mg x st c) (S : FnScope N ps (defScope st)) (len : ∀ vs H Q E, sp vs H Q E → vs.length = ps.length)
    (hb : ∀ (kV doc pm : Value) (an : Option Addr) (cdv ct : Value) (us : List Value), us.length = ps.length → bindArgs (PySem.W.fnOf x x (defArgs st) (defBody st) (defScope st) .none kV doc pm an cdv ct) ⟨us, []⟩ = pure (ps.zip us))
    (hbody : ∀ (f : Addr) (A : Around) (outer : List Env) (s : Shared) (H : Hp) (vs : List V) (Q : VK) (E : XK), Room k (A.deeper (envOfC x (defScope st) s.heap.objs.size f (.ref c))) → sp vs H Q E →
      ∃ t, PSs (cxOf CX P w K mg base N x (defScope st) f (.ref c) A outer s H E) (defBody st) t ∧ t { nx := fun _ H' => Q .non H', rt := Q } (start N vs) H) :
    Cal P w K mg base CX (k + 1) x ps sp := by
  obtain ⟨f, oc, od, kV, doc, pm, an, ct, osl, hm, lk, hcd, kp⟩ := D.ex
  exact ⟨f, _, fn_of lk hcd S len fun A outer s H vs Q E hr hsp => hbody f A outer s H vs Q E hr hsp, hm, kp, .all (hb kV doc pm an (.ref c) ct)⟩
/-- .. that no exception leaves -/
theorem def_ok0 {x : Str} {st : Stmt} {c : Addr} {N ps : List Str} {k : Nat} {sp : Sp} (D : DefAt K mg x st c) (S : FnScope N ps (defScope st)) (len : ∀ vs H Q E, sp vs H Q E → vs.length = ps.length)
    (hb : ∀ (kV doc pm : Value) (an : Option Addr) (cdv ct : Value) (us : List Value), us.length = ps.length → bindArgs (PySem.W.fnOf x x (defArgs st) (defBody st) (defScope st) .none kV doc pm an cdv ct) ⟨us, []⟩ = pure (ps.zip us))
    (hbody : ∀ (f : Addr) (A : Around) (outer : List Env) (s : Shared) (H : Hp) (vs : List V) (Q : VK) (E : XK), Room k (A.deeper (envOfC x (defScope st) s.heap.objs.size f (.ref c))) → sp vs H Q E →
      ∃ t, PSs (cxOf CX0 P w K mg base N x (defScope st) f (.ref c) A outer s H E).nox (defBody st) t ∧ t { nx := fun _ H' => Q .non H', rt := Q } (start N vs) H) :
    Cal P w K mg base CX0 (k + 1) x ps sp :=
  def_ok D S len hb fun f A outer s H vs Q E hr hsp => by
    obtain ⟨t, ht, q⟩ := hbody f A outer s H vs Q E hr hsp
    exact ⟨t, ht.nox, q⟩
end
section
variable {X : Cx} {CX : CXT} {k j : Nat} {ps : List Str} {sp : Sp} {E : XK} {x : Str} {p pos : Pos} {e : Expr} {es : List Expr} {t : TA}
theorem pe_c (c : Cal X.prog X.w X.K X.mg X.base CX k x ps sp) (hr : Room j X.A) (hk : k ≤ j) (hg : Gl X x) (hx : Passes CX X E) (ha : PA X (e :: es) t) (hdb : (x == ("__debug__" : Str)) = false := by decide)
    (he : starEach (e :: es) X.env = (false, eval e X.env) :: starEach es X.env := by rfl) (hpl : (backTo pos (starEach es X.env)).any (·.1) = false := by rfl) :
    PE X (.Call (.Name x p) (e :: es) [] pos) (tCall sp [] E t) := by
  obtain ⟨f, fd, F, hm, kp, hb⟩ := c.ex
  exact pe_call F (hr.mono hk) hg hm kp hb .nil hx ha hdb he hpl
end

/-! ### data -/
theorem sqT_same {K : PySem.W.Frag} {H H' : Hp} {a : Addr} {xs : List V} (e : Same H H') (h : SqT K H a xs) : SqT K H' a xs := by
  rcases h with (h | ⟨o, h⟩) | h
  · exact .inl (.inl (e _ _ h))
  · exact .inl (.inr ⟨o, e _ _ h⟩)
  · exact .inr h
mutual
theorem dp_same {K : PySem.W.Frag} {H H' : Hp} (e : Same H H') : ∀ (d : PyData) {v : V}, Dp K H v d → Dp K H' v d
  | .none, _, .non => .non
  | .bool b, _, .bl _ => .bl b
  | .int i, _, .int _ => .int i
  | .str x, _, .str _ => .str x
  | .list ds, _, .lst h hs => .lst (e.seq h) (dpAll_same e ds hs)
  | .tuple ds, _, .tup h hs => .tup (sqT_same e h) (dpAll_same e ds hs)
  | .dict _, _, h => nomatch h
theorem dpAll_same {K : PySem.W.Frag} {H H' : Hp} (e : Same H H') : ∀ (ds : List PyData) {vs : List V}, DpAll K H vs ds → DpAll K H' vs ds
  | [], _, .nil => .nil
  | d :: ds, _, .cons h hs => .cons (dp_same e d h) (dpAll_same e ds hs)
end
theorem dpLen {K : PySem.W.Frag} {H : Hp} : ∀ {vs : List V} {ds : List PyData}, DpAll K H vs ds → vs.length = ds.length
  | _, _, .nil => rfl
  | _, _, .cons _ t => congrArg (· + 1) (dpLen t)
theorem dpGet {K : PySem.W.Frag} {H : Hp} : ∀ {vs : List V} {ds : List PyData} {i : Nat} {v : V}, DpAll K H vs ds → vs[i]? = some v → ∃ d, ds[i]? = some d ∧ Dp K H v d
  | _, _, _, _, .nil, e => by simp at e
  | _, _, 0, _, .cons h _, e => by
    simp at e
    subst e
    exact ⟨_, rfl, h⟩
  | _, _, i + 1, v, .cons _ t, e => by
    obtain ⟨d, h1, h2⟩ := dpGet (i := i) (v := v) t (by simpa using e)
    exact ⟨d, by simpa using h1, h2⟩
theorem dpGet' {K : PySem.W.Frag} {H : Hp} {vs : List V} {ds : List PyData} {i : Nat} {d : PyData} (h : DpAll K H vs ds) (e : ds[i]? = some d) : ∃ v, vs[i]? = some v ∧ Dp K H v d := by
  have hl := dpLen h
  have hi : i < vs.length := by
    rw [hl]
    exact (List.getElem?_eq_some_iff.mp e).1
  obtain ⟨d', e', h'⟩ := dpGet h (List.getElem?_eq_getElem hi)
  rw [e] at e'
  cases e'
  exact ⟨_, List.getElem?_eq_getElem hi, h'⟩
theorem dpApp {K : PySem.W.Frag} {H : Hp} : ∀ {vs ws : List V} {ds es : List PyData}, DpAll K H vs ds → DpAll K H ws es → DpAll K H (vs ++ ws) (ds ++ es)
  | _, _, _, _, .nil, h => h
  | _, _, _, _, .cons h t, q => .cons h (dpApp t q)

/-- the name of a datum's type -/
def tyN : PyData → String
  | .none => "NoneType"
  | .bool _ => "bool"
  | .int _ => "int"
  | .str _ => "str"
  | .list _ => "list"
  | .tuple _ => "tuple"
  | .dict _ => "dict"
/-- isinstance(d, T), d's type being n -/
def isT (T n : String) : Bool := T == n || (T == "int" && n == "bool")
def isI (T : String) (d : PyData) : Bool := isT T (tyN d)
theorem kit_names : ∀ n ∈ ["NoneType", "bool", "int", "str", "list", "tuple"], ∀ T ∈ ["int", "bool", "str", "list", "tuple"], kitB n T = some (isT T n) := by decide +kernel
theorem dp_ty {K : PySem.W.Frag} {H : Hp} {v : V} {d : PyData} (h : Dp K H v d) : TyX K H v (.type (tyN d)) := by
  cases h with
  | non => exact .base .non
  | bl b => exact .base (.bl b)
  | int i => exact .base (.int i)
  | str x => exact .base (.str x)
  | lst q _ =>
    rcases q with (q | ⟨o, q⟩) | ⟨o, its, n, q, c, _⟩
    · exact .base (.lst q)
    · exact .base (.frz q)
    · exact .kList q c
  | tup q _ =>
    rcases q with (q | ⟨o, q⟩) | ⟨o, its, n, q, c, _⟩
    · exact .base (.tup q)
    · exact .fTuple q
    · exact .kTuple q c
theorem kit_isI {K : PySem.W.Frag} {T : String} (hT : T ∈ ["int", "bool", "str", "list", "tuple"]) {H : Hp} {v : V} {d : PyData} (h : Dp K H v d) : PySem.W.kitOne K (.type (tyN d)) (.type T) = some (isI T d) := by
  refine kit_ty (kit_names _ ?_ _ hT)
  cases h <;> simp [tyN]
theorem isi_at {K : PySem.W.Frag} {H : Hp} {v : V} {d : PyData} {T : String} {Q : VK} (h : Dp K H v d) (q : Q (.bl (isI T d)) H) (hT : T ∈ ["int", "bool", "str", "list", "tuple"] := by simp) : rIsi K [v, .ty T] H Q :=
  ⟨v, .ty T, _, _, isI T d, rfl, .ty T, dp_ty h, kit_isI hT h, q⟩
end RS
set_option Elab.async false
set_option maxRecDepth 100000
set_option maxHeartbeats 4000000
namespace RS
open PySem PySem.Spec PyProof.Rows L2 GX
section
variable {X : Cx}
/-! ### rules whose readings speak of data -/
/-- isinstance(x, T) -/
theorem call_isiD : CallR X (.builtin "isinstance") (fun xs H Q => ∃ x T d, xs = [x, .ty T] ∧ T ∈ ["int", "bool", "str", "list", "tuple"] ∧ Dp X.K H x d ∧ Q (.bl (isI T d)) H) := by
  intro pins s σ H xs us Q I r ⟨x, T, d, e, hT, hd, q⟩
  subst e
  exact call_isi pins s σ H _ us Q I r ⟨x, .ty T, _, _, isI T d, rfl, .ty T, dp_ty hd, kit_isI hT hd, q⟩
/-- how many items -/
def lenD : PyData → Option Nat
  | .list ds => some ds.length
  | .tuple ds => some ds.length
  | .str x => if x.length ≤ sizeLine then some x.length else none
  | _ => none
/-- len(x) of a list, a tuple, a text -/
theorem call_lenD : CallR X (.builtin "len") (fun xs H Q => ∃ x d n, xs = [x] ∧ Dp X.K H x d ∧ lenD d = some n ∧ Q (.int n) H) := by
  intro pins s σ H xs us Q I r ⟨x, d, n, e, hd, hn, q⟩
  subst e
  cases hd with
  | non => cases hn
  | bl _ => cases hn
  | int _ => cases hn
  | str y =>
    simp only [lenD] at hn
    split at hn
    · rename_i hz
      cases hn
      exact call_len_str pins s σ H _ us Q I r ⟨y, rfl, hz, q⟩
    · cases hn
  | @lst a ys ds h hs =>
    cases hn
    rw [← dpLen hs] at q
    exact call_len_seq pins s σ H _ us Q I r ⟨a, ys, rfl, .inl h, q⟩
  | @tup a ys ds h hs =>
    cases hn
    rw [← dpLen hs] at q
    exact call_len_seq pins s σ H _ us Q I r ⟨a, ys, rfl, .inr h, q⟩
/-- the items of a list or tuple -/
def itemsD : PyData → Option (List PyData)
  | .list ds => some ds
  | .tuple ds => some ds
  | _ => none
/-- x[i] of a list or a tuple -/
theorem ixD : IxR X (fun x y H Q => ∃ d ds i d', Dp X.K H x d ∧ itemsD d = some ds ∧ y = .int i ∧ atI ds i = some d' ∧ ∀ v, Dp X.K H v d' → Q v H) := by
  intro value slice pins s σ H x y v u Q I rx ry ⟨d, ds, i, d', hd, hi, ey, ha, q⟩ hs
  have at_ : ∀ {vs : List V}, DpAll X.K H vs ds → ∃ v, atI vs i = some v ∧ Dp X.K H v d' := fun {vs} hv => by
    unfold atI at ha ⊢
    rw [← dpLen hv] at ha
    cases hx : ixN vs.length i with
    | none => rw [hx] at ha; cases ha
    | some j =>
      rw [hx] at ha
      exact dpGet' hv ha
  cases hd with
  | non => cases hi
  | bl _ => cases hi
  | int _ => cases hi
  | str _ => cases hi
  | @lst a ys es h hes =>
    cases hi
    obtain ⟨z, hz, hzd⟩ := at_ hes
    exact ix_list value slice pins s σ H _ y v u Q I rx ry ⟨a, ys, i, z, rfl, ey, h, hz, q z hzd⟩ hs
  | @tup a ys es h hes =>
    cases hi
    obtain ⟨z, hz, hzd⟩ := at_ hes
    exact ix_tup value slice pins s σ H _ y v u Q I rx ry ⟨a, ys, i, z, rfl, ey, h, hz, q z hzd⟩ hs
end
end RS
set_option Elab.async false
set_option maxRecDepth 100000
set_option maxHeartbeats 4000000
namespace RS
open PySem L2
def top (i : Nat) : Stmt := PySem.Challenge.pw_runsorts_k21_written_and_read.main.body.getD i (.Pass ⟨0, 0, 0, 0⟩)

abbrev s_BadText_init : Stmt := inClass (top 7) 0
abbrev sIsNumber : Stmt := top 12
abbrev sIsPart : Stmt := top 13
abbrev sCheckKinds : Stmt := top 14
abbrev sCheckOrder : Stmt := top 15
abbrev s_check_lengths : Stmt := top 21
abbrev s_check_ways : Stmt := top 22
abbrev s_check_plan : Stmt := top 23
abbrev s_check_merging : Stmt := top 24
abbrev s_written_order : Stmt := top 26
abbrev s_read_order : Stmt := top 27
abbrev s_written_plan : Stmt := top 28
abbrev s_plan_text : Stmt := top 29
abbrev s_read_plan : Stmt := top 30
abbrev s_put_together : Stmt := top 31
abbrev s_may_stand : Stmt := top 32
abbrev s_is_figures : Stmt := top 33
abbrev sBegun : Stmt := top 35
abbrev sTake : Stmt := top 36
abbrev sAlike : Stmt := top 37
abbrev sKinds : Stmt := top 38
abbrev sOrder : Stmt := top 39
abbrev sValue : Stmt := top 40
abbrev sRows : Stmt := top 41
abbrev sAhead : Stmt := top 42
abbrev sSorted : Stmt := top 43
abbrev sPairs : Stmt := top 44
abbrev s__law_lengths : Stmt := top 45
abbrev s__law_plan : Stmt := top 46
abbrev s__law_side : Stmt := top 47
abbrev s__law_in : Stmt := top 48
abbrev s__law_cost : Stmt := top 49
abbrev s__law_fits : Stmt := top 50
abbrev s__law_text : Stmt := top 51
abbrev sLaw : Stmt := top 52

/-- what the module's names hold -/
structure Txt (K : PySem.W.Frag) (mg : Str → Option Value) : Prop where
  isinstance : mg "isinstance" = none
  int_ : mg "int" = none
  bool_ : mg "bool" = none
  str_ : mg "str" = none
  list_ : mg "list" = none
  tuple_ : mg "tuple" = none
  len : mg "len" = none
  all : mg "all" = none
  zip : mg "zip" = none
  enumerate : mg "enumerate" = none
  ord : mg "ord" = none
  range : mg "range" = none
  sorted : mg "sorted" = none
  max : mg "max" = none
  min : mg "min" = none
  columns : ∃ t, mg "MOST_COLUMNS" = some (.int 4 t)
  lengths : ∃ t, mg "MOST_LENGTHS" = some (.int 40 t)
  length : ∃ t, mg "MOST_LENGTH" = some (.int 1000000 t)
  leastw : ∃ t, mg "LEAST_WAYS" = some (.int 2 t)
  mostw : ∃ t, mg "MOST_WAYS" = some (.int 6 t)
  kinds : ∃ a, mg "KINDS" = some (.ref a) ∧ ∀ H, SqT K H a [.str "number", .str "word"]
  ways : ∃ a, mg "WAYS" = some (.ref a) ∧ ∀ H, SqT K H a [.str "up", .str "down"]
end RS
set_option Elab.async false
set_option maxRecDepth 100000
set_option maxHeartbeats 4000000
namespace RS
open PySem PySem.Spec PyProof.Rows L2 GX

/-! ### the mathematics: what a number, a word, a value, a row is -/
def isNum (d : PyData) : Bool := isI "int" d && !isI "bool" d

section
variable {P : Program} {w : World} {K : PySem.W.Frag} {mg : Str → Option Value} {base : Heap}
theorem scIsNumber : FnScope ["value"] ["value"] (defScope sIsNumber) := ⟨rfl, rfl, rfl, by decide +kernel, rfl, by decide +kernel, by decide +kernel⟩
def spNum (K : PySem.W.Frag) : Sp := fun vs H Q _ => ∃ (v : V) (d : PyData), vs = [v] ∧ Dp K H v d ∧ Q (.bl (isNum d)) H
theorem is_number_ok {c : Addr} (D : DefAt K mg "is_number" sIsNumber c) (T : Txt K mg) : Cal P w K mg base CX0 1 "is_number" ["value"] (spNum K) := by
  have sc := scIsNumber
  refine def_ok0 D sc (fun vs H Q E h => ?_) (fun _ _ _ _ _ _ us hl => match us, hl with | [_], _ => rfl) (fun f A outer s H vs Q E hr h => ?_)
  · obtain ⟨v, d, rfl, _⟩ := h
    rfl
  · obtain ⟨v, d, rfl, hd, k⟩ := h
    refine ⟨_, (pss_one (ps_ret (pe_and (pe_callB call_isiD (by rfl) T.isinstance (by decide +kernel) (pa_cons (pv 0) (pa_cons (pe_bltn (v := V.ty "int") (u := Value.type "int") (by rfl) T.int_ (by decide +kernel) rfl) pa_nil))) (pe_one (pe_not (pe_callB call_isiD (by rfl) T.isinstance (by decide +kernel) (pa_cons (pv 0) (pa_cons (pe_bltn (v := V.ty "bool") (u := Value.type "bool") (by rfl) T.bool_ (by decide +kernel) rfl) pa_nil)))))))), ?_⟩
    refine ⟨_, rfl, _, _, _, rfl, by simp, hd, _, rfl, ?_⟩
    refine ite2 (fun h1 => ?_) (fun h1 => ?_)
    · refine ⟨_, rfl, _, _, _, rfl, by simp, hd, _, rfl, ?_⟩
      have e : isNum d = !isI "bool" d := by unfold isNum; rw [h1, Bool.true_and]
      rw [← e]
      exact k
    · have e : isNum d = false := by unfold isNum; rw [bf h1, Bool.false_and]
      rw [← e]
      exact k

end
end RS
set_option Elab.async false
set_option maxRecDepth 100000
set_option maxHeartbeats 4000000
namespace RS
open PySem PySem.Spec PyProof.Rows L2 GX

/-! ### kinds, values, rows -/
/-- the name of a kind: true a word's, false a number's -/
def kindS (b : Bool) : Str := if b then "word" else "number"
def kindsD (ks : List Bool) : PyData := .tuple (ks.map fun b => .str (kindS b))
theorem kindS_word (b : Bool) : decide (V.str (kindS b) = V.str "word") = b := by
  cases b
  · decide +kernel
  · decide +kernel
theorem isNum_int {K : PySem.W.Frag} {H : Hp} {v : V} {d : PyData} (h : Dp K H v d) (e : isNum d = true) : ∃ n, d = .int n ∧ v = .int n := by
  cases h <;> first | exact ⟨_, rfl, rfl⟩ | (simp [isNum, isI, isT, tyN] at e)

end RS
set_option Elab.async false
set_option maxRecDepth 100000
set_option maxHeartbeats 4000000
namespace RS
open PySem PySem.Spec PyProof.Rows L2 GX

/-- many new objects are laid and tracked at once -/
theorem laid_many {X : Cx} {pins : List (Addr × Obj)} {σ : L2.St} {H H2 : Hp} {s : Shared} {g : Heap} {tk : Nat} (I : Inv X pins σ H s) (kp : ∀ b u, s.heap.get? b = some u → g.get? b = some u)
    (old : ∀ b, b < s.heap.objs.size → H2 b = H b) (new : ∀ b o, s.heap.objs.size ≤ b → H2 b = some o → ObjOk X.prog X.w H2 g b o) : Inv X pins σ H2 { s with heap := g, toks := tk } := by
  have up : ∀ b o, H b = some o → H2 b = some o := fun b o e => by rw [old b (I.hok.lt e)]; exact e
  refine I.un (t' := tk) ⟨fun b o e _ _ _ => kp b o e, fun b o e _ _ _ => ⟨o.slots, kp b o e⟩, fun b o e n _ => by rw [old b (Heap.lt_size e)]; exact n, fun b o e _ => ⟨o, kp b o e⟩,
    fun b xs e => up b _ e, fun b o u e => up b _ e, fun b ps e => ⟨#[], by rw [up b _ e, Array.append_empty]⟩⟩ (fun b o e => ?_)
  by_cases hb : b < s.heap.objs.size
  · rw [old b hb] at e
    exact (I.hok b o e).stay (fun c u _ q => kp c u q) (fun c q => up c _ q) (fun c xs q => up c _ q)
  · exact new b o (Nat.le_of_not_lt hb) e

theorem enum_no_len : typeLookup (.type "enumerate") "__len__" = pure none := by rw [typeLookup_type, builtinLookup_eq_fast]; kernel_rfl
theorem enum_no_hint : typeLookup (.type "enumerate") "__length_hint__" = pure none := by rw [typeLookup_type, builtinLookup_eq_fast]; kernel_rfl

/-- the enumeration e over the iterator it of the list l stands ahead of item i -/
def EnumAt (h : Heap) (e it l : Addr) (i : Nat) : Prop :=
  h.IsListIter it l i ∧ ((i = 0 ∧ IsEnum h e it 0 .none) ∨ ∃ (T : Addr) (f : Bool) (x : Value) (o : Obj), IsEnumHeld h e it (i : Int) x T f ∧ h.get? T = some o ∧ T ≠ e ∧ T ≠ it)
/-- the pairs that have been put into acc -/
def Pairs (h : Heap) (lo : Nat) (items : Array Value) (acc : Array Value) : Prop :=
  ∀ j v, acc[j]? = some v → ∃ (T : Addr) (tk : Nat) (x : Value), v = .ref T ∧ lo ≤ T ∧ items[j]? = some x ∧ h.get? T = some { cls := .type "tuple", data := .seq #[.int (j : Nat) tk, x] }
section
variable {prog : Program} {w : World} {A : Around} {s0 : Shared} {S e it l : Addr} {items : Array Value}
theorem enum_next {E : Value → Shared → Prop} {s : Shared} {i : Nat} {x : Value} {Q : Option Value → Shared → Prop} (hs : EnumAt s.heap e it l i) (hl : s.heap.IsList l items) (hx : items[i]? = some x) (hne : e ≠ it)
    (he : e < s.heap.objs.size) (hi : it < s.heap.objs.size)
    (hQ : ∀ g, EnumAt g e it l (i + 1) → g.get? s.heap.objs.size = some { cls := .type "tuple", data := .seq #[.int (i : Nat) s.toks, x] } → (∀ b o, b ≠ e → b ≠ it → s.heap.get? b = some o → g.get? b = some o) →
      Q (some (.ref s.heap.objs.size)) { s with heap := g, toks := s.toks + 1 }) : wpAny (model prog w) A (pyNext (.ref e)) Q E s := by
  obtain ⟨hit, ⟨rfl, h0⟩ | ⟨T, f, y, o, h1, hT, hTe, hTi⟩⟩ := hs
  · refine wpAny_pyNext_enum_item (i := 0) h0 hit hl hx hne fun g a b c _ d => hQ g ⟨b, .inr ⟨_, _, _, _, a, c, Nat.ne_of_gt he, Nat.ne_of_gt hi⟩⟩ c d
  · exact wpAny_pyNext_enum_item_held h1 hT hTe hTi hit hl hx hne fun g a b c _ d => hQ g ⟨b, .inr ⟨T, true, y, o, a, d T o hTe hTi hT, hTe, hTi⟩⟩ c d
theorem enum_stop {E : Value → Shared → Prop} {s : Shared} {i : Nat} {Q : Option Value → Shared → Prop} (hh : A.handled = none) (hs : EnumAt s.heap e it l i) (hl : s.heap.IsList l items) (hx : items[i]? = none)
    (hQ : ∀ g, Heap.ExtBut it s.heap g → Q none { s with heap := g }) : wpAny (model prog w) A (pyNext (.ref e)) Q E s := by
  obtain ⟨hit, ⟨rfl, h0⟩ | ⟨T, f, y, o, h1, hT, hTe, hTi⟩⟩ := hs
  · exact wpAny_pyNext_enum_end hh h0 hit hl hx hQ
  · exact wpAny_pyNext_enum_end_held hh h1 hit hl hx hQ

theorem enum_loop {R : Result → Shared → Prop} {res : Value} (hh : A.handled = none) (hne : e ≠ it) (hSe : S ≠ e) (hSi : S ≠ it) (hSl : S ≠ l) (hle : l ≠ e) (hli : l ≠ it) (lo : Nat) (hz : items.size ≤ sizeLine)
    (hend : ∀ g tk acc c, g.get? S = some (lstObj acc c) → acc.size = items.size → Pairs g lo items acc → (∀ b o, b ≠ e → b ≠ it → b ≠ S → s0.heap.get? b = some o → g.get? b = some o) → R (.ok (.ret res)) { s0 with heap := g, toks := tk }) :
    ∀ (k i : Nat) (g : Heap) (tk : Nat) (acc : Array Value) (c : Nat), items.size - i = k → i ≤ items.size → acc.size = i → g.get? S = some (lstObj acc c) → EnumAt g e it l i → g.IsList l items → lo ≤ g.objs.size → e < lo → it < lo → S < lo →
      Pairs g lo items acc → (∀ b o, b ≠ e → b ≠ it → b ≠ S → s0.heap.get? b = some o → g.get? b = some o) →
      codeAny (model prog w) A (.builtin "list.extend.loop" ⟨[.ref S, .ref e, res], []⟩) R { s0 with heap := g, toks := tk } := by
  intro k
  induction k with
  | zero =>
    intro i g tk acc c hk hi ha hS he hl hlo helo hilo hSlo hp hkp
    have hin : i = items.size := by omega
    refine codeAny_builtin F.entry_extend_loop ?_
    rw [Around.under_plainId F.plain_extend_loop _]
    show wpAny _ A.in1 (pyNext (.ref e) >>= _) _ _ _
    refine wpAny_bind (enum_stop (s := { s0 with heap := g, toks := tk }) hh he hl (by rw [hin]; simp) fun g2 ext => ?_)
    refine wpAny_pure (hend g2 tk acc c (ext S _ hSi hS) (by omega) (fun j v hv => ?_) (fun b o h1 h2 h3 q => ext b o h2 (hkp b o h1 h2 h3 q)))
    obtain ⟨T, tk', x, e1, e2, e3, e4⟩ := hp j v hv
    exact ⟨T, tk', x, e1, e2, e3, ext T _ (Nat.ne_of_gt (Nat.lt_of_lt_of_le hilo e2)) e4⟩
  | succ k ih =>
    intro i g tk acc c hk hi ha hS he hl hlo helo hilo hSlo hp hkp
    have hlt : i < items.size := by omega
    refine codeAny_builtin F.entry_extend_loop ?_
    rw [Around.under_plainId F.plain_extend_loop _]
    show wpAny _ A.in1 (pyNext (.ref e) >>= _) _ _ _
    refine wpAny_bind (enum_next (s := { s0 with heap := g, toks := tk }) he hl (Array.getElem?_eq_getElem hlt) hne (Nat.lt_of_lt_of_le helo hlo) (Nat.lt_of_lt_of_le hilo hlo) fun g2 he2 hT2 hk2 => ?_)
    have hS2 : g2.get? S = some (lstObj acc c) := hk2 S _ hSe hSi hS
    have gT : g.objs.size ≠ S := fun z => Nat.lt_irrefl _ (Nat.lt_of_lt_of_le (by rw [z]; exact hSlo) hlo)
    have gTe : g.objs.size ≠ e := fun z => Nat.lt_irrefl _ (Nat.lt_of_lt_of_le (by rw [z]; exact helo) hlo)
    have gTi : g.objs.size ≠ it := fun z => Nat.lt_irrefl _ (Nat.lt_of_lt_of_le (by rw [z]; exact hilo) hlo)
    show wpAny _ A.in1 (updateSeq S (·.push (.ref g.objs.size)) >>= _) _ _ _
    apply wpAny_bind
    refine wpAny_updateSeq hS2 rfl (wpAny_pure ⟨plainId_quiet F.plain_extend_loop _, ?_⟩) (by omega) (by show (acc.push _).size ≤ sizeLine + 1; rw [Array.size_push]; omega)
    have up : ∀ b o, b ≠ S → g2.get? b = some o → (g2.update S (Obj.mapSeq (·.push (.ref g.objs.size)))).get? b = some o := fun b o hb q => (Heap.get?_update_other _ _ (Ne.symm hb)).trans q
    have lt2 : g.objs.size < g2.objs.size := Heap.lt_size hT2
    refine ih (i + 1) _ _ (acc.push (.ref g.objs.size)) _ (by omega) hlt (by rw [Array.size_push]; omega) (Heap.get?_update_self _ hS2 rfl) ?_ ?_ ?_ helo hilo hSlo (fun j v hv => ?_) (fun b o h1 h2 h3 q => up b o h3 (hk2 b o h1 h2 (hkp b o h1 h2 h3 q)))
    · obtain ⟨⟨oi, hoi, r⟩, hd⟩ := he2
      refine ⟨⟨oi, up it oi (Ne.symm hSi) hoi, r⟩, ?_⟩
      rcases hd with ⟨z, q⟩ | ⟨T, f, x, o, q1, q2, q3, q4⟩
      · exact .inl ⟨z, up e _ (Ne.symm hSe) q⟩
      · by_cases hTS : T = S
        · subst hTS
          exact .inr ⟨T, f, x, _, up e _ (Ne.symm hSe) q1, Heap.get?_update_self _ hS2 rfl, q3, q4⟩
        · exact .inr ⟨T, f, x, o, up e _ (Ne.symm hSe) q1, up T o hTS q2, q3, q4⟩
    · obtain ⟨ol, hol, r⟩ := hl
      exact ⟨ol, up l ol (Ne.symm hSl) (hk2 l ol hle hli hol), r⟩
    · rw [Heap.size_update]
      exact Nat.le_trans hlo (Nat.le_of_lt lt2)
    · rw [Array.getElem?_push] at hv
      split at hv
      · rename_i hj
        cases hv
        have ej : j = i := by omega
        subst ej
        exact ⟨g.objs.size, tk, items[j], rfl, hlo, Array.getElem?_eq_getElem hlt, up _ _ gT hT2⟩
      · obtain ⟨T, tk', x, e1, e2, e3, e4⟩ := hp j v hv
        have nTS : T ≠ S := Nat.ne_of_gt (Nat.lt_of_lt_of_le hSlo e2)
        exact ⟨T, tk', x, e1, e2, e3, up T _ nTS (hk2 T _ (Nat.ne_of_gt (Nat.lt_of_lt_of_le helo e2)) (Nat.ne_of_gt (Nat.lt_of_lt_of_le hilo e2)) e4)⟩
end
end RS
set_option Elab.async false
set_option maxRecDepth 100000
set_option maxHeartbeats 4000000
namespace RS
open PySem PySem.Spec PyProof.Rows L2 GX

/-- list(e), e an enumeration of the list l that has just been made -/
theorem list_of_enum {P : Program} {w : World} {A : Around} {E : Value → Shared → Prop} {s : Shared} {e it l : Addr} {items : Array Value} {Q : Value → Shared → Prop} (hh : A.handled = none) (he : IsEnum s.heap e it 0 .none) (hit : s.heap.IsListIter it l 0) (hl : s.heap.IsList l items)
    (hne : e ≠ it) (hle : l ≠ e) (hli : l ≠ it) (hz : items.size ≤ sizeLine)
    (hQ : ∀ g tk acc c, g.get? s.heap.objs.size = some (lstObj acc c) → acc.size = items.size → Pairs g (s.heap.objs.size + 1) items acc → (∀ b o, b ≠ e → b ≠ it → s.heap.get? b = some o → g.get? b = some o) → Q (.ref s.heap.objs.size) { s with heap := g, toks := tk }) :
    wpAny (model P w) A (call (.type "list") [.ref e]) Q E s := by
  have lte : e < s.heap.objs.size := Heap.lt_size he
  have lti : it < s.heap.objs.size := by obtain ⟨o, ho, _⟩ := hit; exact Heap.lt_size ho
  have ltl : l < s.heap.objs.size := by obtain ⟨o, ho, _⟩ := hl; exact Heap.lt_size ho
  have hSe : s.heap.objs.size ≠ e := Nat.ne_of_gt lte
  have tyE : ∀ {g : Heap}, (∀ b o, s.heap.get? b = some o → g.get? b = some o) → ({ s with heap := g } : Shared).TypeIs (.ref e) "enumerate" := fun {g} q => ⟨_, q _ _ he, rfl⟩
  refine callType_codes (Q₁ := fun obj s₁ => obj = .ref s.heap.objs.size ∧ s₁ = { s with heap := s.heap.push { cls := .type "list", data := .seq #[] } }) PySem.F.called_list (PySem.F.typeCall_list_1 _) PySem.F.entry_list_init
    (code_list_new _ ⟨rfl, rfl⟩) fun obj s₁ h₁ => ?_
  obtain ⟨rfl, rfl⟩ := h₁
  have hS : (s.heap.push { cls := .type "list", data := .seq #[] }).get? s.heap.objs.size = some { cls := .type "list", data := .seq #[] } := Heap.get?_push_size _ rfl
  refine ⟨⟨_, hS, rfl⟩, PySem.F.args_list_init_2 _ _, ?_⟩
  show wpAny _ A.in1.in1 (do
    let old ← Builtin.List.listItems (.ref s.heap.objs.size)
    Builtin.List.listUpdate (.ref s.heap.objs.size) (fun _ => #[])
    letGo old.toList.reverse
    Builtin.List.listExtendWith (.ref s.heap.objs.size) (.ref e) .none) _ _ _
  apply wpAny_bind
  unfold Builtin.List.listItems
  refine wpAny_bind (wpAny_seqItems hS rfl (wpAny_pure ?_))
  show wpAny _ A.in1.in1 (updateSeq s.heap.objs.size (fun _ => #[]) >>= fun _ => letGo (#[] : Array Value).toList.reverse >>= fun _ =>
    Builtin.List.listExtendWith (.ref s.heap.objs.size) (.ref e) .none) _ _ _
  refine wpAny_bind (wpAny_updateSeq hS rfl ?_)
  have hS2 := Heap.get?_update_self (Obj.mapSeq (fun _ => (#[] : Array Value))) hS rfl
  apply wpAny_bind
  apply wpAny_letGo
  unfold Builtin.List.listExtendWith
  have up : ∀ (h : Heap) (f : Obj → Obj), (∀ b o, s.heap.get? b = some o → h.get? b = some o) → ∀ b o, s.heap.get? b = some o → (h.update s.heap.objs.size f).get? b = some o := fun h f q b o y =>
    (Heap.get?_update_other _ _ (Ne.symm (Nat.ne_of_lt (Heap.lt_size y)))).trans (q b o y)
  have k1 : ∀ b o, s.heap.get? b = some o → (s.heap.push { cls := .type "list", data := .seq #[] }).get? b = some o := fun b o y => Heap.get?_push_of_some _ y
  have k2 := up _ (Obj.mapSeq (fun _ => (#[] : Array Value))) k1
  apply wpAny_bind
  refine wpAny_typeOf (tyE k2) ?_
  have h1 : Builtin.List.listSameRef (.ref s.heap.objs.size) (.ref e) = false := by simp [Builtin.List.listSameRef, hSe]
  have h2 : (Value.type "enumerate" == Value.type "list") = false := by decide
  have h3 : (Value.type "enumerate" == Value.type "tuple") = false := by decide
  simp only [h1, h2, h3, Bool.or_false, Bool.false_eq_true, if_false]
  apply wpAny_bind
  refine wpAny_pyIter_enum (s := { s with heap := _ }) (k2 _ _ he) ?_
  apply wpAny_bind
  apply wpAny_holding
  unfold Builtin.List.listLengthHint
  apply wpAny_bind
  refine wpAny_specialOf (tyE k2) enum_no_len ?_
  show wpAny _ A.in1.in1 (specialOf (Value.ref e) (Str.ofString "__length_hint__") >>= _) _ _ _
  apply wpAny_bind
  refine wpAny_specialOf (tyE k2) enum_no_hint ?_
  apply wpAny_pure
  show wpAny _ A.in1.in1 (rule "list.extend.makes-room" >>= fun _ => Builtin.List.listTouch (.ref s.heap.objs.size) >>= fun _ =>
    again (.builtin "list.extend.loop" ⟨[.ref s.heap.objs.size, .ref e, .none], []⟩)) _ _ _
  apply wpAny_bind
  apply wpAny_rule
  apply wpAny_bind
  show wpAny _ A.in1.in1 (updateSeq s.heap.objs.size (·.push .none) >>= fun _ => updateSeq s.heap.objs.size (·.pop)) _ _ _
  refine wpAny_bind (wpAny_updateSeq hS2 rfl ?_)
  have hS3 := Heap.get?_update_self (Obj.mapSeq (·.push Value.none)) hS2 rfl
  refine wpAny_updateSeq (hz := by seq_fits) hS3 rfl ?_
  have hS4 := Heap.get?_update_self (Obj.mapSeq (·.pop)) hS3 rfl
  have k4 := up _ (Obj.mapSeq (·.pop)) (up _ (Obj.mapSeq (·.push Value.none)) k2)
  refine wpAny_pure ⟨plainId_quiet PySem.F.plain_extend_loop _, ?_⟩
  refine enum_loop (s0 := s) (A := A.in1) (S := s.heap.objs.size) hh hne hSe (Nat.ne_of_gt lti) (Nat.ne_of_gt ltl) hle hli (s.heap.objs.size + 1) hz
    (fun g tk acc c q1 q2 q3 q4 => ⟨rfl, hQ g tk acc c q1 q2 q3 fun b o n1 n2 y => q4 b o n1 n2 (Nat.ne_of_lt (Heap.lt_size y)) y⟩) items.size 0 _ s.toks #[] _ (Nat.sub_zero _) (Nat.zero_le _) rfl hS4 ⟨?_, .inl ⟨rfl, k4 _ _ he⟩⟩ ?_ ?_
    (Nat.lt_succ_of_lt lte) (Nat.lt_succ_of_lt lti) (Nat.lt_succ_self _) (fun j v hv => by simp at hv) (fun b o _ _ _ y => k4 b o y)
  · obtain ⟨o, ho, r⟩ := hit
    exact ⟨o, k4 _ _ ho, r⟩
  · obtain ⟨o, ho, r⟩ := hl
    exact ⟨o, k4 _ _ ho, r⟩
  · exact Heap.lt_size hS4

/-- list(enumerate(e)) -/
def tLE (K : PySem.W.Frag) (te : TE) : TE := fun σ H Q => te σ H fun v H1 => ∃ a xs, v = .ref a ∧ SqL K H1 a xs ∧
  ∀ (H2 : Hp) (p : Addr) (ts : List Addr), Same H1 H2 → H1 p = none → H2 p = some (.lst (ts.map V.ref)) → ts.length = xs.length →
    (∀ (i : Nat) (x : V), xs[i]? = some x → ∃ T, ts[i]? = some T ∧ H1 T = none ∧ H2 T = some (.tup [.int i, x])) → Q (.ref p) H2
section
variable {X : Cx} {e : Expr} {te : TE} {p1 p2 q1 q2 : Pos}
theorem pe_le (hc : X.calm = true) (hg : Gl X "list") (hm : X.mg "list" = none) (hg2 : Gl X "enumerate") (hm2 : X.mg "enumerate" = none) (he : PE X e te)
    (hs : starEach [e] X.env = [(false, eval e X.env)] := by rfl)
    (hs2 : starEach [.Call (.Name "enumerate" q1) [e] [] q2] X.env = [(false, eval (.Call (.Name "enumerate" q1) [e] [] q2) X.env)] := by rfl) :
    PE X (.Call (.Name "list" p1) [.Call (.Name "enumerate" q1) [e] [] q2] [] p2) (tLE X.K te) := by
  refine ⟨fun pins s σ H Q I h => ?_⟩
  refine wpAny_Call_Name_kw (ld_blt I hg hm (show bootBuiltins "list" = some (.type "list") by decide +kernel) ?_)
  refine PyProof.Rows.callWith_type1 ?_ hs2 rfl
  rw [hs2]
  show wpAny _ _ (spliced [(false, eval (.Call (.Name "enumerate" q1) [e] [] q2) X.env)]) _ _ s
  refine Calls.spliced_cons ?_
  refine wpAny_Call_Name_kw (ld_blt I hg2 hm2 (show bootBuiltins "enumerate" = some (.type "enumerate") by decide +kernel) ?_)
  refine PyProof.Rows.callWith_type1 ?_ hs rfl
  rw [hs]
  show wpAny _ _ (spliced [(false, eval e X.env)]) _ _ s
  refine Calls.spliced_cons (thn (he.run pins s σ H _ I h) fun u s1 ⟨v, H1, I1, r1, a, xs, ev, hq, q⟩ => ?_)
  subst ev
  cases r1
  obtain ⟨its, rv, pl, hz⟩ := I1.list hq
  have lits : its.toArray.size = xs.length := by rw [List.size_toArray]; exact rv.length.symm
  have lta : a < s1.heap.objs.size := by obtain ⟨o, ho, _⟩ := pl.isList; exact Heap.lt_size ho
  refine Calls.spliced_nil ?_
  refine call_enumerate_list pl.isList fun g hen hit hsz hk => ?_
  refine Calls.spliced_nil ?_
  have I2 : Inv X pins σ H1 { s1 with heap := g } := I1.kept (t' := s1.toks) hk
  have hl2 : g.IsList a its.toArray := by
    obtain ⟨o, ho, r⟩ := pl.isList
    exact ⟨o, hk _ _ ho, r⟩
  refine list_of_enum (s := { s1 with heap := g }) (I1.ok.hd hc) hen hit hl2 (Nat.succ_ne_self _) (Nat.ne_of_lt (Nat.lt_succ_of_lt lta)) (Nat.ne_of_lt lta) (by rw [lits]; exact hz) fun g2 tk acc c hS ha hp hk2 => ?_
  -- what is new
  have szg : g.objs.size = s1.heap.objs.size + 2 := hsz
  have kall : ∀ b o, s1.heap.get? b = some o → g2.get? b = some o := fun b o y => by
    have lt := Heap.lt_size y
    exact hk2 b o (Nat.ne_of_lt (Nat.lt_succ_of_lt lt)) (Nat.ne_of_lt lt) (hk b o y)
  have sym : ∀ (i : Nat) (x : V), xs[i]? = some x → ∃ (T : Addr) (tk' : Nat) (u : Value), acc[i]? = some (.ref T) ∧ g.objs.size + 1 ≤ T ∧ RelV x u ∧ g2.get? T = some { cls := .type "tuple", data := .seq #[.int (i : Nat) tk', u] } := fun i x hx => by
    have hi : i < acc.size := by
      rw [ha, lits]
      exact (List.getElem?_eq_some_iff.mp hx).1
    obtain ⟨T, tk', u, e1, e2, e3, e4⟩ := hp i _ (Array.getElem?_eq_getElem hi)
    obtain ⟨u', hu', ru⟩ := rv.get hx
    have e3' : its[i]? = some u := by simpa using e3
    rw [hu'] at e3'
    cases e3'
    exact ⟨T, tk', u, by rw [Array.getElem?_eq_getElem hi, e1], e2, ru, e4⟩
  let adr : Value → Addr := fun v => match v with | .ref b => b | _ => 0
  have hts : ∀ v ∈ acc.toList, v = .ref (adr v) := fun v hv => by
    obtain ⟨j, hj⟩ := List.getElem?_of_mem hv
    obtain ⟨T, _, _, e1, _⟩ := hp j v (by simpa using hj)
    rw [e1]
  have tlen : (acc.toList.map adr).length = xs.length := by rw [List.length_map, Array.length_toList, ha, lits]
  have tget : ∀ (i : Nat) (x : V), xs[i]? = some x → ∃ (T : Addr) (tk' : Nat) (u : Value), (acc.toList.map adr)[i]? = some T ∧ g.objs.size + 1 ≤ T ∧ RelV x u ∧ g2.get? T = some { cls := .type "tuple", data := .seq #[.int (i : Nat) tk', u] } := fun i x hx => by
    obtain ⟨T, tk', u, e1, e2, e3, e4⟩ := sym i x hx
    refine ⟨T, tk', u, ?_, e2, e3, e4⟩
    rw [List.getElem?_map, Array.getElem?_toList, e1]
    rfl
  -- the new abstract heap
  let mk : Addr → Option HO := fun b => if b = g.objs.size then some (.lst ((acc.toList.map adr).map V.ref)) else
    match (List.range xs.length).find? (fun i => (acc.toList.map adr)[i]? == some b) with
    | some i => (xs[i]?).map fun x => .tup [.int (i : Nat), x]
    | none => none
  let H2 : Hp := fun b => if b < g.objs.size then H1 b else mk b
  have at_T : ∀ (i : Nat) (x : V) (T : Addr), xs[i]? = some x → (acc.toList.map adr)[i]? = some T → H2 T = some (.tup [.int (i : Nat), x]) := fun i x T hx hT => by
    obtain ⟨T', tk', u, f1, f2, _, f4⟩ := tget i x hx
    rw [hT] at f1
    cases f1
    show (if T < g.objs.size then H1 T else if T = g.objs.size then _ else _) = _
    rw [if_neg (Nat.not_lt.mpr (Nat.le_of_succ_le f2)), if_neg (Nat.ne_of_gt f2)]
    cases hf : (List.range xs.length).find? (fun i => (acc.toList.map adr)[i]? == some T) with
    | none =>
      have z := List.find?_eq_none.mp hf i (List.mem_range.mpr (List.getElem?_eq_some_iff.mp hx).1)
      rw [hT] at z
      simp at z
    | some j =>
      have hj := List.find?_some hf
      have hj2 := List.mem_range.mp (List.mem_of_find?_eq_some hf)
      have hj3 : (acc.toList.map adr)[j]? = some T := by simpa using hj
      obtain ⟨T2, tk2, u2, g1, _, g3, g4⟩ := tget j xs[j] (List.getElem?_eq_getElem hj2)
      rw [hj3] at g1
      cases g1
      rw [f4] at g4
      have e0 : (#[Value.int (i : Nat) tk', u] : Array Value) = #[.int (j : Nat) tk2, u2] := by
        injection (Option.some.inj g4) with _ _ d
        injection d
      have e5 : i = j := by
        have z := congrArg (fun a : Array Value => a[0]?) e0
        simp at z
        omega
      subst e5
      show Option.map (fun x => HO.tup [V.int (i : Nat), x]) xs[i]? = _
      rw [hx]
      rfl
  have I3 : Inv X pins σ H2 { s1 with heap := g2, toks := tk } := by
    have I3 := laid_many (H2 := H2) (g := g2) (tk := tk) I1 kall (fun b hb => if_pos (show b < g.objs.size by omega)) (fun b o hb e => ?_)
    · exact I3
    · by_cases h1 : b < g.objs.size
      · have e' : H1 b = some o := (if_pos h1).symm.trans e
        rw [I1.hok.fresh hb] at e'
        cases e'
      · have e' : mk b = some o := (if_neg h1).symm.trans e
        by_cases h2 : b = g.objs.size
        · have e2 : some (HO.lst ((acc.toList.map adr).map V.ref)) = some o := (if_pos h2).symm.trans e'
          cases e2
          subst h2
          refine ⟨by rw [List.length_map, tlen]; exact hz, acc.toList, c, ?_, by rw [Array.toArray_toList]; exact hS⟩
          have vals : ∀ l : List Value, (∀ v ∈ l, v = .ref (adr v)) → Vals ((l.map adr).map V.ref) l := fun l => by
            induction l with
            | nil => intro _; exact .nil
            | cons v r ih => intro hv; exact .cons (hv v List.mem_cons_self) (ih fun u hu => hv u (List.mem_cons_of_mem _ hu))
          exact vals _ hts
        · have e2 : (match (List.range xs.length).find? (fun i => (acc.toList.map adr)[i]? == some b) with
              | some i => (xs[i]?).map fun x => HO.tup [.int (i : Nat), x]
              | none => none) = some o := (if_neg h2).symm.trans e'
          cases hf : (List.range xs.length).find? (fun i => (acc.toList.map adr)[i]? == some b) with
          | none =>
            rw [hf] at e2
            cases e2
          | some j =>
            rw [hf] at e2
            have hj := List.find?_some hf
            have hj2 := List.mem_range.mp (List.mem_of_find?_eq_some hf)
            have hj3 : (acc.toList.map adr)[j]? = some b := by simpa using hj
            have e3 : some (HO.tup [.int (j : Nat), xs[j]]) = some o := by
              rw [← e2]
              show _ = Option.map (fun x => HO.tup [V.int (j : Nat), x]) xs[j]?
              rw [List.getElem?_eq_getElem hj2]
              rfl
            cases e3
            obtain ⟨T2, tk2, u2, g1, _, g3, g4⟩ := tget j xs[j] (List.getElem?_eq_getElem hj2)
            rw [hj3] at g1
            cases g1
            exact ⟨by show 2 ≤ sizeLine; decide, [.int (j : Nat) tk2, u2], .cons ⟨_, rfl⟩ (.cons g3 .nil), ⟨_, g4, rfl, _, rfl⟩⟩
  have same : Same H1 H2 := fun b o y => by
    show (if b < g.objs.size then H1 b else mk b) = some o
    rw [if_pos (show b < g.objs.size from Nat.lt_of_lt_of_le (I1.hok.lt y) (by rw [szg]; exact Nat.le_add_right _ _))]
    exact y
  have Snone : H1 g.objs.size = none := I1.hok.fresh (by omega)
  refine ⟨.ref g.objs.size, H2, I3, rfl, q H2 g.objs.size (acc.toList.map adr) same Snone ?_ tlen fun i x hx => ?_⟩
  · show (if g.objs.size < g.objs.size then H1 _ else mk _) = _
    rw [if_neg (Nat.lt_irrefl _)]
    exact if_pos rfl
  · obtain ⟨T, tk', u, e1, e2, e3, e4⟩ := tget i x hx
    exact ⟨T, e1, I1.hok.fresh (by omega), at_T i x T hx e1⟩
end
end RS
set_option Elab.async false
set_option maxRecDepth 100000
set_option maxHeartbeats 4000000
namespace RS
open PySem PySem.Spec PyProof.Rows L2 GX
/-- a for of n turns by a word of its own: the next turn -/
def ForNx (n : Nat) (Pv : Nat → L2.St → Hp → Prop) (i : Nat) (σ : L2.St) (H : Hp) : Prop := Pv (i + 1) σ H
theorem for_by {J : It} {g : TG} {tb : TS} {D : Ends} {σ : L2.St} {H : Hp} (n : Nat) (Pv : Nat → L2.St → Hp → Prop) (h0 : Pv 0 σ H)
    (turn : ∀ i σ H, i < n → Pv i σ H → J.go i H ∧ ∀ x H', J.yld i H x H' → g x σ H' fun σ2 H2 => tb { D with nx := Pv (i + 1), ct := Pv (i + 1), bk := D.nx } σ2 H2)
    (stop : ∀ σ H, Pv n σ H → J.stop n H ∧ D.nx σ H) :
    ∃ W : Nat → Nat → L2.St → Hp → Prop, (∃ m, W 0 m σ H) ∧ ∀ i m σ H, W i m σ H →
      (J.stop i H ∧ D.nx σ H) ∨ (J.go i H ∧ ∃ N : L2.St → Hp → Prop, (∀ σ' H', N σ' H' → ∃ m', m' < m ∧ W (i + 1) m' σ' H') ∧ ∀ x H', J.yld i H x H' → g x σ H' fun σ2 H2 => tb { D with nx := N, ct := N, bk := D.nx } σ2 H2) := by
  refine ⟨fun i m σ H => m = n - i ∧ i ≤ n ∧ Pv i σ H, ⟨n, rfl, Nat.zero_le _, h0⟩, ?_⟩
  rintro i m σ H ⟨rfl, hi, p⟩
  by_cases hlt : i < n
  · obtain ⟨go, nx⟩ := turn i σ H hlt p
    exact .inr ⟨go, Pv (i + 1), fun σ' H' p' => ⟨n - (i + 1), by omega, rfl, hlt, p'⟩, nx⟩
  · have e : i = n := by omega
    subst e
    exact .inl (stop σ H p)
theorem lc_by {J : It} {g : TG} {tt : TT} {te : TE} {vs : List Nat} {σ : L2.St} {H1 : Hp} {D : Addr} {Qd : Hp → Prop} (n : Nat) (Pv : Nat → Hp → Prop) (h0 : Pv 0 (upd H1 D (.lst [])))
    (turn : ∀ i H, i < n → Pv i H → J.go i H ∧ ∀ x H', J.yld i H x H' → g x (wipe σ vs) H' fun σ2 H2 => wipe σ2 vs = wipe σ vs ∧ tt σ2 H2 fun b H3 =>
      if b = true then te σ2 H3 fun y H4 => ∃ acc, H4 D = some (.lst acc) ∧ acc.length < sizeLine ∧ Pv (i + 1) (upd H4 D (.lst (acc ++ [y]))) else Pv (i + 1) H3)
    (stop : ∀ H, Pv n H → J.stop n H ∧ Qd H) :
    ∃ W : Nat → Nat → Hp → Prop, (∃ m, W 0 m (upd H1 D (.lst []))) ∧ ∀ i m H, W i m H →
      (J.stop i H ∧ Qd H) ∨ (J.go i H ∧ ∃ Nx : Hp → Prop, (∀ H', Nx H' → ∃ m', m' < m ∧ W (i + 1) m' H') ∧ ∀ x H', J.yld i H x H' → g x (wipe σ vs) H' fun σ2 H2 => wipe σ2 vs = wipe σ vs ∧ tt σ2 H2 fun b H3 =>
        if b = true then te σ2 H3 fun y H4 => ∃ acc, H4 D = some (.lst acc) ∧ acc.length < sizeLine ∧ Nx (upd H4 D (.lst (acc ++ [y]))) else Nx H3) := by
  refine ⟨fun i m H => m = n - i ∧ i ≤ n ∧ Pv i H, ⟨n, rfl, Nat.zero_le _, h0⟩, ?_⟩
  rintro i m H ⟨rfl, hi, p⟩
  by_cases hlt : i < n
  · obtain ⟨go, nx⟩ := turn i H hlt p
    exact .inr ⟨go, Pv (i + 1), fun H' p' => ⟨n - (i + 1), by omega, rfl, hlt, p'⟩, nx⟩
  · have e : i = n := by omega
    subst e
    exact .inl (stop H p)

/-! ### numbered things -/
def enumP {α : Type} : Nat → List α → List (Nat × α)
  | _, [] => []
  | k, x :: xs => (k, x) :: enumP (k + 1) xs
theorem enumP_get {α : Type} : ∀ (l : List α) (k i : Nat), (enumP k l)[i]? = l[i]?.map fun x => (k + i, x)
  | [], k, i => by simp [enumP]
  | x :: xs, k, 0 => by simp [enumP]
  | x :: xs, k, i + 1 => by
    show (enumP (k + 1) xs)[i]? = _
    rw [enumP_get xs (k + 1) i]
    have e : k + 1 + i = k + (i + 1) := by omega
    rw [e]
    simp
theorem enumP_length {α : Type} : ∀ (l : List α) (k : Nat), (enumP k l).length = l.length
  | [], _ => rfl
  | _ :: xs, k => congrArg (· + 1) (enumP_length xs (k + 1))
/-- a (number, row) -/
def pairD (q : Nat × List PyData) : PyData := .tuple [.int q.1, .tuple q.2]
def pairsD (l : List (Nat × List PyData)) : PyData := .list (l.map pairD)

/-- data by places -/
theorem dpAll_by {K : PySem.W.Frag} {H : Hp} : ∀ {vs : List V} {ds : List PyData}, vs.length = ds.length → (∀ (i : Nat) (v : V) (d : PyData), vs[i]? = some v → ds[i]? = some d → Dp K H v d) → DpAll K H vs ds
  | [], [], _, _ => .nil
  | [], _ :: _, h, _ => by simp at h
  | _ :: _, [], h, _ => by simp at h
  | v :: vs, d :: ds, h, k => .cons (k 0 v d rfl rfl) (dpAll_by (by simpa using h) fun i v d e1 e2 => k (i + 1) v d (by simpa using e1) (by simpa using e2))
end RS
set_option Elab.async false
set_option maxRecDepth 100000
set_option maxHeartbeats 4000000
namespace RS
open PySem PySem.Spec PyProof.Rows L2 GX

/-! ### orders -/
def wayS (b : Bool) : Str := if b then "down" else "up"
def partD (p : Nat × Bool) : PyData := .tuple [.int p.1, .str (wayS p.2)]
def orderD (os : List (Nat × Bool)) : PyData := .list (os.map partD)
structure OkOrder (n : Nat) (os : List (Nat × Bool)) : Prop where
  some_ : os ≠ []
  col : ∀ p ∈ os, p.1 < n
  nd : (os.map (·.1)).Nodup
def rowsD (rs : List (List PyData)) : PyData := .list (rs.map .tuple)

theorem inV_kind (b : Bool) : inV (.str (kindS b)) [.str "number", .str "word"] = true := by
  cases b
  · decide +kernel
  · decide +kernel
theorem inV_way (b : Bool) : inV (.str (wayS b)) [.str "up", .str "down"] = true := by
  cases b
  · decide +kernel
  · decide +kernel

theorem nodup_nat {l : List Nat} (h : l.Nodup) {i j c : Nat} (a : l[i]? = some c) (b : l[j]? = some c) : i = j := by
  obtain ⟨h1, e1⟩ := List.getElem?_eq_some_iff.mp a
  obtain ⟨h2, e2⟩ := List.getElem?_eq_some_iff.mp b
  exact (List.getElem_inj h).mp (e1.trans e2.symm)
section
variable {P : Program} {w : World} {K : PySem.W.Frag} {mg : Str → Option Value} {base : Heap}
theorem scIsPart : FnScope ["kinds", "part", "column", "way"] ["kinds", "part"] (defScope sIsPart) := ⟨rfl, rfl, rfl, by decide +kernel, rfl, by decide +kernel, by decide +kernel⟩
def spPart (K : PySem.W.Frag) : Sp := fun vs H Q _ => ∃ (vk vp : V) (ks : List Bool) (p : Nat × Bool), vs = [vk, vp] ∧ Dp K H vk (kindsD ks) ∧ Dp K H vp (partD p) ∧ p.1 < ks.length ∧ Q (.bl true) H
theorem is_part_ok {c : Addr} (D : DefAt K mg "is_part" sIsPart c) (T : Txt K mg) (cN : Cal P w K mg base CX0 1 "is_number" ["value"] (spNum K)) : Cal P w K mg base CX0 2 "is_part" ["kinds", "part"] (spPart K) := by
  have sc := scIsPart
  obtain ⟨aW, hW, hWS⟩ := T.ways
  refine def_ok0 D sc (fun vs H Q E h => ?_) (fun _ _ _ _ _ _ us hl => match us, hl with | [_, _], _ => rfl) (fun f A outer s H vs Q E hr h => ?_)
  · obtain ⟨vk, vp, ks, p, rfl, _⟩ := h
    rfl
  · obtain ⟨vk, vp, ks, ⟨c, b⟩, rfl, hk, hp, hc, k⟩ := h
    refine ⟨_, (pss_cons (ps_if ((pw_or (pt_not (pt_val (pe_callB call_isiD (by rfl) T.isinstance (by decide +kernel) (pa_cons (pv 1) (pa_cons (pe_bltn (v := V.ty "tuple") (u := Value.type "tuple") (by rfl) T.tuple_ (by decide +kernel) rfl) pa_nil))))) (pw_or1 (pt_cmpR op_ne (pe_callB call_lenD (by rfl) T.len PySem.boot_len (pa_cons (pv 1) pa_nil)) pe_int (nomark _)))).pt) (pss_one (ps_ret pe_bl)) pss_nil) (pss_cons (ps_asg (pv 1) (pg_tup (by rfl) (pgs_cons (pg_name (i := 2) sc.nd rfl (Or.inl rfl)) (pgs_cons (pg_name (i := 3) sc.nd rfl (Or.inl rfl)) pgs_nil)))) (pss_one (ps_ret (pe_and (pe_c cN hr (by decide) (by rfl) pass0 (pa_cons (pv 2) pa_nil)) (pe_and (pe_chain op_le op_lt pe_int (pv 2) (pe_callB call_lenD (by rfl) T.len PySem.boot_len (pa_cons (pv 0) pa_nil))) (pe_one (pe_cmpR op_in_seq (pv 3) (pe_glob (v := V.ref aW) (by rfl) hW rfl) (by rfl))))))))), ?_⟩
    refine ⟨_, rfl, _, _, _, rfl, by simp, hp, _, rfl, ?_⟩
    refine iteF ⟨_, rfl, _, _, 2, rfl, hp, rfl, rfl, _, rfl, ?_⟩
    refine iteF ⟨_, rfl, ?_⟩
    cases hp with
    | @tup a xs _ hS hI =>
      cases hI with
      | cons h1 hI =>
        cases hI with
        | cons h2 hI =>
          cases hI
          cases h1
          cases h2
          refine ⟨a, _, rfl, hS, rfl, _, _, rfl, _, _, rfl, rfl, ?_⟩
          refine ⟨_, rfl, _, _, rfl, .int (c : Int), _, rfl, ?_⟩
          have hn : isNum (.int (c : Int)) = true := by simp [isNum, isI, isT, tyN]
          rw [hn]
          refine iteT ?_
          refine ⟨_, rfl, _, _, rfl, rfl, _, rfl, ?_⟩
          have h0 : decide ((0 : Int) ≤ (c : Int)) = true := decide_eq_true (Int.natCast_nonneg c)
          rw [h0]
          refine iteT ⟨_, rfl, _, _, (ks.map fun b => PyData.str (kindS b)).length, rfl, hk, rfl, _, _, rfl, rfl, _, rfl, ?_⟩
          have h3 : decide ((c : Int) < ((ks.map fun b => PyData.str (kindS b)).length : Nat)) = true := decide_eq_true (by
            rw [List.length_map]
            exact Int.ofNat_lt.mpr hc)
          rw [h3]
          refine iteT ⟨_, rfl, aW, _, rfl, .inr (hWS _), rfl, rfl, ?_⟩
          show Q (.bl (if false then _ else inV (.str (wayS b)) [.str "up", .str "down"])) H
          rw [inV_way]
          exact k

theorem scCheckKinds : FnScope ["kinds", "kind"] ["kinds"] (defScope sCheckKinds) := ⟨rfl, rfl, rfl, by decide +kernel, rfl, by decide +kernel, by decide +kernel⟩
def spCheckKinds (K : PySem.W.Frag) (p : Addr) : Sp := fun vs H Q _ => ∃ (vk : V) (ks : List Bool), vs = [vk] ∧ Dp K H vk (kindsD ks) ∧ 1 ≤ ks.length ∧ ks.length ≤ 4 ∧ Tab H p ∧ Q .non H
theorem check_kinds_ok {c p : Addr} (D : DefAt K mg "check_kinds" sCheckKinds c) (T : Txt K mg) (TB : GxR.TabB base mg c p) : Cal P w K mg base CX0 2 "check_kinds" ["kinds"] (spCheckKinds K p) := by
  have sc := scCheckKinds
  obtain ⟨aK, hK, hKS⟩ := T.kinds
  obtain ⟨tCol, hC⟩ := T.columns
  refine def_ok0 D sc (fun vs H Q E h => ?_) (fun _ _ _ _ _ _ us hl => match us, hl with | [_], _ => rfl) (fun f A outer s H vs Q E hr h => ?_)
  · obtain ⟨vk, ks, rfl, _⟩ := h
    rfl
  · obtain ⟨vk, ks, rfl, hk, h1, h4, ht, k⟩ := h
    refine ⟨_, (pss_cons (ps_if ((pw_or (pt_not (pt_val (pe_callB call_isiD (by rfl) T.isinstance (by decide +kernel) (pa_cons (pv 0) (pa_cons (pe_bltn (v := V.ty "tuple") (u := Value.type "tuple") (by rfl) T.tuple_ (by decide +kernel) rfl) pa_nil))))) (pw_or1 (pt_not (pt_chain op_le op_le pe_int (pe_callB call_lenD (by rfl) T.len PySem.boot_len (pa_cons (pv 0) pa_nil)) (pe_glob (v := V.int 4) (by rfl) hC ⟨_, rfl⟩))))).pt) pss_never pss_nil) (pss_one (ps_if (pt_not (pt_val (pe_all (own := [("kind", 1)]) (te := tOp (rIn K false) (tVar 1) (tC (.ref aK))) hr rfl T.all TB rfl rfl sc.nd (blkOk_by (N := ["kinds", "kind"]) (sc := defScope sCheckKinds) (own := [("kind", 1)]) (by decide +kernel)) (by decide +kernel) rfl rfl (pi_tup (pv 0)) (fun _ _ _ _ _ _ _ => (pg_name (i := 1) sc.nd rfl (Or.inl rfl))) (fun _ _ _ _ _ _ _ hr => pe_cmpR op_in_seq (pv 1) (pe_glob (v := V.ref aK) (by rfl) hK rfl) (by rfl))))) pss_never pss_nil))), ?_⟩
    refine ⟨_, rfl, _, _, _, rfl, by simp, hk, _, rfl, ?_⟩
    refine iteF ⟨_, rfl, _, _, (ks.map fun b => PyData.str (kindS b)).length, rfl, hk, rfl, _, _, rfl, rfl, _, rfl, ?_⟩
    rw [List.length_map]
    have e1 : decide ((1 : Int) ≤ (ks.length : Nat)) = true := decide_eq_true (by omega)
    have e2 : decide (((ks.length : Nat) : Int) ≤ 4) = true := decide_eq_true (by omega)
    rw [e1]
    refine iteT ⟨_, _, rfl, rfl, _, rfl, ?_⟩
    rw [e2]
    refine iteF ?_
    cases hk with
    | @tup a xs _ hS hI =>
      refine ⟨_, rfl, a, rfl, ⟨xs, hS⟩, ht, ?_⟩
      have lx : xs.length = ks.length := by rw [dpLen hI, List.length_map]
      refine all_by xs.length (fun i H' => H' = H) rfl (fun i H' hi e => ?_) (fun H' e => ?_)
      · subst e
        refine ⟨⟨xs, xs[i], hS, List.getElem?_eq_getElem hi⟩, fun y H2 ⟨e, hy⟩ => ?_⟩
        subst e
        have ey := hy xs hS
        obtain ⟨d, ed, hd⟩ := dpGet hI ey
        obtain ⟨b, rfl⟩ : ∃ b, d = PyData.str (kindS b) := by
          rw [List.getElem?_map] at ed
          cases q : ks[i]? with
          | none => rw [q] at ed; cases ed
          | some b => rw [q] at ed; exact ⟨b, (Option.some.inj ed).symm⟩
        cases hd
        refine ⟨rfl, _, rfl, aK, _, rfl, .inr (hKS _), rfl, rfl, ?_⟩
        refine ⟨true, ?_, fun _ => .mk hi rfl, fun z => nomatch z⟩
        show V.bl (if false then _ else inV (.str (kindS b)) [.str "number", .str "word"]) = _
        rw [inV_kind]
        rfl
      · subst e
        exact ⟨⟨xs, hS, Nat.le_refl _⟩, _, rfl, iteF k⟩

theorem scCheckOrder : FnScope ["kinds", "order", "columns", "part"] ["kinds", "order"] (defScope sCheckOrder) := ⟨rfl, rfl, rfl, by decide +kernel, rfl, by decide +kernel, by decide +kernel⟩
def spCheckOrder (K : PySem.W.Frag) : Sp := fun vs H Q _ => ∃ (vk vo : V) (ks : List Bool) (os : List (Nat × Bool)), vs = [vk, vo] ∧ Dp K H vk (kindsD ks) ∧ Dp K H vo (orderD os) ∧ OkOrder ks.length os ∧ os.length ≤ 1000 ∧ ∀ H', Same H H' → Q .non H'
theorem check_order_ok {c : Addr} (D : DefAt K mg "check_order" sCheckOrder c) (T : Txt K mg) (cP : Cal P w K mg base CX0 2 "is_part" ["kinds", "part"] (spPart K)) : Cal P w K mg base CX0 3 "check_order" ["kinds", "order"] (spCheckOrder K) := by
  have sc := scCheckOrder
  refine def_ok0 D sc (fun vs H Q E h => ?_) (fun _ _ _ _ _ _ us hl => match us, hl with | [_, _], _ => rfl) (fun f A outer s H vs Q E hr h => ?_)
  · obtain ⟨vk, vo, ks, os, rfl, _⟩ := h
    rfl
  · obtain ⟨vk, vo, ks, os, rfl, hk, ho, hok, hz, k⟩ := h
    refine ⟨_, (pss_cons (ps_if ((pw_or (pt_not (pt_val (pe_callB call_isiD (by rfl) T.isinstance (by decide +kernel) (pa_cons (pv 1) (pa_cons (pe_bltn (v := V.ty "list") (u := Value.type "list") (by rfl) T.list_ (by decide +kernel) rfl) pa_nil))))) (pw_or1 (pt_not (pt_truth (pv 1) (by intro _; rfl))))).pt) pss_never pss_nil) (pss_cons (ps_set (i := 2) sc.nd rfl (Or.inl rfl) (pe_lst pa_nil)) (pss_one (ps_for PassesOwn.never rfl (pi_list (pv 1)) (pg_name (i := 3) sc.nd rfl (Or.inl rfl)) (pss_cons (ps_if ((pw_or (pt_not (pt_val (pe_c cP hr (by decide) (by rfl) pass0 (pa_cons (pv 0) (pa_cons (pv 3) pa_nil))))) (pw_or1 (pt_cmpR op_in_seq (pe_ix ixD (pv 3) pe_int (fun _ _ => rfl)) (pv 2) (by rfl)))).pt) pss_never pss_nil) (pss_one (ps_expr (pe_bm PySem.F.plainAttrs_list PySem.F.slot_list_append PySem.F.type_list_append mt_append (pv 2) (pa_cons (pe_ix ixD (pv 3) pe_int (fun _ _ => rfl)) pa_nil))))))))), ?_⟩
    refine ⟨_, rfl, _, _, _, rfl, by simp, ho, _, rfl, ?_⟩
    cases ho with
    | @lst a xs _ hS hI =>
      have lx : xs.length = os.length := by rw [dpLen hI, List.length_map]
      have ne : xs.isEmpty = false := by
        cases xs with
        | nil =>
          have : os.length = 0 := by rw [← lx]; rfl
          exact absurd (List.eq_nil_of_length_eq_zero this) hok.some_
        | cons _ _ => rfl
      refine iteF ⟨_, rfl, !xs.isEmpty, .inl ⟨xs, hS, rfl⟩, ?_⟩
      rw [ne]
      refine iteF ⟨Nat.zero_le _, fun p hp => ?_⟩
      have s0 : Same H (upd H p (.lst [])) := fun b o e => by rw [upd_ne (ne_of_none e hp)]; exact e
      refine ⟨_, rfl, a, rfl, ⟨_, s0.seq hS⟩, for_list (K := K) (a := a) (xs := xs) (fun i σ H' => ∃ v3 : Option V, σ = [some vk, some (.ref a), some (.ref p), v3] ∧ Same H H' ∧ H' p = some (.lst ((os.take i).map fun q => V.int q.1)))
        ⟨none, rfl, s0, upd_same⟩ (fun i σ H' _ ⟨_, _, sm, _⟩ => sm.seq hS) ?_ ?_⟩
      · rintro i y σ H' hi ⟨v3, rfl, sm, hL⟩
        obtain ⟨d, ed, hd⟩ := dpGet hI hi
        obtain ⟨⟨c, b⟩, eq, rfl⟩ : ∃ q, os[i]? = some q ∧ d = partD q := by
          rw [List.getElem?_map] at ed
          cases q : os[i]? with
          | none => rw [q] at ed; cases ed
          | some b => rw [q] at ed; exact ⟨b, rfl, (Option.some.inj ed).symm⟩
        have hm := List.mem_of_getElem? eq
        have hd' := dp_same sm _ hd
        have hi' : i < os.length := (List.getElem?_eq_some_iff.mp eq).1
        refine ⟨_, rfl, _, rfl, vk, y, ks, (c, b), rfl, dp_same sm _ hk, hd', hok.col _ hm, _, rfl, ?_⟩
        refine iteF ⟨_, rfl, _, _, 0, .int c, hd', rfl, rfl, rfl, fun v hv => ?_⟩
        cases hv
        have notin : inV (.int c) ((os.take i).map fun q => V.int q.1) = false := by
          rw [Bool.eq_false_iff]
          intro z
          unfold inV at z
          obtain ⟨u, hu, he⟩ := List.any_eq_true.mp z
          obtain ⟨q, hq, rfl⟩ := List.mem_map.mp hu
          obtain ⟨j, hj⟩ := List.getElem?_of_mem hq
          rw [List.getElem?_take] at hj
          split at hj
          · rename_i hji
            have e1 : q.1 = c := by
              simp [eqV] at he
              omega
            have h1 : (os.map (·.1))[j]? = some c := by rw [List.getElem?_map, hj, ← e1]; rfl
            have h2 : (os.map (·.1))[i]? = some c := by rw [List.getElem?_map, eq]; rfl
            have := nodup_nat hok.nd h1 h2
            omega
          · cases hj
        refine ⟨_, rfl, p, _, rfl, .inl (SqL.of hL), rfl, ?_, ?_⟩
        · rw [List.all_eq_true]
          intro z hz
          obtain ⟨q, _, rfl⟩ := List.mem_map.mp hz
          rfl
        show ∃ k, V.bl (if false then _ else inV (.int c) ((os.take i).map fun q => V.int q.1)) = V.bl k ∧ _
        rw [notin]
        refine ⟨false, rfl, iteF ?_⟩
        refine ⟨_, rfl, .inl ⟨rfl, _, SqL.of hL⟩, _, rfl, _, _, 0, .int c, hd', rfl, rfl, rfl, fun v hv => ?_⟩
        cases hv
        refine ⟨p, _, _, rfl, rfl, hL, small1000 (by rw [List.length_map, List.length_take]; omega), ?_⟩
        refine ⟨_, rfl, fun b' o e => ?_, ?_⟩
        · rw [upd_ne (fun z => by subst z; rw [hp] at e; cases e)]
          exact sm b' o e
        · rw [upd_same, List.take_add_one, eq, List.map_append]
          rfl
      · rintro σ H' ⟨v3, rfl, sm, hL⟩
        exact k _ sm
end
end RS
set_option Elab.async false
set_option maxRecDepth 100000
set_option maxHeartbeats 4000000
namespace RS
open PySem PySem.Spec PyProof.Rows L2 GX
/-! ### data without lists -/
mutual
def noL : PyData → Bool
  | .list _ => false
  | .dict _ => false
  | .tuple ds => noLs ds
  | _ => true
def noLs : List PyData → Bool
  | [] => true
  | d :: ds => noL d && noLs ds
end
theorem noLs_iff : ∀ {ds : List PyData}, noLs ds = true ↔ ∀ d ∈ ds, noL d = true
  | [] => by simp [noLs]
  | d :: ds => by
    unfold noLs
    rw [Bool.and_eq_true, noLs_iff]
    simp
theorem sqT_upd {K : PySem.W.Frag} {H : Hp} {a b : Addr} {xs u ys : List V} (hH : H a = some (.lst xs)) (h : SqT K H b ys) : SqT K (upd H a (.lst u)) b ys := by
  rcases h with (h | ⟨o, h⟩) | h
  · refine .inl (.inl ?_)
    rw [upd_ne (fun z => by rw [z, hH] at h; cases h)]
    exact h
  · refine .inl (.inr ⟨o, ?_⟩)
    rw [upd_ne (fun z => by rw [z, hH] at h; cases h)]
    exact h
  · exact .inr h
mutual
theorem dp_upd {K : PySem.W.Frag} {H : Hp} {a : Addr} {xs u : List V} (hH : H a = some (.lst xs)) : ∀ (d : PyData) {v : V}, noL d = true → Dp K H v d → Dp K (upd H a (.lst u)) v d
  | .none, _, _, .non => .non
  | .bool b, _, _, .bl _ => .bl b
  | .int i, _, _, .int _ => .int i
  | .str x, _, _, .str _ => .str x
  | .list ds, _, h, _ => by cases h
  | .tuple ds, _, h, .tup q hs => .tup (sqT_upd hH q) (dpAll_upd hH ds h hs)
  | .dict _, _, h, _ => by cases h
theorem dpAll_upd {K : PySem.W.Frag} {H : Hp} {a : Addr} {xs u : List V} (hH : H a = some (.lst xs)) : ∀ (ds : List PyData) {vs : List V}, noLs ds = true → DpAll K H vs ds → DpAll K (upd H a (.lst u)) vs ds
  | [], _, _, .nil => .nil
  | d :: ds, _, h, .cons q hs => by
    unfold noLs at h
    rw [Bool.and_eq_true] at h
    exact .cons (dp_upd hH d h.1 q) (dpAll_upd hH ds h.2 hs)
end
/-- a list is changed that is none of those ahead -/
theorem dp_upd' {K : PySem.W.Frag} {H H' : Hp} {a : Addr} {xs u : List V} (s : Same H H') (hn : H a = none) {d : PyData} {v : V} (q : Dp K H v d) : Dp K (upd H' a (.lst u)) v d :=
  dp_same (fun b o e => by rw [upd_ne (ne_of_none e hn)]; exact s b o e) d q

theorem depth0 : ∀ {ds : List PyData}, (∀ d ∈ ds, d.depth = 0) → PyData.depthAll ds = 0
  | [], _ => by simp [PyData.depthAll]
  | d :: ds, h => by
    simp only [PyData.depthAll]
    rw [h d List.mem_cons_self, depth0 fun e he => h e (List.mem_cons_of_mem _ he)]
    rfl
theorem upd_no {H : Hp} {a b : Addr} {o : HO} (e : upd H a o b = none) : H b = none := by
  by_cases z : b = a
  · rw [z, upd_same] at e
    cases e
  · rw [upd_ne z] at e
    exact e
theorem cond_by {tc : TT} {σ : L2.St} {H : Hp} {Q : Bool → Hp → Prop} (b : Bool) (N : Hp → Prop) (h1 : ∀ Q' : Bool → Hp → Prop, (∀ H2, N H2 → Q' b H2) → tc σ H Q') (h2 : ∀ H2, N H2 → Q b H2) : tc σ H Q := h1 Q h2
theorem iteT' {b : Bool} {A B : Prop} (e : b = true) (h : A) : if b = true then A else B := by
  rw [if_pos e]
  exact h
theorem iteF' {b : Bool} {A B : Prop} (e : b = false) (h : B) : if b = true then A else B := by
  rw [if_neg (by rw [e]; decide)]
  exact h
end RS
set_option Elab.async false
set_option maxRecDepth 100000
set_option maxHeartbeats 4000000
namespace RS
open PySem PySem.Spec PyProof.Rows L2 GX
/-! ### lengths and ways -/
def lensD (ls : List Nat) : PyData := .list (ls.map fun n => .int (n : Nat))
structure OkLens (ls : List Nat) : Prop where
  one : 1 ≤ ls.length
  most : ls.length ≤ 40
  each : ∀ n ∈ ls, 1 ≤ n ∧ n ≤ 1000000
section
variable {P : Program} {w : World} {K : PySem.W.Frag} {mg : Str → Option Value} {base : Heap}
theorem scCheckLengths : FnScope ["lengths", "length"] ["lengths"] (defScope s_check_lengths) := ⟨rfl, rfl, rfl, by decide +kernel, rfl, by decide +kernel, by decide +kernel⟩
def spCheckLengths (K : PySem.W.Frag) (p : Addr) : Sp := fun vs H Q _ => ∃ (vl : V) (ls : List Nat), vs = [vl] ∧ Dp K H vl (lensD ls) ∧ OkLens ls ∧ Tab H p ∧ ∀ H', Same H H' → Q .non H'
theorem check_lengths_ok {c p : Addr} (D : DefAt K mg "check_lengths" s_check_lengths c) (T : Txt K mg) (TB : GxR.TabB base mg c p) (cN : Cal P w K mg base CX0 1 "is_number" ["value"] (spNum K)) : Cal P w K mg base CX0 3 "check_lengths" ["lengths"] (spCheckLengths K p) := by
  have sc := scCheckLengths
  obtain ⟨tA, hA⟩ := T.lengths
  obtain ⟨tB, hB⟩ := T.length
  refine def_ok0 D sc (fun vs H Q E h => ?_) (fun _ _ _ _ _ _ us hl => match us, hl with | [_], _ => rfl) (fun f A outer s H vs Q E hr h => ?_)
  · obtain ⟨vl, ls, rfl, _⟩ := h
    rfl
  · obtain ⟨vl, ls, rfl, hl, ok, ht, k⟩ := h
    refine ⟨_, (pss_cons (ps_if ((pw_or (pt_not (pt_val (pe_callB call_isiD (by rfl) T.isinstance (by decide +kernel) (pa_cons (pv 0) (pa_cons (pe_bltn (v := V.ty "list") (u := Value.type "list") (by rfl) T.list_ (by decide +kernel) rfl) pa_nil))))) (pw_or1 (pt_not (pt_chain op_le op_le pe_int (pe_callB call_lenD (by rfl) T.len PySem.boot_len (pa_cons (pv 0) pa_nil)) (pe_glob (v := V.int 40) (by rfl) hA ⟨_, rfl⟩))))).pt) pss_never pss_nil) (pss_one (ps_if (pt_not (pt_val (pe_all (own := [("length", 1)])  hr rfl T.all TB rfl rfl sc.nd (blkOk_by (N := ["lengths", "length"]) (sc := defScope s_check_lengths) (own := [("length", 1)]) (by decide +kernel)) (by decide +kernel) rfl rfl (pi_list (pv 0)) (fun _ _ _ _ _ _ _ => (pg_name (i := 1) sc.nd rfl (Or.inl rfl))) (fun _ _ _ _ _ _ _ hr => pe_and (pe_c cN hr (by decide) (by rfl) pass0 (pa_cons (pv 1) pa_nil)) (pe_one (pe_chain op_le op_le pe_int (pv 1) (pe_glob (v := V.int 1000000) (by rfl) hB ⟨_, rfl⟩))))))) pss_never pss_nil))), ?_⟩
    refine ⟨_, rfl, _, _, _, rfl, by simp, hl, _, rfl, ?_⟩
    refine iteF ⟨_, rfl, _, _, (ls.map fun n => PyData.int (n : Nat)).length, rfl, hl, rfl, _, _, rfl, rfl, _, rfl, ?_⟩
    rw [List.length_map]
    have o1 := ok.one
    have o2 := ok.most
    have e1 : decide ((1 : Int) ≤ (ls.length : Nat)) = true := decide_eq_true (by omega)
    have e2 : decide (((ls.length : Nat) : Int) ≤ 40) = true := decide_eq_true (by omega)
    rw [e1]
    refine iteT ⟨_, _, rfl, rfl, _, rfl, ?_⟩
    rw [e2]
    refine iteF ?_
    cases hl with
    | @lst a xs _ hS hI =>
      refine ⟨_, rfl, a, rfl, ⟨xs, hS⟩, ht, ?_⟩
      have lx : xs.length = ls.length := by rw [dpLen hI, List.length_map]
      refine all_by xs.length (fun i H' => Same H H') (Same.refl H) (fun i H' hi sm => ?_) (fun H' sm => ?_)
      · refine ⟨⟨xs, xs[i], sm.seq hS, List.getElem?_eq_getElem hi⟩, fun y H2 ⟨e, hy⟩ => ?_⟩
        have ey := hy xs (sm.seq hS)
        obtain ⟨d, ed, hd⟩ := dpGet hI ey
        obtain ⟨n, en, rfl⟩ : ∃ n, ls[i]? = some n ∧ d = PyData.int (n : Nat) := by
          rw [List.getElem?_map] at ed
          cases q : ls[i]? with
          | none => rw [q] at ed; cases ed
          | some b => rw [q] at ed; exact ⟨b, rfl, (Option.some.inj ed).symm⟩
        cases hd
        obtain ⟨m1, m2⟩ := ok.each n (List.mem_of_getElem? en)
        subst e
        refine ⟨rfl, _, rfl, _, _, rfl, .int (n : Int), _, rfl, ?_⟩
        have hn : isNum (.int (n : Int)) = true := by simp [isNum, isI, isT, tyN]
        rw [hn]
        refine iteT ⟨_, rfl, _, _, rfl, rfl, _, rfl, ?_⟩
        have e3 : decide ((1 : Int) ≤ (n : Nat)) = true := decide_eq_true (by omega)
        have e4 : decide (((n : Nat) : Int) ≤ 1000000) = true := decide_eq_true (by omega)
        rw [e3]
        refine iteT ⟨_, _, rfl, rfl, _, rfl, fun _ => .mk hi ?_, fun z => ?_⟩
        · exact sm
        · rw [e4] at z
          cases z
      · exact ⟨⟨xs, sm.seq hS, Nat.le_refl _⟩, _, rfl, iteF (k _ sm)⟩

theorem scCheckWays : FnScope ["ways"] ["ways"] (defScope s_check_ways) := ⟨rfl, rfl, rfl, by decide +kernel, rfl, by decide +kernel, by decide +kernel⟩
def spCheckWays : Sp := fun vs H Q _ => ∃ (n : Int), vs = [.int n] ∧ 2 ≤ n ∧ n ≤ 6 ∧ Q .non H
theorem check_ways_ok {c : Addr} (D : DefAt K mg "check_ways" s_check_ways c) (T : Txt K mg) (cN : Cal P w K mg base CX0 1 "is_number" ["value"] (spNum K)) : Cal P w K mg base CX0 2 "check_ways" ["ways"] spCheckWays := by
  have sc := scCheckWays
  obtain ⟨tA, hA⟩ := T.leastw
  obtain ⟨tB, hB⟩ := T.mostw
  refine def_ok0 D sc (fun vs H Q E h => ?_) (fun _ _ _ _ _ _ us hl => match us, hl with | [_], _ => rfl) (fun f A outer s H vs Q E hr h => ?_)
  · obtain ⟨n, rfl, _⟩ := h
    rfl
  · obtain ⟨n, rfl, h1, h2, k⟩ := h
    refine ⟨_, (pss_one (ps_if ((pw_or (pt_not (pt_val (pe_c cN hr (by decide) (by rfl) pass0 (pa_cons (pv 0) pa_nil)))) (pw_or1 (pt_not (pt_chain op_le op_le (pe_glob (v := V.int 2) (by rfl) hA ⟨_, rfl⟩) (pv 0) (pe_glob (v := V.int 6) (by rfl) hB ⟨_, rfl⟩))))).pt) pss_never pss_nil)), ?_⟩
    refine ⟨_, rfl, _, _, rfl, .int n, _, rfl, ?_⟩
    have hn : isNum (.int n) = true := by simp [isNum, isI, isT, tyN]
    rw [hn]
    refine iteF ⟨_, rfl, _, _, rfl, rfl, _, rfl, ?_⟩
    rw [decide_eq_true h1]
    refine iteT ⟨_, _, rfl, rfl, _, rfl, ?_⟩
    rw [decide_eq_true h2]
    exact iteF k

theorem scCheckMerging : FnScope ["lengths", "ways"] ["lengths", "ways"] (defScope s_check_merging) := ⟨rfl, rfl, rfl, by decide +kernel, rfl, by decide +kernel, by decide +kernel⟩
def spCheckMerging (K : PySem.W.Frag) (p : Addr) : Sp := fun vs H Q _ => ∃ (vl : V) (ls : List Nat) (n : Int), vs = [vl, .int n] ∧ Dp K H vl (lensD ls) ∧ OkLens ls ∧ 2 ≤ n ∧ n ≤ 6 ∧ Tab H p ∧ ∀ H', Same H H' → Q .non H'
theorem check_merging_ok {c p : Addr} (D : DefAt K mg "check_merging" s_check_merging c) (cL : Cal P w K mg base CX0 3 "check_lengths" ["lengths"] (spCheckLengths K p)) (cW : Cal P w K mg base CX0 2 "check_ways" ["ways"] spCheckWays) : Cal P w K mg base CX0 4 "check_merging" ["lengths", "ways"] (spCheckMerging K p) := by
  have sc := scCheckMerging
  refine def_ok0 D sc (fun vs H Q E h => ?_) (fun _ _ _ _ _ _ us hl => match us, hl with | [_, _], _ => rfl) (fun f A outer s H vs Q E hr h => ?_)
  · obtain ⟨vl, ls, n, rfl, _⟩ := h
    rfl
  · obtain ⟨vl, ls, n, rfl, hl, ok, h1, h2, ht, k⟩ := h
    refine ⟨_, (pss_cons (ps_expr (pe_c cL hr (by decide) (by rfl) pass0 (pa_cons (pv 0) pa_nil))) (pss_one (ps_expr (pe_c cW hr (by decide) (by rfl) pass0 (pa_cons (pv 1) pa_nil))))), ?_⟩
    refine ⟨_, rfl, vl, ls, rfl, hl, ok, ht, fun H' sm => ?_⟩
    exact ⟨_, rfl, n, rfl, h1, h2, k H' sm⟩
end
end RS
set_option Elab.async false
set_option maxRecDepth 100000
set_option maxHeartbeats 4000000
namespace RS
open PySem PySem.Spec PyProof.Rows L2 GX
/-! ### the drawer -/
structure BoxAt (H : Hp) (B L : Addr) : Prop where
  ne : B ≠ L
  b : ∃ s : Int, H B = some (.lst [.ref L, .int s])
  l : ∃ ms : List Int, H L = some (.lst (ms.map V.int))
/-- all but the drawer stays -/
def SameX (B L : Addr) (H H' : Hp) : Prop := ∀ b o, b ≠ B → b ≠ L → H b = some o → H' b = some o
theorem SameX.refl {B L : Addr} {H : Hp} : SameX B L H H := fun _ _ _ _ e => e
theorem SameX.trans {B L : Addr} {H H1 H2 : Hp} (a : SameX B L H H1) (b : SameX B L H1 H2) : SameX B L H H2 := fun c o h1 h2 e => b c o h1 h2 (a c o h1 h2 e)
theorem SameX.of {B L : Addr} {H H' : Hp} (s : Same H H') : SameX B L H H' := fun b o _ _ e => s b o e
theorem BoxAt.same {H H' : Hp} {B L : Addr} (h : BoxAt H B L) (s : Same H H') : BoxAt H' B L := by
  obtain ⟨n, ⟨x, hb⟩, ⟨ms, hl⟩⟩ := h
  exact ⟨n, ⟨x, s _ _ hb⟩, ⟨ms, s _ _ hl⟩⟩
section
variable {P : Program} {w : World} {K : PySem.W.Frag} {mg : Str → Option Value} {base : Heap}
theorem dpInts {K : PySem.W.Frag} {H : Hp} : ∀ {ns : List Int}, DpAll K H (ns.map V.int) (ns.map .int)
  | [] => .nil
  | n :: _ => .cons (.int n) dpInts
theorem scBegun : FnScope ["_law_script", "_law_stirred", "_law_cell"] ["_law_script"] (defScope sBegun) := ⟨rfl, rfl, rfl, by decide +kernel, rfl, by decide +kernel, by decide +kernel⟩
def spBegun (K : PySem.W.Frag) : Sp := fun vs H Q _ => ∃ (a : Addr) (ns : List Int), vs = [.ref a] ∧ SqL K H a (ns.map V.int) ∧
  ∀ (H' : Hp) (B L : Addr), Same H H' → H B = none → H L = none → BoxAt H' B L → Q (.ref B) H'
theorem begun_ok {c : Addr} (D : DefAt K mg "_law_begun" sBegun c) (T : Txt K mg) : Cal P w K mg base CX0 1 "_law_begun" ["_law_script"] (spBegun K) := by
  have sc := scBegun
  refine def_ok0 D sc (fun vs H Q E h => ?_) (fun _ _ _ _ _ _ us hl => match us, hl with | [_], _ => rfl) (fun f A outer s H vs Q E hr h => ?_)
  · obtain ⟨a, ns, rfl, _⟩ := h
    rfl
  · obtain ⟨a, ns, rfl, hS, k⟩ := h
    refine ⟨_, (pss_cons (ps_set (i := 1) sc.nd rfl (Or.inl rfl) pe_int) (pss_cons (ps_for PassesOwn.never rfl (pi_list (pv 0)) (pg_name (i := 2) sc.nd rfl (Or.inl rfl)) (pss_one (ps_set (i := 1) sc.nd rfl (Or.inl rfl) (pe_op op_mod (pe_op op_add (pe_op op_add (pe_op op_mul (pv 1) pe_int) (pe_op op_mul (pv 2) pe_int)) pe_int) pe_int)))) (pss_one (ps_ret (pe_lst (pa_cons (pe_callTy call_list_of (by rfl) T.list_ (by decide +kernel) (pa_cons (pv 0) pa_nil)) (pa_cons (pe_op op_mul (pv 1) (pe_callTy call_int1 (by rfl) T.int_ (by decide +kernel) (pa_cons (pe_cmpR op_gt (pe_callB call_lenD (by rfl) T.len PySem.boot_len (pa_cons (pv 0) pa_nil)) pe_int (nomark _)) pa_nil))) pa_nil))))))), ?_⟩
    refine ⟨_, rfl, a, rfl, ⟨_, hS⟩, for_list (K := K) (a := a) (xs := ns.map V.int) (fun i σ H' => ∃ (st : Int) (v2 : Option V), σ = [some (.ref a), some (.int st), v2] ∧ 0 ≤ st ∧ st < 2147483647 ∧ H' = H)
      ⟨0, none, rfl, by decide, by decide, rfl⟩ (fun i σ H' _ ⟨_, _, _, _, _, e⟩ => by rw [e]; exact hS) ?_ ?_⟩
    · rintro i x σ H' hx ⟨st, v2, rfl, h0, h1, rfl⟩
      obtain ⟨n, en, rfl⟩ : ∃ n, ns[i]? = some n ∧ x = V.int n := by
        rw [List.getElem?_map] at hx
        cases q : ns[i]? with
        | none => rw [q] at hx; cases hx
        | some b => rw [q] at hx; exact ⟨b, rfl, (Option.some.inj hx).symm⟩
      refine ⟨_, rfl, _, _, rfl, rfl, .inl ⟨by omega, by omega⟩, ?_⟩
      refine ⟨_, rfl, _, _, rfl, rfl, .inr ⟨by omega, by omega⟩, ?_⟩
      refine ⟨_, _, rfl, rfl, _, _, rfl, rfl, _, _, rfl, rfl, (by show (0 : Int) < 2147483647; decide), ?_⟩
      exact ⟨_, _, rfl, Int.emod_nonneg _ (by decide), Int.emod_lt_of_pos _ (by decide), rfl⟩
    · rintro σ H' ⟨st, v2, rfl, h0, h1, rfl⟩
      refine ⟨_, rfl, a, _, rfl, .inl hS, fun L hL => ?_⟩
      have s1 : Same H' (upd H' L (.lst (ns.map V.int))) := fun b o e => by
        rw [upd_ne (ne_of_none e hL)]
        exact e
      refine ⟨_, rfl, _, rfl, .ref a, _, _, rfl, .lst (s1.seq hS) dpInts, rfl, _, _, rfl, rfl, .inr ⟨_, rfl, ?_⟩⟩
      refine ⟨_, _, rfl, rfl, .inl ⟨by omega, by omega⟩, ?_⟩
      refine ⟨by show 2 ≤ sizeLine; decide, fun B hB => ?_⟩
      have n1 : L ≠ B := fun z => by rw [← z, upd_same] at hB; cases hB
      exact k _ B L (fun b o e => by rw [upd_ne (ne_of_none (s1 _ _ e) hB)]; exact s1 _ _ e) (s1.free hB) hL ⟨Ne.symm n1, ⟨_, upd_same⟩, ⟨ns, (upd_ne n1).trans upd_same⟩⟩
end
end RS
set_option Elab.async false
set_option maxRecDepth 100000
set_option maxHeartbeats 4000000
namespace RS
open PySem PySem.Spec PyProof.Rows L2 GX
section
variable {P : Program} {w : World} {K : PySem.W.Frag} {mg : Str → Option Value} {base : Heap}
theorem scTake : FnScope ["_law_box", "_law_many", "_law_number"] ["_law_box", "_law_many"] (defScope sTake) := ⟨rfl, rfl, rfl, by decide +kernel, rfl, by decide +kernel, by decide +kernel⟩
def spTake : Sp := fun vs H Q _ => ∃ (B L : Addr) (m : Int), vs = [.ref B, .int m] ∧ BoxAt H B L ∧ 1 ≤ m ∧ m ≤ 1000000 ∧
  ∀ (H' : Hp) (k : Int), SameX B L H H' → BoxAt H' B L → 0 ≤ k → k < m → Q (.int k) H'
theorem eqv_nil (ds : List PyData) : PyData.eqv (.list ds) (.list []) = ds.isEmpty := by
  cases ds <;> simp [PyData.eqv, PyData.eqvAll]
theorem shaped_ints (ms : List Int) : SeqAt.shaped (.list (ms.map .int)) = true := by
  have h1 : PyData.canLayAll0 (ms.map .int) = true := by
    induction ms with
    | nil => simp [PyData.canLayAll0]
    | cons m ms ih => simp [PyData.canLayAll0, PyData.canLay0, ih]
  have h2 : PyData.depthAll (ms.map .int) = 0 := depth0 fun d hd => by
    obtain ⟨n, _, rfl⟩ := List.mem_map.mp hd
    simp [PyData.depth]
  simp [SeqAt.shaped, PyData.canLay0, PyData.depth, h1, h2]
theorem take_ok {c : Addr} (D : DefAt K mg "_law_take" sTake c) : Cal P w K mg base CX0 1 "_law_take" ["_law_box", "_law_many"] spTake := by
  have sc := scTake
  refine def_ok0 D sc (fun vs H Q E h => ?_) (fun _ _ _ _ _ _ us hl => match us, hl with | [_, _], _ => rfl) (fun f A outer s H vs Q E hr h => ?_)
  · obtain ⟨B, L, m, rfl, _⟩ := h
    rfl
  · obtain ⟨B, L, m, rfl, ⟨nBL, ⟨st, hB⟩, ⟨ms, hL⟩⟩, hm, hm2, k⟩ := h
    have hu := hr.units
    refine ⟨_, (pss_cons (ps_if (pt_cmpR (op_eqD hu) (pe_ix ix_list (pv 0) pe_int (fun _ _ => rfl)) (pe_lst pa_nil) (nomark _)) (pss_cons (ps_asg (pe_op op_mod (pe_op op_mul (pe_ix ix_list (pv 0) pe_int (fun _ _ => rfl)) pe_int) pe_int) (pg_sub (pv 0) pe_int set_list)) (pss_one (ps_ret (pe_op op_mod (pe_op op_fdiv (pe_ix ix_list (pv 0) pe_int (fun _ _ => rfl)) pe_int) (pv 1))))) pss_nil) (pss_cons (ps_set (i := 2) sc.nd rfl (Or.inl rfl) (pe_ix ix_list (pe_ix ix_list (pv 0) pe_int (fun _ _ => rfl)) pe_int (fun _ _ => rfl))) (pss_cons (ps_asg (pe_op op_fdiv (pv 2) (pv 1)) (pg_sub (pe_ix ix_list (pv 0) pe_int (fun _ _ => rfl)) pe_int set_list)) (pss_cons (ps_if ((pw_or (pt_cmpR op_eq (pe_ix ix_list (pe_ix ix_list (pv 0) pe_int (fun _ _ => rfl)) pe_int (fun _ _ => rfl)) pe_int (nomark _)) (pw_or1 (pt_cmpR op_eq (pe_ix ix_list (pe_ix ix_list (pv 0) pe_int (fun _ _ => rfl)) pe_int (fun _ _ => rfl)) (pe_un un_neg pe_int) (nomark _)))).pt) (pss_one (ps_expr (pe_bm PySem.F.plainAttrs_list PySem.F.slot_list_pop PySem.F.type_list_pop mt_popAt (pe_ix ix_list (pv 0) pe_int (fun _ _ => rfl)) (pa_cons pe_int pa_nil)))) pss_nil) (pss_one (ps_ret (pe_op op_mod (pv 2) (pv 1)))))))), ?_⟩
    refine ⟨_, rfl, B, _, _, _, rfl, rfl, SqL.of hB, rfl, Nat.zero_le _, fun e0 he0 => ?_⟩
    have s0 : Same H (upd H e0 (.lst [])) := fun b o e => by
      rw [upd_ne (ne_of_none e he0)]
      exact e
    refine ⟨.list (ms.map .int), .list [], .lst (s0.seq (SqL.of hL)) dpInts, .lst (SqL.of upd_same) .nil, ?_, rfl, _, rfl, ?_⟩
    · exact shaped_ints ms
    rw [eqv_nil]
    have hB0 := s0 _ _ hB
    have hL0 := s0 _ _ hL
    cases ms with
    | nil =>
      refine iteT ⟨_, rfl, B, _, _, _, rfl, rfl, SqL.of hB0, atI_nat (j := 1) rfl, _, _, rfl, rfl, .inr ⟨by decide, by decide⟩, ?_⟩
      refine ⟨_, _, rfl, rfl, (by show (0 : Int) < 2147483647; decide), ?_⟩
      refine ⟨_, rfl, B, _, _, 1, rfl, rfl, hB0, rfl, ?_⟩
      refine ⟨_, rfl, B, _, _, _, rfl, rfl, SqL.of upd_same, atI_nat (j := 1) rfl, ?_⟩
      refine ⟨_, _, rfl, rfl, ⟨by decide, by decide⟩, _, rfl, _, _, rfl, rfl, (by show (0 : Int) < m; omega), ?_⟩
      refine k _ _ (fun b o h1 h2 e => ?_) ⟨nBL, ⟨_, upd_same⟩, ⟨[], (upd_ne (Ne.symm nBL)).trans hL0⟩⟩ (Int.emod_nonneg _ (by omega)) (Int.emod_lt_of_pos _ (by omega))
      rw [upd_ne h1]
      exact s0 _ _ e
    | cons m0 ms =>
      refine iteF ⟨_, rfl, B, _, _, _, rfl, rfl, SqL.of hB0, atI_nat (j := 0) rfl, L, _, _, _, rfl, rfl, SqL.of hL0, atI_nat (j := 0) rfl, ?_⟩
      refine ⟨_, rfl, _, rfl, _, _, rfl, rfl, ⟨by omega, by omega⟩, ?_⟩
      refine ⟨_, rfl, B, _, _, _, rfl, rfl, SqL.of hB0, atI_nat (j := 0) rfl, L, _, _, 0, rfl, rfl, hL0, by simp [ixN], ?_⟩
      have hB1 : upd (upd H e0 (.lst [])) L (.lst (((m0 :: ms).map V.int).set 0 (.int (m0 / m)))) B = some (.lst [.ref L, .int st]) := (upd_ne nBL).trans hB0
      refine ⟨_, rfl, B, _, _, _, rfl, rfl, SqL.of hB1, atI_nat (j := 0) rfl, L, _, _, _, rfl, rfl, SqL.of upd_same, atI_nat (j := 0) rfl, ?_⟩
      have sx : ∀ (u : HO) (b : Addr) (o : HO), b ≠ B → b ≠ L → H b = some o → upd (upd H e0 (.lst [])) L u b = some o := fun u b o h1 h2 e => by
        rw [upd_ne h2]
        exact s0 _ _ e
      have ret : ∀ (H2 : Hp), SameX B L H H2 → BoxAt H2 B L → (∃ v, (some (V.int m0) : Option V) = some v ∧ v = .int m0) → Q (.int (m0 % m)) H2 := fun H2 s2 b2 _ => k H2 _ s2 b2 (Int.emod_nonneg _ (by omega)) (Int.emod_lt_of_pos _ (by omega))
      have box1 : BoxAt (upd (upd H e0 (.lst [])) L (.lst (V.int (m0 / m) :: ms.map V.int))) B L := ⟨nBL, ⟨_, hB1⟩, ⟨m0 / m :: ms, upd_same⟩⟩
      have box2 : BoxAt (upd (upd (upd H e0 (.lst [])) L (.lst (V.int (m0 / m) :: ms.map V.int))) L (.lst (ms.map V.int))) B L := ⟨nBL, ⟨_, (upd_ne nBL).trans hB1⟩, ⟨ms, upd_same⟩⟩
      have sx2 : SameX B L H (upd (upd (upd H e0 (.lst [])) L (.lst (V.int (m0 / m) :: ms.map V.int))) L (.lst (ms.map V.int))) := fun b o h1 h2 e => by
        rw [upd_ne h2]
        exact sx _ b o h1 h2 e
      have sk : seqIndex? 0 (V.int (m0 / m) :: ms.map V.int).length = some 0 := by
        simp [seqIndex?]
      refine ⟨rfl, _, rfl, ?_⟩
      refine ite2 (fun h1 => ?_) (fun h1 => ?_)
      · refine iteT ⟨_, rfl, B, _, _, _, rfl, rfl, SqL.of hB1, atI_nat (j := 0) rfl, .inl ⟨rfl, _, SqL.of upd_same⟩, L, _, 0, 0, _, rfl, rfl, upd_same, by decide, by decide, sk, rfl, ?_⟩
        exact ⟨_, rfl, _, rfl, _, _, rfl, rfl, (by show (0 : Int) < m; omega), ret _ sx2 box2 ⟨_, rfl, rfl⟩⟩
      · refine ⟨_, rfl, B, _, _, _, rfl, rfl, SqL.of hB1, atI_nat (j := 0) rfl, L, _, _, _, rfl, rfl, SqL.of upd_same, atI_nat (j := 0) rfl, ?_⟩
        refine ⟨_, rfl, rfl, _, rfl, ?_⟩
        refine ite2 (fun h1 => ?_) (fun h1 => ?_)
        · refine ⟨_, rfl, B, _, _, _, rfl, rfl, SqL.of hB1, atI_nat (j := 0) rfl, .inl ⟨rfl, _, SqL.of upd_same⟩, L, _, 0, 0, _, rfl, rfl, upd_same, by decide, by decide, sk, rfl, ?_⟩
          exact ⟨_, rfl, _, rfl, _, _, rfl, rfl, (by show (0 : Int) < m; omega), ret _ sx2 box2 ⟨_, rfl, rfl⟩⟩
        · exact ⟨_, rfl, _, rfl, _, _, rfl, rfl, (by show (0 : Int) < m; omega), ret _ (sx _) box1 ⟨_, rfl, rfl⟩⟩
end
end RS
set_option Elab.async false
set_option maxRecDepth 100000
set_option maxHeartbeats 4000000
namespace RS
open PySem PySem.Spec PyProof.Rows L2 GX
theorem BoxAt.nb {H : Hp} {B L a : Addr} (h : BoxAt H B L) (ha : H a = none) : a ≠ B ∧ a ≠ L := by
  obtain ⟨_, ⟨s, hb⟩, ⟨ms, hl⟩⟩ := h
  exact ⟨fun z => (by rw [z, hb] at ha; cases ha), fun z => (by rw [z, hl] at ha; cases ha)⟩
theorem BoxAt.upd_ {H : Hp} {B L a : Addr} {o : HO} (h : BoxAt H B L) (nB : a ≠ B) (nL : a ≠ L) : BoxAt (upd H a o) B L := by
  obtain ⟨n, ⟨s, hb⟩, ⟨ms, hl⟩⟩ := h
  exact ⟨n, ⟨s, (upd_ne (Ne.symm nB)).trans hb⟩, ⟨ms, (upd_ne (Ne.symm nL)).trans hl⟩⟩
theorem SameX.new {B L a : Addr} {H H' : Hp} {o : HO} (s : SameX B L H H') (ha : H a = none) : SameX B L H (upd H' a o) := fun b u h1 h2 e => by
  rw [upd_ne (ne_of_none e ha)]
  exact s b u h1 h2 e
theorem SameX.free {B L a : Addr} {H H' : Hp} (s : SameX B L H H') (_b : BoxAt H B L) (ha : H' a = none) (b' : BoxAt H' B L) : H a = none := by
  cases e : H a with
  | none => rfl
  | some o =>
    obtain ⟨n1, n2⟩ := b'.nb ha
    rw [s a o n1 n2 e] at ha
    cases ha
theorem ix_listC {X : Cx} {K : PySem.W.Frag} (e : X.K = K) : IxR X (rIxL K) := by
  subst e
  exact ix_list
theorem ix_tupC {X : Cx} {K : PySem.W.Frag} (e : X.K = K) : IxR X (rIxT K) := by
  subst e
  exact ix_tup
/-- what has no list of its own stays -/
theorem sqT_x {K : PySem.W.Frag} {H H' : Hp} {B L a : Addr} {xs : List V} (b : BoxAt H B L) (s : SameX B L H H') (h : SqT K H a xs) : SqT K H' a xs := by
  obtain ⟨_, ⟨st, hb⟩, ⟨ms, hl⟩⟩ := b
  rcases h with (h | ⟨o, h⟩) | h
  · exact .inl (.inl (s a _ (fun z => by rw [z, hb] at h; cases h) (fun z => by rw [z, hl] at h; cases h) h))
  · exact .inl (.inr ⟨o, s a _ (fun z => by rw [z, hb] at h; cases h) (fun z => by rw [z, hl] at h; cases h) h⟩)
  · exact .inr h
mutual
theorem dp_x {K : PySem.W.Frag} {H H' : Hp} {B L : Addr} (b : BoxAt H B L) (s : SameX B L H H') : ∀ (d : PyData) {v : V}, noL d = true → Dp K H v d → Dp K H' v d
  | .none, _, _, .non => .non
  | .bool x, _, _, .bl _ => .bl x
  | .int i, _, _, .int _ => .int i
  | .str x, _, _, .str _ => .str x
  | .list ds, _, h, _ => by cases h
  | .tuple ds, _, h, .tup q hs => .tup (sqT_x b s q) (dpAll_x b s ds h hs)
  | .dict _, _, h, _ => by cases h
theorem dpAll_x {K : PySem.W.Frag} {H H' : Hp} {B L : Addr} (b : BoxAt H B L) (s : SameX B L H H') : ∀ (ds : List PyData) {vs : List V}, noLs ds = true → DpAll K H vs ds → DpAll K H' vs ds
  | [], _, _, .nil => .nil
  | d :: ds, _, h, .cons q hs => by
    unfold noLs at h
    rw [Bool.and_eq_true] at h
    exact .cons (dp_x b s d h.1 q) (dpAll_x b s ds h.2 hs)
end
theorem kinds_noL (ks : List Bool) : noL (kindsD ks) = true := noLs_iff.mpr fun d hd => by
  obtain ⟨b, _, rfl⟩ := List.mem_map.mp hd
  rfl
section
variable {P : Program} {w : World} {K : PySem.W.Frag} {mg : Str → Option Value} {base : Heap}
theorem dpKinds {H : Hp} : ∀ ks : List Bool, DpAll K H (ks.map fun b => V.str (kindS b)) (ks.map fun b => .str (kindS b))
  | [] => .nil
  | _ :: ks => .cons (.str _) (dpKinds ks)
theorem scKinds : FnScope ["_law_box", "_law_k"] ["_law_box"] (defScope sKinds) := ⟨rfl, rfl, rfl, by decide +kernel, rfl, by decide +kernel, by decide +kernel⟩
def spKinds (K : PySem.W.Frag) : Sp := fun vs H Q _ => ∃ (B L : Addr), vs = [.ref B] ∧ BoxAt H B L ∧
  ∀ (H' : Hp) (v : V) (ks : List Bool), SameX B L H H' → BoxAt H' B L → 1 ≤ ks.length → ks.length ≤ 4 → Dp K H' v (kindsD ks) → Q v H'
theorem two_at {k : Int} (h0 : 0 ≤ k) (h1 : k < 2) : ∃ b, atI [V.str "number", V.str "word"] k = some (.str (kindS b)) := by
  rcases (by omega : k = 0 ∨ k = 1) with e | e
  · subst e
    exact ⟨false, atI_nat (j := 0) rfl⟩
  · subst e
    exact ⟨true, atI_nat (j := 1) rfl⟩
theorem kinds_ok {c : Addr} (D : DefAt K mg "_law_kinds" sKinds c) (T : Txt K mg) (cT : Cal P w K mg base CX0 1 "_law_take" ["_law_box", "_law_many"] spTake) : Cal P w K mg base CX0 2 "_law_kinds" ["_law_box"] (spKinds K) := by
  have sc := scKinds
  refine def_ok0 D sc (fun vs H Q E h => ?_) (fun _ _ _ _ _ _ us hl => match us, hl with | [_], _ => rfl) (fun f A outer s H vs Q E hr h => ?_)
  · obtain ⟨B, L, rfl, _⟩ := h
    rfl
  · obtain ⟨B, L, rfl, hb, k⟩ := h
    refine ⟨_, (pss_one (ps_ret (pe_callTy call_tuple_of (by rfl) T.tuple_ (by decide +kernel) (pa_cons (pe_lc (own := [("_law_k", 1)]) (tt := tYes)  rfl sc.nd (pi_range1 (by rfl) T.range (pa_cons (pe_op op_add pe_int (pe_c cT hr (by decide) (by rfl) pass0 (pa_cons (pv 0) (pa_cons pe_int pa_nil)))) pa_nil)) (blkOk_by (N := ["_law_box", "_law_k"]) (sc := defScope sKinds) (own := [("_law_k", 1)]) (by decide +kernel)) (fun _ _ _ _ _ => (pg_name (i := 1) sc.nd rfl (Or.inl rfl))) (fun _ _ _ _ _ => pts_nil) (fun _ _ _ _ _ => (pe_ix (ix_listC (K := K) rfl) (pe_lst (pa_cons pe_str (pa_cons pe_str pa_nil))) (pe_c cT hr (by decide) (by rfl) pass0 (pa_cons (pv 0) (pa_cons pe_int pa_nil))) (fun _ _ => rfl)))) pa_nil)))), ?_⟩
    refine ⟨_, rfl, B, L, 4, rfl, hb, by decide, by decide, fun H1 n s1 b1 n0 n1 => ?_⟩
    refine ⟨_, _, rfl, rfl, _, rfl, by omega, by omega, fun DD hD => ?_⟩
    obtain ⟨nB, nL⟩ := b1.nb hD
    have e1 : (1 + n).toNat = n.toNat + 1 := by omega
    rw [e1]
    refine lc_range (fun i H2 => SameX B L H1 H2 ∧ BoxAt H2 B L ∧ ∃ ks : List Bool, ks.length = i ∧ H2 DD = some (.lst (ks.map fun b => V.str (kindS b)))) ⟨SameX.refl.new hD, b1.upd_ nB nL, [], rfl, upd_same⟩ ?_ ?_
    · rintro i H2 hi ⟨s2, b2, ks, lk, hl⟩
      refine ⟨rfl, by show 2 ≤ sizeLine; decide, fun e he => ?_⟩
      obtain ⟨neB, neL⟩ := b2.nb he
      have neD : DD ≠ e := fun z => by rw [← z, hl] at he; cases he
      refine ⟨_, rfl, B, L, 2, rfl, b2.upd_ neB neL, by decide, by decide, fun H3 k' s3 b3 h0 h1 => ?_⟩
      obtain ⟨bb, hbb⟩ := two_at h0 h1
      refine ⟨e, _, k', _, rfl, rfl, SqL.of (s3 e _ neB neL upd_same), hbb, ?_⟩
      refine ⟨_, s3 DD _ nB nL ((upd_ne neD).trans hl), small1000 (by rw [List.length_map]; omega), ?_, b3.upd_ nB nL, ks ++ [bb], by rw [List.length_append, lk]; rfl, ?_⟩
      · exact (s2.trans ((SameX.refl.new he).trans s3)).new hD
      · rw [upd_same, List.map_append]
        rfl
    · rintro H2 ⟨s2, b2, ks, lk, hl⟩
      refine ⟨DD, _, rfl, .inl ⟨SqL.of hl, fun p hp => ?_⟩⟩
      obtain ⟨npB, npL⟩ := b2.nb hp
      have s12 := s1.trans s2
      exact k _ (.ref p) ks (s12.new (s12.free hb hp b2)) (b2.upd_ npB npL) (by omega) (by omega) (.tup (SqT.of upd_same) (dpKinds ks))
end
end RS
set_option Elab.async false
set_option maxRecDepth 100000
set_option maxHeartbeats 4000000
namespace RS
open PySem PySem.Spec PyProof.Rows L2 GX
theorem perm_erase {α : Type} : ∀ {l : List α} {k : Nat} {x : α}, l[k]? = some x → l.Perm (x :: l.eraseIdx k)
  | [], k, x, h => by simp at h
  | y :: l, 0, x, h => by
    simp at h
    subst h
    exact List.Perm.refl _
  | y :: l, k + 1, x, h => by
    have ih := perm_erase (l := l) (k := k) (x := x) (by simpa using h)
    exact (ih.cons y).trans (List.Perm.swap x y _)
theorem map_erase {α β : Type} (f : α → β) : ∀ (l : List α) (k : Nat), (l.map f).eraseIdx k = (l.eraseIdx k).map f
  | [], _ => rfl
  | _ :: _, 0 => rfl
  | x :: l, k + 1 => by
    show f x :: (l.map f).eraseIdx k = f x :: (l.eraseIdx k).map f
    rw [map_erase f l k]
theorem seqIx {k n : Nat} (h : k < n) : seqIndex? (k : Int) n = some k := by
  simp [seqIndex?]
  omega
section
variable {P : Program} {w : World} {K : PySem.W.Frag} {mg : Str → Option Value} {base : Heap}
theorem dpNats {H : Hp} : ∀ ns : List Nat, DpAll K H (ns.map fun c => V.int (c : Nat)) (ns.map fun c => .int (c : Nat))
  | [] => .nil
  | _ :: ns => .cons (.int _) (dpNats ns)
theorem two_ways {k : Int} (h0 : 0 ≤ k) (h1 : k < 2) : ∃ b, atI [V.str "up", V.str "down"] k = some (.str (wayS b)) := by
  rcases (by omega : k = 0 ∨ k = 1) with e | e
  · subst e
    exact ⟨false, atI_nat (j := 0) rfl⟩
  · subst e
    exact ⟨true, atI_nat (j := 1) rfl⟩
theorem parts_noL (os : List (Nat × Bool)) : noLs (os.map partD) = true := noLs_iff.mpr fun d hd => by
  obtain ⟨p, _, rfl⟩ := List.mem_map.mp hd
  rfl
theorem scOrder : FnScope ["_law_box", "_law_kinds_here", "_law_left", "_law_found", "_law_turn"] ["_law_box", "_law_kinds_here"] (defScope sOrder) := ⟨rfl, rfl, rfl, by decide +kernel, rfl, by decide +kernel, by decide +kernel⟩
def spOrder (K : PySem.W.Frag) : Sp := fun vs H Q _ => ∃ (B L : Addr) (vk : V) (ks : List Bool), vs = [.ref B, vk] ∧ BoxAt H B L ∧ Dp K H vk (kindsD ks) ∧ 1 ≤ ks.length ∧ ks.length ≤ 4 ∧
  ∀ (H' : Hp) (a : Addr) (os : List (Nat × Bool)) (xs : List V), SameX B L H H' → BoxAt H' B L → OkOrder ks.length os → os.length ≤ 4 → H a = none → H' a = some (.lst xs) → DpAll K H' xs (os.map partD) → Q (.ref a) H'
theorem order_ok {c : Addr} (D : DefAt K mg "_law_order" sOrder c) (T : Txt K mg) (cT : Cal P w K mg base CX0 1 "_law_take" ["_law_box", "_law_many"] spTake) : Cal P w K mg base CX0 2 "_law_order" ["_law_box", "_law_kinds_here"] (spOrder K) := by
  have sc := scOrder
  refine def_ok0 D sc (fun vs H Q E h => ?_) (fun _ _ _ _ _ _ us hl => match us, hl with | [_, _], _ => rfl) (fun f A outer s H vs Q E hr h => ?_)
  · obtain ⟨B, L, vk, ks, rfl, _⟩ := h
    rfl
  · obtain ⟨B, L, vk, ks, rfl, hb, hk, k1, k4, k⟩ := h
    refine ⟨_, (pss_cons (ps_set (i := 2) sc.nd rfl (Or.inl rfl) (pe_listRg rfl (by rfl) T.list_ (prg_1 (by rfl) T.range (pe_callB call_lenD (by rfl) T.len PySem.boot_len (pa_cons (pv 1) pa_nil))))) (pss_cons (ps_set (i := 3) sc.nd rfl (Or.inl rfl) (pe_lst pa_nil)) (pss_cons (ps_for PassesOwn.never rfl (pi_range1 (by rfl) T.range (pa_cons (pe_op op_add pe_int (pe_c cT hr (by decide) (by rfl) pass0 (pa_cons (pv 0) (pa_cons (pe_callB call_lenD (by rfl) T.len PySem.boot_len (pa_cons (pv 1) pa_nil)) pa_nil)))) pa_nil)) (pg_name (i := 4) sc.nd rfl (Or.inl rfl)) (pss_one (ps_expr (pe_bm PySem.F.plainAttrs_list PySem.F.slot_list_append PySem.F.type_list_append mt_append (pv 3) (pa_cons (pe_tup (pa_cons (pe_bm PySem.F.plainAttrs_list PySem.F.slot_list_pop PySem.F.type_list_pop mt_popAt (pv 2) (pa_cons (pe_c cT hr (by decide) (by rfl) pass0 (pa_cons (pv 0) (pa_cons (pe_callB call_lenD (by rfl) T.len PySem.boot_len (pa_cons (pv 2) pa_nil)) pa_nil))) pa_nil)) (pa_cons (pe_ix ix_list (pe_lst (pa_cons pe_str (pa_cons pe_str pa_nil))) (pe_c cT hr (by decide) (by rfl) pass0 (pa_cons (pv 0) (pa_cons pe_int pa_nil))) (fun _ _ => rfl)) pa_nil))) pa_nil))))) (pss_one (ps_ret (pv 3)))))), ?_⟩
    have lk : (ks.map fun b => PyData.str (kindS b)).length = ks.length := List.length_map _
    refine ⟨_, rfl, vk, _, _, rfl, hk, rfl, _, rfl, .of_le (by decide) (by omega) (by decide) (by omega), fun Lf hLf => ?_⟩
    refine ⟨Nat.zero_le _, fun Fd hFd => ?_⟩
    obtain ⟨nfB, nfL⟩ := hb.nb hLf
    have hFd0 := upd_no hFd
    obtain ⟨ndB, ndL⟩ := hb.nb hFd0
    have nFL : Fd ≠ Lf := fun z => by rw [z, upd_same] at hFd; cases hFd
    have s1 : Same H (upd (upd H Lf (.lst (rgV 0 ((ks.map fun b => PyData.str (kindS b)).length : Nat)))) Fd (.lst [])) := fun b o e => by
      rw [upd_ne (ne_of_none e hFd0), upd_ne (ne_of_none e hLf)]
      exact e
    refine ⟨_, rfl, _, rfl, vk, _, _, rfl, dp_same s1 _ hk, rfl, B, L, _, rfl, hb.same s1, by omega, by omega, fun H1 n s2 b2 n0 n1 => ?_⟩
    refine ⟨_, _, rfl, rfl, _, rfl, by omega, by omega, ?_⟩
    rw [show (1 + n).toNat = n.toNat + 1 by omega]
    have hL1 : H1 Lf = some (.lst ((List.range ks.length).map fun c => V.int (c : Nat))) := by
      rw [s2 Lf (.lst (rgV 0 ((ks.map fun b => PyData.str (kindS b)).length : Nat))) nfB nfL ((upd_ne (Ne.symm nFL)).trans upd_same)]
      simp [rgV]
    have sHX : SameX B L H H1 := (SameX.of s1).trans s2
    have hF1 : H1 Fd = some (.lst []) := s2 Fd _ ndB ndL upd_same
    refine for_range (fun i σ H2 => ∃ (v4 : Option V) (cols : List Nat) (os : List (Nat × Bool)) (xs : List V), σ = [some (.ref B), some vk, some (.ref Lf), some (.ref Fd), v4] ∧ SameX B L H H2 ∧ BoxAt H2 B L ∧
      H2 Lf = some (.lst (cols.map fun c => V.int (c : Nat))) ∧ H2 Fd = some (.lst xs) ∧ DpAll K H2 xs (os.map partD) ∧ os.length = i ∧ cols.length + i = ks.length ∧ (os.map (·.1) ++ cols).Nodup ∧ ∀ c ∈ os.map (·.1) ++ cols, c < ks.length)
      ⟨none, List.range ks.length, [], [], rfl, sHX, b2, hL1, hF1, .nil, rfl, by rw [List.length_range]; rfl, List.nodup_range, fun c hc => List.mem_range.mp hc⟩ ?_ ?_
    · rintro i σ H2 hi ⟨v4, cols, os, xs, rfl, sm, b3, hL, hF, hd, lo, lc, nd, lt⟩
      have lc2 : (cols.map fun c => PyData.int (c : Nat)).length = cols.length := List.length_map _
      refine ⟨_, rfl, .inl ⟨rfl, _, SqL.of hF⟩, _, rfl, .inl ⟨rfl, _, SqL.of hL⟩, _, rfl, _, rfl, .ref Lf, _, _, rfl, .lst (SqL.of hL) (dpNats cols), rfl, B, L, _, rfl, b3, by omega, by omega, fun H3 k1 s4 b4 h0 h1 => ?_⟩
      obtain ⟨kn, rfl⟩ : ∃ kn : Nat, k1 = (kn : Int) := ⟨k1.toNat, by omega⟩
      have hkn : kn < cols.length := by omega
      have hL3 := s4 _ _ nfB nfL hL
      have hF3 := s4 _ _ ndB ndL hF
      refine ⟨Lf, _, (kn : Int), kn, .int (cols[kn] : Nat), rfl, rfl, hL3, by omega, by omega, seqIx (by rw [List.length_map]; exact hkn), by rw [List.getElem?_map, List.getElem?_eq_getElem hkn]; rfl, ?_⟩
      rw [map_erase]
      have b5 := b4.upd_ (o := .lst ((cols.eraseIdx kn).map fun c => V.int (c : Nat))) nfB nfL
      refine ⟨by show 2 ≤ sizeLine; decide, fun e he => ?_⟩
      obtain ⟨neB, neL⟩ := b5.nb he
      refine ⟨_, rfl, B, L, 2, rfl, b5.upd_ neB neL, by decide, by decide, fun H5 k2 s6 b6 g0 g1 => ?_⟩
      obtain ⟨bb, hbb⟩ := two_ways g0 g1
      refine ⟨e, _, k2, _, rfl, rfl, SqL.of (s6 e _ neB neL upd_same), hbb, ?_⟩
      refine ⟨by show 2 ≤ sizeLine; decide, fun p hp => ?_⟩
      obtain ⟨npB, npL⟩ := b6.nb hp
      have hF4 : upd H3 Lf (.lst ((cols.eraseIdx kn).map fun c => V.int (c : Nat))) Fd = some (.lst xs) := (upd_ne nFL).trans hF3
      have neF : Fd ≠ e := fun z => by rw [← z, hF4] at he; cases he
      have neLf : Lf ≠ e := fun z => by rw [← z, upd_same] at he; cases he
      have hF5 : H5 Fd = some (.lst xs) := s6 _ _ ndB ndL ((upd_ne neF).trans hF4)
      have hL5 : H5 Lf = some (.lst ((cols.eraseIdx kn).map fun c => V.int (c : Nat))) := s6 _ _ nfB nfL ((upd_ne neLf).trans upd_same)
      have npF : Fd ≠ p := fun z => by rw [← z, hF5] at hp; cases hp
      have npLf : Lf ≠ p := fun z => by rw [← z, hL5] at hp; cases hp
      have lx : xs.length = os.length := by rw [dpLen hd, List.length_map]
      refine ⟨Fd, xs, _, rfl, rfl, (upd_ne npF).trans hF5, small1000 (by omega), ?_⟩
      have he3 : H3 e = none := upd_no he
      have sH3 : SameX B L H H3 := sm.trans s4
      have hE0 := sH3.free hb he3 b4
      have sH5 : SameX B L H H5 := ((sH3.new hLf).new hE0).trans s6
      have hP0 := sH5.free hb hp b6
      have pn := parts_noL os
      have pn2 := parts_noL (os ++ [(cols[kn], bb)])
      have hd4 := dpAll_upd (u := (cols.eraseIdx kn).map fun c => V.int (c : Nat)) hL3 _ pn (dpAll_x b3 s4 _ pn hd)
      have hd5 : DpAll K H5 xs (os.map partD) := dpAll_x (b5.upd_ neB neL) s6 _ pn (dpAll_same (fun b o q => by rw [upd_ne (ne_of_none q he)]; exact q) _ hd4)
      have hd6 : DpAll K (upd H5 p (.tup [.int (cols[kn] : Nat), .str (wayS bb)])) (xs ++ [.ref p]) ((os ++ [(cols[kn], bb)]).map partD) := by
        rw [List.map_append]
        exact dpApp (dpAll_same (fun b o q => by rw [upd_ne (ne_of_none q hp)]; exact q) _ hd5) (.cons (.tup (SqT.of upd_same) (.cons (.int _) (.cons (.str _) .nil))) .nil)
      have pm := perm_erase (List.getElem?_eq_getElem hkn)
      have pq : ((os ++ [(cols[kn], bb)]).map (·.1) ++ cols.eraseIdx kn).Perm (os.map (·.1) ++ cols) := by
        rw [List.map_append, List.append_assoc]
        exact (pm.symm).append_left _
      have lE : (cols.eraseIdx kn).length + 1 = cols.length := by
        have := pm.length_eq
        rw [List.length_cons] at this
        omega
      refine ⟨_, cols.eraseIdx kn, os ++ [(cols[kn], bb)], _, rfl, (sH5.new hP0).new hFd0, (b6.upd_ npB npL).upd_ ndB ndL, (upd_ne (Ne.symm nFL)).trans ((upd_ne npLf).trans hL5), upd_same, dpAll_upd ((upd_ne npF).trans hF5) _ pn2 hd6, by rw [List.length_append, lo]; rfl, by omega, pq.nodup_iff.mpr nd, fun c hc => lt c (pq.mem_iff.mp hc)⟩
    · rintro σ H2 ⟨v4, cols, os, xs, rfl, sm, b3, hL, hF, hd, lo, lc, nd, lt⟩
      refine ⟨_, rfl, k H2 Fd os xs sm b3 ⟨fun z => ?_, fun p hp => lt _ (List.mem_append_left _ (List.mem_map.mpr ⟨p, hp, rfl⟩)), (List.nodup_append.mp nd).1⟩ (by omega) hFd0 hF hd⟩
      rw [z] at lo
      simp at lo
end
end RS
set_option Elab.async false
set_option maxRecDepth 100000
set_option maxHeartbeats 8000000
namespace RS
open PySem PySem.Spec PyProof.Rows L2 GX
mutual
def few : PyData → Prop
  | .list ds => ds.length ≤ 1000000 ∧ fews ds
  | .tuple ds => ds.length ≤ 1000000 ∧ fews ds
  | .dict _ => False
  | _ => True
def fews : List PyData → Prop
  | [] => True
  | d :: ds => few d ∧ fews ds
end
theorem fews_iff : ∀ {ds : List PyData}, fews ds ↔ ∀ d ∈ ds, few d
  | [] => by simp [fews]
  | d :: ds => by
    unfold fews
    rw [fews_iff]
    simp
theorem depth_mem : ∀ {ds : List PyData} {d : PyData}, d ∈ ds → d.depth ≤ PyData.depthAll ds
  | [], _, h => by cases h
  | e :: ds, d, h => by
    simp only [PyData.depthAll]
    rcases List.mem_cons.mp h with q | q
    · subst q
      omega
    · have := depth_mem q
      omega
end RS
set_option Elab.async false
set_option maxRecDepth 100000
set_option maxHeartbeats 4000000
namespace RS
open PySem PySem.Spec PyProof.Rows L2 GX
/-! ### plans -/
mutual
def leaf : PyData → List Nat
  | .int i => [i.toNat]
  | .tuple ds => leafs ds
  | _ => []
def leafs : List PyData → List Nat
  | [] => []
  | d :: ds => leaf d ++ leafs ds
end
mutual
def okP (w : Nat) : PyData → Prop
  | .int i => 0 ≤ i ∧ i < 40
  | .tuple ds => 2 ≤ ds.length ∧ ds.length ≤ w ∧ okPs w ds
  | _ => False
def okPs (w : Nat) : List PyData → Prop
  | [] => True
  | d :: ds => okP w d ∧ okPs w ds
end
mutual
def sizeP : PyData → Nat
  | .tuple ds => 1 + sizePs ds
  | _ => 1
def sizePs : List PyData → Nat
  | [] => 0
  | d :: ds => sizeP d + sizePs ds
end
theorem okPs_iff {w : Nat} : ∀ {ds : List PyData}, okPs w ds ↔ ∀ d ∈ ds, okP w d
  | [] => by simp [okPs]
  | d :: ds => by
    unfold okPs
    rw [okPs_iff]
    simp
theorem leafs_app : ∀ xs ys : List PyData, leafs (xs ++ ys) = leafs xs ++ leafs ys
  | [], _ => rfl
  | d :: xs, ys => by
    show leaf d ++ leafs (xs ++ ys) = (leaf d ++ leafs xs) ++ leafs ys
    rw [leafs_app xs ys, List.append_assoc]
theorem sizePs_app : ∀ xs ys : List PyData, sizePs (xs ++ ys) = sizePs xs + sizePs ys
  | [], _ => by simp [sizePs]
  | d :: xs, ys => by
    show sizeP d + sizePs (xs ++ ys) = (sizeP d + sizePs xs) + sizePs ys
    rw [sizePs_app xs ys]
    omega
theorem okPs_app {w : Nat} {xs ys : List PyData} : okPs w (xs ++ ys) ↔ okPs w xs ∧ okPs w ys := by
  rw [okPs_iff, okPs_iff, okPs_iff]
  constructor
  · exact fun h => ⟨fun d hd => h d (List.mem_append_left _ hd), fun d hd => h d (List.mem_append_right _ hd)⟩
  · rintro ⟨h1, h2⟩ d hd
    rcases List.mem_append.mp hd with q | q
    · exact h1 d q
    · exact h2 d q
mutual
theorem okP_noL {w : Nat} : ∀ d : PyData, okP w d → noL d = true
  | .int _, _ => rfl
  | .tuple ds, h => by
    unfold okP at h
    show noLs ds = true
    exact okPs_noL ds h.2.2
  | .none, h => by simp [okP] at h
  | .bool _, h => by simp [okP] at h
  | .str _, h => by simp [okP] at h
  | .list _, h => by simp [okP] at h
  | .dict _, h => by simp [okP] at h
theorem okPs_noL {w : Nat} : ∀ ds : List PyData, okPs w ds → noLs ds = true
  | [], _ => rfl
  | d :: ds, h => by
    unfold okPs at h
    unfold noLs
    rw [okP_noL d h.1, okPs_noL ds h.2]
    rfl
end
mutual
/-- as many runs as deep, and one more -/
theorem leaf_depth {w : Nat} : ∀ d : PyData, okP w d → d.depth + 1 ≤ (leaf d).length
  | .int _, _ => by simp [leaf, PyData.depth]
  | .tuple ds, h => by
    unfold okP at h
    have := leafs_depth ds h.2.2
    unfold leaf
    simp only [PyData.depth]
    omega
  | .none, h => by simp [okP] at h
  | .bool _, h => by simp [okP] at h
  | .str _, h => by simp [okP] at h
  | .list _, h => by simp [okP] at h
  | .dict _, h => by simp [okP] at h
theorem leafs_depth {w : Nat} : ∀ ds : List PyData, okPs w ds → PyData.depthAll ds + ds.length ≤ (leafs ds).length
  | [], _ => by simp [leafs, PyData.depthAll]
  | d :: ds, h => by
    unfold okPs at h
    have h1 := leaf_depth d h.1
    have h2 := leafs_depth ds h.2
    unfold leafs
    simp only [PyData.depthAll, List.length_append, List.length_cons]
    omega
end
mutual
theorem okP_few {w : Nat} (hw : w ≤ 1000) : ∀ d : PyData, okP w d → few d
  | .int _, _ => by simp [few]
  | .tuple ds, h => by
    unfold okP at h
    unfold few
    exact ⟨by omega, okPs_few hw ds h.2.2⟩
  | .none, h => by simp [okP] at h
  | .bool _, h => by simp [okP] at h
  | .str _, h => by simp [okP] at h
  | .list _, h => by simp [okP] at h
  | .dict _, h => by simp [okP] at h
theorem okPs_few {w : Nat} (hw : w ≤ 1000) : ∀ ds : List PyData, okPs w ds → fews ds
  | [], _ => by simp [fews]
  | d :: ds, h => by
    unfold okPs at h
    unfold fews
    exact ⟨okP_few hw d h.1, okPs_few hw ds h.2⟩
end
theorem okP_cases {w : Nat} {d : PyData} (h : okP w d) : (∃ n : Nat, d = .int (n : Nat) ∧ n < 40) ∨ ∃ ds, d = .tuple ds ∧ 2 ≤ ds.length ∧ ds.length ≤ w ∧ okPs w ds := by
  cases d with
  | int i =>
    unfold okP at h
    exact .inl ⟨i.toNat, by rw [Int.toNat_of_nonneg h.1], by omega⟩
  | tuple ds => unfold okP at h; exact .inr ⟨ds, rfl, h⟩
  | _ => simp [okP] at h
/-- all runs once -/
structure OkPlan (n w : Nat) (d : PyData) : Prop where
  ok : okP w d
  all : (leaf d).Perm (List.range n)
theorem OkPlan.depth {n w : Nat} {d : PyData} (h : OkPlan n w d) : d.depth + 1 ≤ n := by
  have := leaf_depth d h.ok
  rw [h.all.length_eq, List.length_range] at this
  exact this
end RS
set_option Elab.async false
set_option maxRecDepth 100000
set_option maxHeartbeats 4000000
namespace RS
open PySem PySem.Spec PyProof.Rows L2 GX
/-! ### plans as texts -/
def numS (n : Nat) : Str := toString (n : Int)
def sp1 : Str := " "
def opS : Str := "("
def clS : Str := ")"
mutual
def wds : PyData → List Str
  | .int i => [numS i.toNat]
  | .tuple ds => opS :: (wdss ds ++ [clS])
  | _ => []
def wdss : List PyData → List Str
  | [] => []
  | d :: ds => wds d ++ wdss ds
end
mutual
def textP : PyData → Str
  | .int i => numS i.toNat
  | .tuple ds => Str.empty ++ (Str.ofString "( ") ++ Txt.join sp1 (textPs ds) ++ (Str.ofString " )")
  | _ => Str.empty
def textPs : List PyData → List Str
  | [] => []
  | d :: ds => textP d :: textPs ds
end
theorem textPs_map : ∀ ds : List PyData, textPs ds = ds.map textP
  | [] => rfl
  | d :: ds => by
    show textP d :: textPs ds = _
    rw [textPs_map ds]
    rfl
def figOk (c : Nat) : Bool := !decide (([c] : List Nat) < [48]) && !decide (([57] : List Nat) < [c])
theorem num_all : ∀ n < 40, ((numS n).length = 1 ∨ (numS n).length = 2) ∧ (numS n).cps.toList.all figOk = true ∧ ((numS n).length = 1 ∨ ((numS n).cps[0]? ≠ some 48 ∧ (numS n).cps[0]?.isSome = true)) ∧ numS n ≠ opS ∧ numS n ≠ clS ∧ (32 : Nat) ∉ TL.tl (numS n) ∧ (44 : Nat) ∉ TL.tl (numS n) ∧ PySem.intText? (numS n) = some (n : Int) := by
  decide +kernel
theorem joinL_len (S : List Nat) : ∀ ps : List (List Nat), (TL.joinL S ps).length ≤ (ps.map List.length).sum + ps.length * S.length
  | [] => by simp [TL.joinL]
  | [p] => by simp [TL.joinL]
  | p :: q :: r => by
    have ih := joinL_len S (q :: r)
    show (p ++ (S ++ TL.joinL S (q :: r))).length ≤ _
    simp only [List.length_append, List.map_cons, List.sum_cons, List.length_cons, Nat.add_mul] at ih ⊢
    omega
theorem joinL_app {S : List Nat} : ∀ {xs ys : List (List Nat)}, xs ≠ [] → ys ≠ [] → TL.joinL S (xs ++ ys) = TL.joinL S xs ++ (S ++ TL.joinL S ys)
  | [], _, h, _ => absurd rfl h
  | [x], y :: ys, _, _ => rfl
  | [x], [], _, h => absurd rfl h
  | x :: z :: r, ys, _, h => by
    show x ++ (S ++ TL.joinL S ((z :: r) ++ ys)) = (x ++ (S ++ TL.joinL S (z :: r))) ++ (S ++ TL.joinL S ys)
    rw [joinL_app (xs := z :: r) (by simp) h, List.append_assoc, List.append_assoc]
theorem wds_ne {w : Nat} {d : PyData} (h : okP w d) : wds d ≠ [] := by
  rcases okP_cases h with ⟨n, rfl, _⟩ | ⟨ds, rfl, _⟩ <;> simp [wds]
theorem wdss_ne {w : Nat} : ∀ {ds : List PyData}, okPs w ds → ds ≠ [] → wdss ds ≠ []
  | [], _, h => absurd rfl h
  | d :: ds, h, _ => by
    unfold wdss
    have := wds_ne h.1
    simp [this]
theorem tl_sp : TL.tl sp1 = [32] := by decide +kernel
mutual
theorem tl_text {w : Nat} : ∀ d : PyData, okP w d → TL.tl (textP d) = TL.joinL [32] ((wds d).map TL.tl)
  | .int _, _ => rfl
  | .tuple ds, h => by
    unfold okP at h
    have ne : ds ≠ [] := fun z => by rw [z] at h; simp at h
    have e := tl_texts ds h.2.2 ne
    show TL.tl (Str.empty ++ (Str.ofString "( ") ++ Txt.join sp1 (textPs ds) ++ (Str.ofString " )")) = TL.joinL [32] ((opS :: (wdss ds ++ [clS])).map TL.tl)
    rw [TL.tl_append, TL.tl_append, TL.tl_append, TL.join_eq, TL.tl_join, tl_sp, e]
    have e2 : (opS :: (wdss ds ++ [clS])).map TL.tl = [[40]] ++ ((wdss ds).map TL.tl ++ [[41]]) := by
      rw [List.map_cons, List.map_append]
      rfl
    have ne2 : (wdss ds).map TL.tl ≠ [] := fun z => wdss_ne h.2.2 ne (List.map_eq_nil_iff.mp z)
    rw [e2, joinL_app (by simp) (by simp [ne2]), joinL_app ne2 (by simp)]
    have t1 : TL.tl Str.empty = [] := rfl
    have t2 : TL.tl (Str.ofString "( ") = [40, 32] := by decide +kernel
    have t3 : TL.tl (Str.ofString " )") = [32, 41] := by decide +kernel
    rw [t1, t2, t3]
    simp [TL.joinL]
  | .none, h => by simp [okP] at h
  | .bool _, h => by simp [okP] at h
  | .str _, h => by simp [okP] at h
  | .list _, h => by simp [okP] at h
  | .dict _, h => by simp [okP] at h
theorem tl_texts {w : Nat} : ∀ ds : List PyData, okPs w ds → ds ≠ [] → TL.joinL [32] ((textPs ds).map TL.tl) = TL.joinL [32] ((wdss ds).map TL.tl)
  | [], _, h => absurd rfl h
  | [d], h, _ => by
    unfold okPs at h
    show TL.tl (textP d) = TL.joinL [32] ((wds d ++ []).map TL.tl)
    rw [List.append_nil]
    exact tl_text d h.1
  | d :: e :: ds, h, _ => by
    unfold okPs at h
    show TL.tl (textP d) ++ ([32] ++ TL.joinL [32] ((textPs (e :: ds)).map TL.tl)) = TL.joinL [32] ((wds d ++ wdss (e :: ds)).map TL.tl)
    rw [tl_texts (e :: ds) h.2 (by simp), tl_text d h.1, List.map_append, joinL_app (fun z => wds_ne h.1 (List.map_eq_nil_iff.mp z)) (fun z => wdss_ne h.2 (by simp) (List.map_eq_nil_iff.mp z))]
end
theorem text_join {w : Nat} {d : PyData} (h : okP w d) : textP d = Txt.join sp1 (wds d) := by
  refine TL.ext_tl ?_
  rw [tl_text d h, TL.join_eq, TL.tl_join, tl_sp]
def wordOk (x : Str) : Prop := x.length ≤ 2 ∧ (32 : Nat) ∉ TL.tl x
mutual
theorem wds_ok {w : Nat} : ∀ d : PyData, okP w d → ∀ x ∈ wds d, wordOk x
  | .int i, h => fun x hx => by
    unfold okP at h
    have hx : x = numS i.toNat := by simpa [wds] using hx
    subst hx
    obtain ⟨h1, _, _, _, _, h2, _⟩ := num_all i.toNat (by omega)
    exact ⟨by omega, h2⟩
  | .tuple ds, h => fun x hx => by
    unfold okP at h
    rcases List.mem_cons.mp (show x ∈ opS :: (wdss ds ++ [clS]) from hx) with e | hx
    · subst e
      exact ⟨by decide +kernel, by decide +kernel⟩
    · rcases List.mem_append.mp hx with hx | hx
      · exact wdss_ok ds h.2.2 x hx
      · rw [List.mem_singleton.mp hx]
        exact ⟨by decide +kernel, by decide +kernel⟩
  | .none, h => by simp [okP] at h
  | .bool _, h => by simp [okP] at h
  | .str _, h => by simp [okP] at h
  | .list _, h => by simp [okP] at h
  | .dict _, h => by simp [okP] at h
theorem wdss_ok {w : Nat} : ∀ ds : List PyData, okPs w ds → ∀ x ∈ wdss ds, wordOk x
  | [], _ => fun x hx => by cases hx
  | d :: ds, h => fun x hx => by
    unfold okPs at h
    rcases List.mem_append.mp (show x ∈ wds d ++ wdss ds from hx) with hx | hx
    · exact wds_ok d h.1 x hx
    · exact wdss_ok ds h.2 x hx
end
mutual
theorem wds_len {w : Nat} : ∀ d : PyData, okP w d → (wds d).length + 2 ≤ 3 * (leaf d).length
  | .int _, _ => by simp [wds, leaf]
  | .tuple ds, h => by
    unfold okP at h
    have := wdss_len ds h.2.2
    show (opS :: (wdss ds ++ [clS])).length + 2 ≤ 3 * (leafs ds).length
    simp only [List.length_cons, List.length_append, List.length_nil]
    omega
  | .none, h => by simp [okP] at h
  | .bool _, h => by simp [okP] at h
  | .str _, h => by simp [okP] at h
  | .list _, h => by simp [okP] at h
  | .dict _, h => by simp [okP] at h
theorem wdss_len {w : Nat} : ∀ ds : List PyData, okPs w ds → (wdss ds).length + 2 * ds.length ≤ 3 * (leafs ds).length
  | [], _ => by simp [wdss, leafs]
  | d :: ds, h => by
    unfold okPs at h
    have h1 := wds_len d h.1
    have h2 := wdss_len ds h.2
    show (wds d ++ wdss ds).length + 2 * (ds.length + 1) ≤ 3 * (leaf d ++ leafs ds).length
    simp only [List.length_append]
    omega
end
theorem sum_le {α : Type} (f : α → Nat) (c : Nat) : ∀ l : List α, (∀ x ∈ l, f x ≤ c) → (l.map f).sum ≤ c * l.length
  | [], _ => by simp
  | x :: l, h => by
    have h1 := h x List.mem_cons_self
    have h2 := sum_le f c l fun y hy => h y (List.mem_cons_of_mem _ hy)
    simp only [List.map_cons, List.sum_cons, List.length_cons, Nat.mul_add]
    omega
theorem text_len {w : Nat} {d : PyData} (h : okP w d) : (textP d).length ≤ 9 * (leaf d).length := by
  have e : (textP d).length = (TL.tl (textP d)).length := by simp [TL.tl, Str.length]
  rw [e, tl_text d h]
  have h1 := joinL_len [32] ((wds d).map TL.tl)
  have h2 := sum_le List.length 2 ((wds d).map TL.tl) fun x hx => by
    obtain ⟨y, hy, rfl⟩ := List.mem_map.mp hx
    have := (wds_ok d h y hy).1
    simpa [TL.tl, Str.length] using this
  have h3 := wds_len d h
  simp only [List.length_map, List.length_cons, List.length_nil] at h1 h2
  omega
theorem split_text {w : Nat} {d : PyData} (h : okP w d) : Txt.split (textP d) sp1 = wds d := by
  rw [text_join h]
  exact TL.split_join tl_sp (by decide +kernel) (wds_ne h) fun p hp => (wds_ok d h p hp).2
end RS
set_option Elab.async false
set_option maxRecDepth 100000
set_option maxHeartbeats 4000000
namespace RS
open PySem PySem.Spec PyProof.Rows L2 GX
section
variable {P : Program} {w : World} {K : PySem.W.Frag} {mg : Str → Option Value} {base : Heap}
theorem scFigures : FnScope ["word", "sign"] ["word"] (defScope s_is_figures) := ⟨rfl, rfl, rfl, by decide +kernel, rfl, by decide +kernel, by decide +kernel⟩
def spFigures (p : Addr) : Sp := fun vs H Q _ => ∃ (n : Nat), vs = [.str (numS n)] ∧ n < 40 ∧ Tab H p ∧ Q (.bl true) H
theorem is_figures_ok {c p : Addr} (D : DefAt K mg "is_figures" s_is_figures c) (T : Txt K mg) (TB : GxR.TabB base mg c p) : Cal P w K mg base CX0 2 "is_figures" ["word"] (spFigures p) := by
  have sc := scFigures
  refine def_ok0 D sc (fun vs H Q E h => ?_) (fun _ _ _ _ _ _ us hl => match us, hl with | [_], _ => rfl) (fun f A outer s H vs Q E hr h => ?_)
  · obtain ⟨n, rfl, _⟩ := h
    rfl
  · obtain ⟨n, rfl, hn, ht, k⟩ := h
    obtain ⟨f1, f2, f3, _⟩ := num_all n hn
    generalize numS n = x at f1 f2 f3 ⊢
    refine ⟨_, (pss_cons (ps_if ((pw_or (pt_not (pt_chain op_le op_le pe_int (pe_callB call_len_str (by rfl) T.len PySem.boot_len (pa_cons (pv 0) pa_nil)) pe_int)) (pw_or1 (pt_not (pt_val (pe_all (own := [("sign", 1)])  hr (by rfl) T.all TB (by rfl) (by rfl) sc.nd (blkOk_by (N := ["word", "sign"]) (sc := defScope s_is_figures) (own := [("sign", 1)]) (by decide +kernel)) (by decide +kernel) (by rfl) (by rfl) (pi_str (pv 0)) (fun _ _ _ _ _ _ _ => (pg_name (i := 1) sc.nd rfl (Or.inl rfl))) (fun _ _ _ _ _ _ _ hr => pe_chain op_le_str op_le_str pe_str (pv 1) pe_str)))))).pt) (pss_one (ps_ret pe_bl)) pss_nil) (pss_one (ps_ret (pe_or (pe_cmpR op_eq (pe_callB call_len_str (by rfl) T.len PySem.boot_len (pa_cons (pv 0) pa_nil)) pe_int (nomark _)) (pe_one (pe_cmpR op_ne (pe_item_str (pv 0) pe_int (fun _ _ => rfl)) pe_str (nomark _))))))), ?_⟩
    have z1 : x.length ≤ sizeLine := Nat.le_of_lt (small1000 (by omega))
    refine ⟨_, rfl, x, rfl, z1, _, _, rfl, rfl, _, rfl, ?_⟩
    rw [show decide ((1 : Int) ≤ (x.length : Nat)) = true from decide_eq_true (by omega)]
    refine iteT ⟨_, _, rfl, rfl, _, rfl, ?_⟩
    rw [show decide (((x.length : Nat) : Int) ≤ 2) = true from decide_eq_true (by omega)]
    refine iteF ⟨_, rfl, _, rfl, ht, ?_⟩
    refine all_by x.cps.size (fun i H' => H' = H) rfl (fun i H' hi e => ?_) (fun H' e => ?_)
    · subst e
      refine ⟨hi, fun y H2 ⟨e, c, hc, ey⟩ => ⟨rfl, ?_⟩⟩
      subst e ey
      have hc2 : x.cps.toList[i]? = some c := by simpa using hc
      have fc := List.all_eq_true.mp f2 c (List.mem_of_getElem? hc2)
      unfold figOk at fc
      rw [Bool.and_eq_true] at fc
      have ea : ∀ z : Nat, (!decide ((⟨#[z]⟩ : Str).cps.toList < (Str.ofString "0").cps.toList)) = !decide (([z] : List Nat) < [48]) := fun z => rfl
      have ez : ∀ z : Nat, (!decide ((Str.ofString "9").cps.toList < (⟨#[z]⟩ : Str).cps.toList)) = !decide (([57] : List Nat) < [z]) := fun z => rfl
      refine ⟨_, rfl, _, _, rfl, rfl, _, rfl, ?_⟩
      refine iteT' ((ea c).trans fc.1) ⟨_, _, rfl, rfl, _, rfl, fun _ => .mk hi rfl, fun h4 => ?_⟩
      rw [ez, fc.2] at h4
      cases h4
    · subst e
      refine ⟨Nat.le_refl _, _, rfl, iteF ?_⟩
      refine ⟨_, rfl, x, rfl, z1, rfl, ?_⟩
      refine ⟨_, rfl, ite2 (fun _ => k) fun h1 => ?_⟩
      have h1 : x.length ≠ 1 := fun z => by
        rw [z] at h1
        exact absurd h1 (by decide)
      rcases f3 with f3 | ⟨g1, g2⟩
      · exact absurd f3 h1
      · obtain ⟨c, hc⟩ := Option.isSome_iff_exists.mp g2
        refine ⟨_, rfl, x, 0, c, rfl, rfl, by decide, by decide, by omega, hc, rfl, ?_⟩
        have nc : ¬ V.str (⟨#[c]⟩ : Str) = V.str (Str.ofString "0") := fun z => by
          have : c = 48 := by
            have e : (⟨#[c]⟩ : Str).cps.toList = (Str.ofString "0").cps.toList := by
              injection z with z
              rw [z]
            have e2 : [c] = [48] := e
            exact (List.cons.inj e2).1
          rw [this] at hc
          exact g1 hc
        rw [decide_eq_false nc]
        exact k
end
end RS
set_option Elab.async false
set_option maxRecDepth 100000
set_option maxHeartbeats 4000000
namespace RS
open PySem PySem.Spec PyProof.Rows L2 GX
theorem atI_last {α : Type} (xs : List α) (v : α) : atI (xs ++ [v]) (-1) = some v := by
  unfold atI ixN
  rw [if_neg (by decide), if_pos (by rw [List.length_append, List.length_singleton]; omega)]
  show (xs ++ [v])[((-1 : Int) + ((xs ++ [v]).length : Nat)).toNat]? = some v
  rw [show ((-1 : Int) + ((xs ++ [v]).length : Nat)).toNat = xs.length by rw [List.length_append, List.length_singleton]; omega]
  simp
section
variable {P : Program} {w : World} {K : PySem.W.Frag} {mg : Str → Option Value} {base : Heap}
theorem scMay : FnScope ["levels", "word", "is_open"] ["levels", "word"] (defScope s_may_stand) := ⟨rfl, rfl, rfl, by decide +kernel, rfl, by decide +kernel, by decide +kernel⟩
def spMay (p : Addr) : Sp := fun vs H Q _ => ∃ (Lv a : Addr) (x : Str) (ys xs : List V), vs = [.ref Lv, .str x] ∧ H Lv = some (.lst (ys ++ [.ref a])) ∧ H a = some (.lst xs) ∧ ys.length ≤ 900 ∧ xs.length ≤ 900 ∧
  ((x = clS ∧ ys ≠ [] ∧ xs ≠ []) ∨ ((ys ≠ [] ∨ xs = []) ∧ (x = opS ∨ ∃ n < 40, x = numS n))) ∧ Tab H p ∧ Q (.bl true) H
theorem may_stand_ok {c p : Addr} (D : DefAt K mg "may_stand" s_may_stand c) (T : Txt K mg) (cF : Cal P w K mg base CX0 2 "is_figures" ["word"] (spFigures p)) : Cal P w K mg base CX0 3 "may_stand" ["levels", "word"] (spMay p) := by
  have sc := scMay
  refine def_ok0 D sc (fun vs H Q E h => ?_) (fun _ _ _ _ _ _ us hl => match us, hl with | [_, _], _ => rfl) (fun f A outer s H vs Q E hr h => ?_)
  · obtain ⟨Lv, a, x, ys, xs, rfl, _⟩ := h
    rfl
  · obtain ⟨Lv, a, x, ys, xs, rfl, hL, ha, zy, zx, hc, ht, k⟩ := h
    refine ⟨_, (pss_cons (ps_set (i := 2) sc.nd rfl (Or.inl rfl) (pe_cmpR op_gt (pe_callB call_len_seq (by rfl) T.len PySem.boot_len (pa_cons (pv 0) pa_nil)) pe_int (nomark _))) (pss_cons (ps_if ((pw_and (pt_truth (pe_ix ix_list (pv 0) (pe_un un_neg pe_int) (fun _ _ => rfl)) (by intro _; rfl)) (pw_and1 (pt_not (pt_truth (pv 2) (by intro _; rfl))))).pt) (pss_one (ps_ret pe_bl)) pss_nil) (pss_cons (ps_if (pt_cmpR op_eq (pv 1) pe_str (nomark _)) (pss_one (ps_ret (pe_and (pv 2) (pe_one (pe_cmpR op_gt (pe_callB call_len_seq (by rfl) T.len PySem.boot_len (pa_cons (pe_ix ix_list (pv 0) (pe_un un_neg pe_int) (fun _ _ => rfl)) pa_nil)) pe_int (nomark _)))))) pss_nil) (pss_one (ps_ret (pe_or (pe_cmpR op_eq (pv 1) pe_str (nomark _)) (pe_one (pe_c cF hr (by decide) (by rfl) pass0 (pa_cons (pv 1) pa_nil))))))))), ?_⟩
    refine ⟨_, rfl, Lv, _, rfl, .inl (SqL.of hL), _, _, rfl, rfl, ?_⟩
    have eo : decide ((((ys ++ [V.ref a]).length : Nat) : Int) > 1) = !ys.isEmpty := by
      rw [List.length_append, List.length_singleton]
      cases ys with
      | nil => rfl
      | cons y ys => exact decide_eq_true (by rw [List.length_cons]; omega)
    have hop : ys ≠ [] ∨ xs = [] := by
      rcases hc with ⟨_, h, _⟩ | ⟨h, _⟩
      · exact .inl h
      · exact h
    have hne : ∀ y : Str, x ≠ y → decide (V.str x = V.str y) = false := fun y h => decide_eq_false fun z => h (V.str.inj z)
    refine ⟨_, rfl, _, rfl, Lv, _, _, _, rfl, rfl, SqL.of hL, atI_last _ _, !xs.isEmpty, .inl ⟨xs, SqL.of ha, rfl⟩, ?_⟩
    rcases hc with ⟨rfl, h1, h2⟩ | ⟨_, hw⟩
    · refine iteT' (by simp [h2]) ⟨_, rfl, !ys.isEmpty, eo.symm, ?_⟩
      refine iteF' (by simp [h1]) ⟨_, rfl, rfl, _, rfl, ?_⟩
      refine iteT' (by decide +kernel) ⟨_, rfl, !ys.isEmpty, congrArg V.bl eo, ?_⟩
      refine iteT' (by simp [h1]) ⟨_, rfl, _, rfl, Lv, _, _, _, rfl, rfl, SqL.of hL, atI_last _ _, a, _, rfl, .inl (SqL.of ha), _, _, rfl, rfl, ?_⟩
      have e : decide (((xs.length : Nat) : Int) > 0) = true := decide_eq_true (by
        have : 0 < xs.length := List.length_pos_iff.mpr h2
        omega)
      rw [← e] at k
      exact k
    · have n1 : x ≠ clS := by
        rcases hw with rfl | ⟨n, hn, rfl⟩
        · decide +kernel
        · exact (num_all n hn).2.2.2.2.1
      by_cases hx : xs = []
      · refine iteF' (by simp [hx]) ⟨_, rfl, rfl, _, rfl, ?_⟩
        refine iteF' (hne _ n1) ⟨_, rfl, rfl, _, rfl, ?_⟩
        rcases hw with rfl | ⟨n, hn, rfl⟩
        · exact iteT' (by decide +kernel) k
        · exact iteF' (hne _ (num_all n hn).2.2.2.1) ⟨_, rfl, n, rfl, hn, ht, k⟩
      · have h1 : ys ≠ [] := hop.resolve_right hx
        refine iteT' (by simp [hx]) ⟨_, rfl, !ys.isEmpty, eo.symm, ?_⟩
        refine iteF' (by simp [h1]) ⟨_, rfl, rfl, _, rfl, ?_⟩
        refine iteF' (hne _ n1) ⟨_, rfl, rfl, _, rfl, ?_⟩
        rcases hw with rfl | ⟨n, hn, rfl⟩
        · exact iteT' (by decide +kernel) k
        · exact iteF' (hne _ (num_all n hn).2.2.2.1) ⟨_, rfl, n, rfl, hn, ht, k⟩
end
end RS
set_option Elab.async false
set_option maxRecDepth 100000
set_option maxHeartbeats 8000000
namespace RS
open PySem PySem.Spec PyProof.Rows L2 GX
/-! ### words put together: the parts that are open, the innermost first -/
abbrev Fr := List PyData × List PyData
def whole : List Fr → List PyData
  | [] => []
  | [f] => f.1 ++ f.2
  | f :: g :: fs => whole ((g.1 ++ [.tuple (f.1 ++ f.2)], g.2) :: fs)
termination_by l => l.length
def rem : List Fr → List Str
  | [] => []
  | [f] => wdss f.2
  | f :: g :: fs => wdss f.2 ++ clS :: rem (g :: fs)
def okFr (w : Nat) : Nat → List Fr → Prop
  | _, [] => False
  | _, [f] => okPs w f.1 ∧ okPs w f.2
  | k, f :: g :: fs => (okPs w f.1 ∧ okPs w f.2 ∧ 2 ≤ k + (f.1.length + f.2.length) ∧ k + (f.1.length + f.2.length) ≤ w) ∧ okFr w 1 (g :: fs)
theorem whole_eq {f f' : Fr} (e : f.1 ++ f.2 = f'.1 ++ f'.2) : ∀ fs : List Fr, whole (f :: fs) = whole (f' :: fs)
  | [] => by
    unfold whole
    exact e
  | g :: fs => by
    unfold whole
    rw [e]
theorem rem_eq {f f' : Fr} (e : f.2 = f'.2) : ∀ fs : List Fr, rem (f :: fs) = rem (f' :: fs)
  | [] => by
    unfold rem
    rw [e]
  | g :: fs => by
    unfold rem
    rw [e]
theorem rem_len : ∀ fs : List Fr, fs.length ≤ (rem fs).length + 1
  | [] => Nat.zero_le _
  | [f] => by simp
  | f :: g :: fs => by
    have := rem_len (g :: fs)
    unfold rem
    simp only [List.length_append, List.length_cons] at this ⊢
    omega
theorem okFr_top {w k : Nat} {f : Fr} : ∀ {fs : List Fr}, okFr w k (f :: fs) → okPs w f.1 ∧ okPs w f.2
  | [], h => h
  | _ :: _, h => ⟨h.1.1, h.1.2.1⟩
theorem okFr_put {w k k' : Nat} {f f' : Fr} (h1 : okPs w f'.1) (h2 : okPs w f'.2) (e : k' + (f'.1.length + f'.2.length) = k + (f.1.length + f.2.length)) : ∀ {fs : List Fr}, okFr w k (f :: fs) → okFr w k' (f' :: fs)
  | [], _ => ⟨h1, h2⟩
  | _ :: _, h => ⟨⟨h1, h2, by rw [e]; exact h.1.2.2.1, by rw [e]; exact h.1.2.2.2⟩, h.2⟩
theorem top_len {w k : Nat} {d : PyData} {f : Fr} (hw : w ≤ 6) : ∀ {fs : List Fr}, okFr w k (f :: fs) → whole (f :: fs) = [d] → f.1.length ≤ 6
  | [], _, h => by
    unfold whole at h
    have e := congrArg List.length h
    rw [List.length_append, List.length_singleton] at e
    omega
  | _ :: _, h, _ => by
    have := h.1.2.2.2
    omega
def LevAt (K : PySem.W.Frag) (H : Hp) : List Addr → List Fr → Prop
  | [], [] => True
  | a :: as, f :: fs => (∃ xs, H a = some (.lst xs) ∧ DpAll K H xs f.1 ∧ noLs f.1 = true) ∧ LevAt K H as fs
  | _, _ => False
theorem LevAt.same {K : PySem.W.Frag} {H H' : Hp} (s : Same H H') : ∀ {as : List Addr} {fs : List Fr}, LevAt K H as fs → LevAt K H' as fs
  | [], [], _ => trivial
  | _ :: _, _ :: _, ⟨⟨xs, h1, h2, h3⟩, t⟩ => ⟨⟨xs, s _ _ h1, dpAll_same s _ h2, h3⟩, t.same s⟩
theorem LevAt.other {K : PySem.W.Frag} {H : Hp} {b : Addr} {ys u : List V} (hb : H b = some (.lst ys)) : ∀ {as : List Addr} {fs : List Fr}, b ∉ as → LevAt K H as fs → LevAt K (upd H b (.lst u)) as fs
  | [], [], _, _ => trivial
  | a :: _, _ :: _, n, ⟨⟨xs, h1, h2, h3⟩, t⟩ => ⟨⟨xs, (upd_ne fun z => n (by rw [← z]; exact List.mem_cons_self)).trans h1, dpAll_upd hb _ h3 h2, h3⟩, t.other hb fun z => n (List.mem_cons_of_mem _ z)⟩
theorem LevAt.len {K : PySem.W.Frag} {H : Hp} : ∀ {as : List Addr} {fs : List Fr}, LevAt K H as fs → as.length = fs.length
  | [], [], _ => rfl
  | _ :: _, _ :: _, ⟨_, t⟩ => by rw [List.length_cons, List.length_cons, t.len]
theorem LevAt.mem {K : PySem.W.Frag} {H : Hp} {a : Addr} : ∀ {as : List Addr} {fs : List Fr}, LevAt K H as fs → a ∈ as → ∃ xs, H a = some (.lst xs)
  | b :: as, f :: fs, ⟨⟨xs, h1, _, _⟩, t⟩, m => by
    rcases List.mem_cons.mp m with e | m
    · rw [e]
      exact ⟨xs, h1⟩
    · exact t.mem m
theorem noLs_app {xs ys : List PyData} (h1 : noLs xs = true) (h2 : noLs ys = true) : noLs (xs ++ ys) = true := noLs_iff.mpr fun d hd => by
  rcases List.mem_append.mp hd with q | q
  · exact noLs_iff.mp h1 d q
  · exact noLs_iff.mp h2 d q
section
variable {P : Program} {w : World} {K : PySem.W.Frag} {mg : Str → Option Value} {base : Heap}
theorem scPut : FnScope ["words", "levels", "place", "word", "parts"] ["words"] (defScope s_put_together) := ⟨rfl, rfl, rfl, by decide +kernel, rfl, by decide +kernel, by decide +kernel⟩
def spPut (K : PySem.W.Frag) (p : Addr) : Sp := fun vs H Q _ => ∃ (W : Addr) (d : PyData) (n : Nat), vs = [.ref W] ∧ H W = some (.lst ((wds d).map V.str)) ∧ okP n d ∧ n ≤ 6 ∧ (leaf d).length ≤ 40 ∧ Tab H p ∧ ∀ H' v, Same H H' → Dp K H' v d → Q v H'
theorem put_together_ok {c p : Addr} (D : DefAt K mg "put_together" s_put_together c) (T : Txt K mg) (cM : Cal P w K mg base CX0 3 "may_stand" ["levels", "word"] (spMay p)) : Cal P w K mg base CX0 4 "put_together" ["words"] (spPut K p) := by
  have sc := scPut
  refine def_ok0 D sc (fun vs H Q E h => ?_) (fun _ _ _ _ _ _ us hl => match us, hl with | [_], _ => rfl) (fun f A outer s H vs Q E hr h => ?_)
  · obtain ⟨W, d, n, rfl, _⟩ := h
    rfl
  · obtain ⟨W, d, n, rfl, hW, okd, n6, l40, ht, k⟩ := h
    refine ⟨_, (pss_cons (ps_set (i := 1) sc.nd rfl (Or.inl rfl) (pe_lst (pa_cons (pe_lst pa_nil) pa_nil))) (pss_cons (ps_for PassesOwn.never rfl (pi_enum (by rfl) T.enumerate (pa_cons (pv 0) pa_nil)) (pg_tup (by rfl) (pgs_cons (pg_name (i := 2) sc.nd rfl (Or.inl rfl)) (pgs_cons (pg_name (i := 3) sc.nd rfl (Or.inl rfl)) pgs_nil))) (pss_cons (ps_if (pt_not (pt_val (pe_c cM hr (by decide) (by rfl) pass0 (pa_cons (pv 1) (pa_cons (pv 3) pa_nil))))) pss_never pss_nil) (pss_one (ps_if (pt_cmpR op_eq (pv 3) pe_str (nomark _)) (pss_one (ps_expr (pe_bm PySem.F.plainAttrs_list PySem.F.slot_list_append PySem.F.type_list_append mt_append (pv 1) (pa_cons (pe_lst pa_nil) pa_nil)))) (pss_one (ps_if (pt_cmpR op_eq (pv 3) pe_str (nomark _)) (pss_cons (ps_set (i := 4) sc.nd rfl (Or.inl rfl) (pe_bm0 PySem.F.plainAttrs_list PySem.F.slot_list_pop PySem.F.type_list_pop mt_pop (pv 1))) (pss_one (ps_expr (pe_bm PySem.F.plainAttrs_list PySem.F.slot_list_append PySem.F.type_list_append mt_append (pe_ix ix_list (pv 1) (pe_un un_neg pe_int) (fun _ _ => rfl)) (pa_cons (pe_callTy call_tuple_of (by rfl) T.tuple_ (by decide +kernel) (pa_cons (pv 4) pa_nil)) pa_nil))))) (pss_one (ps_expr (pe_bm PySem.F.plainAttrs_list PySem.F.slot_list_append PySem.F.type_list_append mt_append (pe_ix ix_list (pv 1) (pe_un un_neg pe_int) (fun _ _ => rfl)) (pa_cons (pe_callTy call_int_str (by rfl) T.int_ (by decide +kernel) (pa_cons (pv 3) pa_nil)) pa_nil)))))))))) (pss_cons (ps_if (pt_cmpR op_gt (pe_callB call_len_seq (by rfl) T.len PySem.boot_len (pa_cons (pv 1) pa_nil)) pe_int (nomark _)) pss_never pss_nil) (pss_one (ps_ret (pe_ix ix_list (pe_ix ix_list (pv 1) pe_int (fun _ _ => rfl)) pe_int (fun _ _ => rfl))))))), ?_⟩
    refine ⟨Nat.zero_le _, fun e0 he0 => ⟨by show 1 ≤ sizeLine; decide, fun Lv hLv => ?_⟩⟩
    have hLv0 := upd_no hLv
    have nLe : Lv ≠ e0 := fun z => by rw [z, upd_same] at hLv; cases hLv
    have s0 : Same H (upd (upd H e0 (.lst [])) Lv (.lst [.ref e0])) := fun b o e => by
      rw [upd_ne (ne_of_none e hLv0), upd_ne (ne_of_none e he0)]
      exact e
    have hlen : (wds d).length ≤ 120 := by
      have := wds_len d okd
      omega
    refine ⟨_, rfl, W, _, rfl, SqL.of (s0 _ _ hW), for_by ((wds d).map V.str).length (fun i σ H' => ∃ (as : List Addr) (fr : List Fr) (v2 v3 v4 : Option V), σ = [some (.ref W), some (.ref Lv), v2, v3, v4] ∧ Same H H' ∧ H' Lv = some (.lst ((as.map V.ref).reverse)) ∧
      Lv ∉ as ∧ as.Nodup ∧ (∀ a ∈ as, H a = none) ∧ LevAt K H' as fr ∧ okFr n 0 fr ∧ whole fr = [d] ∧ rem fr = (wds d).drop i)
      ⟨[e0], [([], [d])], none, none, none, rfl, s0, upd_same, by simpa using nLe, by simp, by simpa using he0, ⟨⟨[], (upd_ne (Ne.symm nLe)).trans upd_same, .nil, rfl⟩, trivial⟩, ⟨trivial, okd, trivial⟩, by unfold whole; rfl, ?_⟩ ?_ ?_⟩
    · show wdss [d] = (wds d).drop 0
      show wds d ++ [] = _
      rw [List.append_nil, List.drop_zero]
    · rintro i σ H' hi ⟨as, fr, v2, v3, v4, rfl, sm, hL, nL, nd, fz, lv, okf, wh, rm⟩
      have hi' : i < (wds d).length := by simpa using hi
      have hWt := sm _ _ hW
      refine ⟨⟨_, V.str (wds d)[i], SqL.of hWt, by rw [List.getElem?_map, List.getElem?_eq_getElem hi']; rfl⟩, fun y H2 ⟨TT, x, ey, hT, eH, hx⟩ => ?_⟩
      subst ey eH
      have ex := hx _ (SqL.of hWt)
      rw [List.getElem?_map, List.getElem?_eq_getElem hi'] at ex
      cases ex
      have sT : Same H' (upd H' TT (.tup [.int (i : Nat), .str (wds d)[i]])) := fun b o e => by
        rw [upd_ne (ne_of_none e hT)]
        exact e
      have sm2 := sm.trans sT
      have hL2 := sT _ _ hL
      have lv2 := lv.same sT
      refine ⟨TT, _, rfl, SqT.of upd_same, rfl, _, _, rfl, _, _, rfl, rfl, ?_⟩
      generalize upd H' TT (.tup [.int (i : Nat), .str (wds d)[i]]) = H2 at sm2 hL2 lv2 ⊢
      have la := lv2.len
      have lr := rem_len fr
      rw [rm, List.length_drop] at lr
      have cons := List.drop_eq_getElem_cons hi'
      rw [cons] at rm
      cases as with
      | nil =>
        cases fr with
        | nil => exact okf.elim
        | cons _ _ => exact lv2.elim
      | cons a as =>
        cases fr with
        | nil => exact lv2.elim
        | cons f fs =>
          obtain ⟨⟨xs, hA, hxs, nl⟩, lvs⟩ := lv2
          rw [List.map_cons, List.reverse_cons] at hL2
          have naL : a ≠ Lv := fun z => nL (by rw [z]; exact List.mem_cons_self)
          have nas : a ∉ as := (List.nodup_cons.mp nd).1
          have nda : as.Nodup := (List.nodup_cons.mp nd).2
          have nLs : Lv ∉ as := fun z => nL (List.mem_cons_of_mem _ z)
          have lxs : xs.length = f.1.length := dpLen hxs
          have fa : H a = none := fz a List.mem_cons_self
          have fzs : ∀ b ∈ as, H b = none := fun b hb => fz b (List.mem_cons_of_mem _ hb)
          obtain ⟨ok1, ok2⟩ := okFr_top okf
          have f6 : f.1.length ≤ 6 ∧ (fs = [] → f.2 ≠ [] → f.1 = []) := by
            cases fs with
            | nil =>
              unfold whole at wh
              have e := congrArg List.length wh
              rw [List.length_append, List.length_singleton] at e
              refine ⟨by omega, fun _ h => ?_⟩
              have := List.length_pos_iff.mpr h
              exact List.eq_nil_of_length_eq_zero (by omega)
            | cons g fs => exact ⟨by have := okf.1.2.2.2; omega, fun h => nomatch h⟩
          have sas : (as.map V.ref).reverse.length ≤ 900 := by
            rw [List.length_reverse, List.length_map]
            simp only [List.length_cons] at la lr
            omega
          have hT2 : Tab H2 p := sm2 _ _ ht
          obtain ⟨b, todo⟩ := f
          cases todo with
          | nil =>
            cases fs with
            | nil =>
              unfold rem wdss at rm
              cases rm
            | cons g fs =>
              have rm2 : clS :: rem (g :: fs) = (wds d)[i] :: (wds d).drop (i + 1) := by
                have e : rem ((b, []) :: g :: fs) = clS :: rem (g :: fs) := by
                  rw [rem]
                  rfl
                rw [e] at rm
                exact rm
              obtain ⟨ew, er⟩ := List.cons.inj rm2
              rw [← ew]
              cases as with
              | nil => exact lvs.elim
              | cons a2 as =>
                obtain ⟨⟨xs2, hA2, hxs2, nl2⟩, lvs2⟩ := lvs
                have b2 := okf.1.2.2.1
                have b3 := okf.1.2.2.2
                simp only [List.length_nil, Nat.add_zero, Nat.zero_add] at b2 b3
                have na2 : a2 ∉ as := (List.nodup_cons.mp nda).1
                have na2L : a2 ≠ Lv := fun z => nLs (by rw [z]; exact List.mem_cons_self)
                have naa2 : a ≠ a2 := fun z => nas (by rw [z]; exact List.mem_cons_self)
                have fa2 : H a2 = none := fzs a2 List.mem_cons_self
                refine ⟨_, rfl, _, rfl, Lv, a, clS, _, xs, rfl, hL2, hA, sas, by omega, .inl ⟨rfl, by simp, fun z => ?_⟩, hT2, _, rfl, ?_⟩
                · rw [z] at lxs
                  simp only [List.length_nil] at lxs
                  omega
                refine iteF ⟨_, rfl, rfl, _, rfl, ?_⟩
                refine iteF' (by decide +kernel) ⟨_, rfl, rfl, _, rfl, ?_⟩
                refine iteT' (by decide +kernel) ⟨_, rfl, .inl ⟨rfl, _, SqL.of hL2⟩, Lv, _, .ref a, rfl, rfl, hL2, by simp, ?_⟩
                rw [List.dropLast_concat, List.map_cons, List.reverse_cons]
                have hL3 : upd H2 Lv (.lst ((as.map V.ref).reverse ++ [.ref a2])) Lv = some (.lst ((as.map V.ref).reverse ++ [.ref a2])) := upd_same
                have hA3 : upd H2 Lv (.lst ((as.map V.ref).reverse ++ [.ref a2])) a = some (.lst xs) := (upd_ne naL).trans hA
                have hA23 : upd H2 Lv (.lst ((as.map V.ref).reverse ++ [.ref a2])) a2 = some (.lst xs2) := (upd_ne na2L).trans hA2
                have hxs3 := dpAll_upd (u := (as.map V.ref).reverse ++ [.ref a2]) hL2 _ nl hxs
                have hxs23 := dpAll_upd (u := (as.map V.ref).reverse ++ [.ref a2]) hL2 _ nl2 hxs2
                have lvs3 := lvs2.other (u := (as.map V.ref).reverse ++ [.ref a2]) hL2 fun z => nLs (List.mem_cons_of_mem _ z)
                have sm3 : Same H (upd H2 Lv (.lst ((as.map V.ref).reverse ++ [.ref a2]))) := fun b o e => by
                  rw [upd_ne (ne_of_none e (upd_no hLv))]
                  exact sm2 b o e
                generalize upd H2 Lv (.lst ((as.map V.ref).reverse ++ [.ref a2])) = H3 at hL3 hA3 hA23 hxs3 hxs23 lvs3 sm3 ⊢
                refine ⟨_, rfl, _, rfl, Lv, _, _, _, rfl, rfl, SqL.of hL3, atI_last _ _, .inl ⟨rfl, _, SqL.of hA23⟩, _, rfl, a, xs, rfl, .inl ⟨SqL.of hA3, fun tp htp => ?_⟩⟩
                have s4 : Same H3 (upd H3 tp (.tup xs)) := fun b o e => by
                  rw [upd_ne (ne_of_none e htp)]
                  exact e
                have hA24 := s4 _ _ hA23
                have lx2 := dpLen hxs2
                have okb : okP n (.tuple b) := ⟨b2, b3, ok1⟩
                have okbs : okPs n [.tuple b] := ⟨okb, trivial⟩
                obtain ⟨okg1, okg2⟩ := okFr_top okf.2
                have okn : okFr n 0 ((g.1 ++ [.tuple b], g.2) :: fs) := by
                  refine okFr_put (f := g) (f' := (g.1 ++ [PyData.tuple b], g.2)) (okPs_app.mpr ⟨okg1, okbs⟩) okg2 ?_ okf.2
                  simp only [List.length_append, List.length_cons, List.length_nil]
                  omega
                have whn : whole ((g.1 ++ [.tuple b], g.2) :: fs) = [d] := by
                  unfold whole at wh
                  rw [List.append_nil] at wh
                  exact wh
                have t6 := top_len n6 okn whn
                rw [List.length_append] at t6
                refine ⟨a2, xs2, _, rfl, rfl, hA24, small1000 (by omega), ?_⟩
                have nlb : noLs [PyData.tuple b] = true := by
                  simp [noLs, noL, nl]
                have nlg := noLs_app nl2 nlb
                refine ⟨a2 :: as, (g.1 ++ [.tuple b], g.2) :: fs, _, _, _, rfl, fun c o e => ?_, ?_, nLs, nda, fzs, ⟨⟨_, upd_same, dpAll_upd hA24 _ nlg (dpApp (dpAll_same s4 _ hxs23) (.cons (.tup (SqT.of upd_same) (dpAll_same s4 _ hxs3)) .nil)), nlg⟩, (lvs3.same s4).other hA24 na2⟩, okn, whn, ?_⟩
                · rw [upd_ne (ne_of_none e fa2)]
                  exact s4 _ _ (sm3 _ _ e)
                · rw [upd_ne (Ne.symm na2L), List.map_cons, List.reverse_cons]
                  exact s4 _ _ hL3
                · rw [rem_eq (f := (g.1 ++ [PyData.tuple b], g.2)) (f' := g) rfl fs]
                  exact er
          | cons t todo =>
            have tok : okP n t := ok2.1
            have hop : (as.map V.ref).reverse ≠ [] ∨ xs = [] := by
              cases fs with
              | nil =>
                right
                have := f6.2 rfl (by simp)
                simp only at this lxs
                rw [this] at lxs
                exact List.eq_nil_of_length_eq_zero lxs
              | cons g fs =>
                left
                cases as with
                | nil => exact lvs.elim
                | cons _ _ => simp
            rcases okP_cases tok with ⟨m, rfl, hm⟩ | ⟨es, rfl, e1, e2, oks⟩
            · have rm2 : numS m :: rem ((b ++ [.int (m : Nat)], todo) :: fs) = (wds d)[i] :: (wds d).drop (i + 1) := by
                rw [← rm]
                cases fs with
                | nil => rfl
                | cons g fs => rfl
              obtain ⟨ew, er⟩ := List.cons.inj rm2
              rw [← ew]
              obtain ⟨_, _, _, h4, h5, _, _, h8⟩ := num_all m hm
              have hne : ∀ y : Str, numS m ≠ y → decide (V.str (numS m) = V.str y) = false := fun y h => decide_eq_false fun z => h (V.str.inj z)
              refine ⟨_, rfl, _, rfl, Lv, a, numS m, _, xs, rfl, hL2, hA, sas, by omega, .inr ⟨hop, .inr ⟨m, hm, rfl⟩⟩, hT2, _, rfl, ?_⟩
              refine iteF ⟨_, rfl, rfl, _, rfl, ?_⟩
              refine iteF' (hne _ h4) ⟨_, rfl, rfl, _, rfl, ?_⟩
              refine iteF' (hne _ h5) ⟨_, rfl, _, rfl, Lv, _, _, _, rfl, rfl, SqL.of hL2, atI_last _ _, .inl ⟨rfl, _, SqL.of hA⟩, _, rfl, numS m, _, rfl, h8, by omega, ?_⟩
              have nl' : noLs (b ++ [PyData.int (m : Nat)]) = true := noLs_app nl rfl
              refine ⟨a, xs, _, rfl, rfl, hA, small1000 (by have := f6.1; simp only at this lxs; omega), ?_⟩
              refine ⟨a :: as, (b ++ [PyData.int (m : Nat)], todo) :: fs, _, _, _, rfl, fun c o e => ?_, ?_, nL, nd, fz, ⟨⟨_, upd_same, dpAll_upd hA _ nl' (dpApp hxs (.cons (.int _) .nil)), nl'⟩, lvs.other hA nas⟩, ?_, ?_, er⟩
              · rw [upd_ne (ne_of_none e fa)]
                exact sm2 _ _ e
              · rw [upd_ne (Ne.symm naL), List.map_cons, List.reverse_cons]
                exact hL2
              · refine okFr_put (f := (b, PyData.int (m : Nat) :: todo)) (f' := (b ++ [PyData.int (m : Nat)], todo)) (okPs_app.mpr ⟨ok1, tok, trivial⟩) ok2.2 ?_ okf
                simp only [List.length_append, List.length_cons, List.length_nil]
                omega
              · rw [← wh]
                exact whole_eq (f := (b ++ [PyData.int (m : Nat)], todo)) (f' := (b, PyData.int (m : Nat) :: todo)) (by simp) fs
            · have rm2 : opS :: rem (([], es) :: (b, todo) :: fs) = (wds d)[i] :: (wds d).drop (i + 1) := by
                rw [← rm]
                cases fs with
                | nil =>
                  show opS :: (wdss es ++ clS :: wdss todo) = (opS :: (wdss es ++ [clS])) ++ wdss todo
                  simp
                | cons g fs =>
                  show opS :: (wdss es ++ clS :: (wdss todo ++ clS :: rem (g :: fs))) = ((opS :: (wdss es ++ [clS])) ++ wdss todo) ++ clS :: rem (g :: fs)
                  simp
              obtain ⟨ew, er⟩ := List.cons.inj rm2
              rw [← ew]
              refine ⟨_, rfl, _, rfl, Lv, a, opS, _, xs, rfl, hL2, hA, sas, by omega, .inr ⟨hop, .inl rfl⟩, hT2, _, rfl, ?_⟩
              refine iteF ⟨_, rfl, rfl, _, rfl, ?_⟩
              refine iteT' (by decide +kernel) ⟨_, rfl, .inl ⟨rfl, _, SqL.of hL2⟩, Nat.zero_le _, fun e he => ?_⟩
              have sE : Same H2 (upd H2 e (.lst [])) := fun c o q => by
                rw [upd_ne (ne_of_none q he)]
                exact q
              have hLE := sE _ _ hL2
              have neL : Lv ≠ e := fun z => by rw [← z, hL2] at he; cases he
              have lvE : LevAt K (upd H2 e (.lst [])) (a :: as) ((b, todo) :: fs) := LevAt.same sE ⟨⟨xs, hA, hxs, nl⟩, lvs⟩
              have ne : e ∉ a :: as := fun z => by
                obtain ⟨_, q⟩ := LevAt.mem (K := K) (H := H2) (as := a :: as) (fs := (b, todo) :: fs) ⟨⟨xs, hA, hxs, nl⟩, lvs⟩ z
                rw [he] at q
                cases q
              refine ⟨Lv, _, _, rfl, rfl, hLE, small1000 ?_, ?_⟩
              · rw [List.length_append, List.length_singleton]
                omega
              refine ⟨e :: a :: as, ([], es) :: (b, todo) :: fs, _, _, _, rfl, fun c o q => ?_, ?_, ?_, List.nodup_cons.mpr ⟨ne, nd⟩, ?_, ⟨⟨[], (upd_ne (Ne.symm neL)).trans upd_same, .nil, rfl⟩, lvE.other hLE nL⟩, ⟨⟨trivial, oks, ?_, ?_⟩, ?_⟩, ?_, er⟩
              · rw [upd_ne (ne_of_none q (upd_no hLv))]
                exact sE _ _ (sm2 _ _ q)
              · rw [upd_same, List.map_cons, List.reverse_cons, List.map_cons, List.reverse_cons]
              · intro z
                rcases List.mem_cons.mp z with z | z
                · exact neL z
                · exact nL z
              · intro c hc
                rcases List.mem_cons.mp hc with z | z
                · rw [z]
                  exact sm2.free he
                · exact fz c z
              · show 2 ≤ 0 + (0 + es.length)
                omega
              · show 0 + (0 + es.length) ≤ n
                omega
              · refine okFr_put (f := (b, PyData.tuple es :: todo)) (f' := (b, todo)) ok1 ok2.2 ?_ okf
                simp only [List.length_cons]
                omega
              · refine Eq.trans ?_ wh
                refine Eq.trans (b := whole ((b ++ [PyData.tuple ([] ++ es)], todo) :: fs)) (by rw [whole]) ?_
                exact whole_eq (f := (b ++ [PyData.tuple ([] ++ es)], todo)) (f' := (b, PyData.tuple es :: todo)) (by simp) fs
    · rintro σ H' ⟨as, fr, v2, v3, v4, rfl, sm, hL, nL, nd, fz, lv, okf, wh, rm⟩
      refine ⟨⟨_, SqL.of (sm _ _ hW), Nat.le_refl _⟩, ?_⟩
      rw [List.length_map, List.drop_length] at rm
      cases fr with
      | nil => exact okf.elim
      | cons f fs =>
        cases fs with
        | cons g fs =>
          unfold rem at rm
          simp at rm
        | nil =>
          have e2 : f.2 = [] := by
            by_cases z : f.2 = []
            · exact z
            · exact absurd rm (wdss_ne okf.2 z)
          unfold whole at wh
          rw [e2, List.append_nil] at wh
          cases as with
          | nil => exact lv.elim
          | cons a as =>
            obtain ⟨⟨xs, hA, hxs, _⟩, lvs⟩ := lv
            cases as with
            | cons _ _ => exact lvs.elim
            | nil =>
              rw [wh] at hxs
              cases hxs with
              | cons hv ht =>
                cases ht
                refine ⟨_, rfl, Lv, _, rfl, .inl (SqL.of hL), _, _, rfl, rfl, _, rfl, ?_⟩
                refine iteF ⟨_, rfl, Lv, _, _, _, rfl, rfl, SqL.of hL, atI_nat (j := 0) rfl, a, _, _, _, rfl, rfl, SqL.of hA, atI_nat (j := 0) rfl, k _ _ sm hv⟩
end
end RS
set_option Elab.async false
set_option maxRecDepth 100000
set_option maxHeartbeats 4000000
namespace GX
open PySem PySem.Spec PyProof.Rows L2
/-! ### xs.extend(t), t any tuple -/
theorem ext_tup (l b : Addr) (xs ys : Array Value) (n m : Nat) (dd : Option Addr) (sl : Array (Option Value)) (h0 : ¬(!xs.isEmpty && Builtin.List.listTooLong (xs.size + ys.size)) = true) (h1 : xs.size ≤ sizeLine) (h2 : xs.size + ys.size ≤ sizeLine + 1) :
    Meets (Builtin.«list.extend» ⟨[.ref l, .ref b], []⟩) (fun _ R s => s.heap.get? l = some ⟨.type "list", none, .seq xs n, #[]⟩ ∧ s.heap.get? b = some ⟨.type "tuple", dd, .seq ys m, sl⟩ ∧ R (.ok (.ret .none)) { s with heap := s.heap.update l (Obj.mapSeq fun x => x ++ ys), toks := s.toks }) := .of_wp fun prog w A R s h => by
    obtain ⟨hp, g, d, tk, os⟩ := s
    obtain ⟨hl, hb, h⟩ := h
    have g1 := PySem.AutoSeq1.idx_int
    have g2 := PySem.AutoSeq1.sub_tuple_tuple
    have g3 := PySem.AutoSeq1.sub_list_list
    have g4 := PySem.AutoSeq1.sub_tuple_list
    have g5 := PySem.AutoSeq1.sub_list_tuple
    have z : (xs ++ ys).size ≤ sizeLine + 1 := (Array.size_append (xs := xs) (ys := ys)).symm ▸ h2
    wp_walk using (wpAny_updateSeq hl rfl (hz := h1) (_hz' := z)), PySem.AutoSeq1.wpAny_loadPart' hl, PySem.AutoSeq1.wpAny_loadPart' hb
    exact ⟨_, rfl, h⟩
section
variable {X : Cx}
def rExtT (K : PySem.W.Frag) : V → List V → Hp → VK → Prop := fun x vs H Q => ∃ l b xs zs, x = .ref l ∧ vs = [.ref b] ∧ H l = some (.lst xs) ∧ SqT K H b zs ∧ xs.length + zs.length ≤ sizeLine ∧ Q .non (upd H l (.lst (xs ++ zs)))
theorem mt_extT : MtM X "list.extend" (rExtT X.K) := by
  intro pins s σ H x vs v us Q I rx rv h
  obtain ⟨l, b, xs, zs, rfl, rfl, hH, hB, hz, q⟩ := h
  cases rx
  obtain ⟨u, rfl, ru⟩ := rv.one
  cases ru
  obtain ⟨z, its, n, r, hl, e⟩ := I.lstM hH
  obtain ⟨its2, r2, ⟨⟨oc, dd, dt, sl⟩, e2, hc, m, hd⟩, hz2⟩ := I.tuple hB
  subst hc hd
  have hl2 := r2.length
  have hsz : its.toArray.size + its2.toArray.size ≤ sizeLine := by rw [List.size_toArray, List.size_toArray]; omega
  have hlong : ¬ (!its.toArray.isEmpty && Builtin.List.listTooLong (its.toArray.size + its2.toArray.size)) = true := fun w => by
    rw [notLongL hsz, Bool.and_false] at w
    cases w
  refine call_meets F.slot_list_extend ⟨_, e, rfl⟩ F.entry_list_extend (F.args_list_extend_2 _ _) (ext_tup l b its.toArray its2.toArray n m dd sl hlong (by rw [List.size_toArray]; omega) (by omega)) ⟨e, e2, ?_⟩
  refine ⟨.non, _, I.lset (its' := its ++ its2) hH e (by simp) (r.append r2) (by rw [List.length_append]; omega), rfl, q⟩
/-- len(d) of a dict -/
theorem len_dic : CallR X (.builtin "len") (fun vs H Q => ∃ p es, vs = [V.ref p] ∧ H p = some (.dK es) ∧ Q (.int es.length) H) := fun pins s σ H vs us Q I r ⟨p, es, e, hp, q⟩ => by
  subst e
  obtain ⟨u, rfl, ru⟩ := vals1 r
  cases ru
  exact d_len I (.inl hp) fun tk s1 I1 => ⟨.int es.length, _, I1, ⟨tk, rfl⟩, q⟩
end
end GX
set_option Elab.async false
set_option maxRecDepth 100000
set_option maxHeartbeats 4000000
namespace RS
open PySem PySem.Spec PyProof.Rows L2 GX
theorem le64 {n : Nat} (h : n + 64 < cLine) : n + 1 < cLine := by omega
def keysD (js : List Nat) : List (Key × V) := js.map fun (j : Nat) => ((Sum.inl (j : Int) : Key), V.bl true)
theorem valV_js {js : List Nat} {i : Nat} (h : i ∉ js) : valV (keysD js) (Sum.inl (i : Int)) = none := by
  unfold keysD
  induction js with
  | nil => rfl
  | cons j js ih =>
    rw [List.map_cons, valV_neg]
    · exact ih fun z => h (List.mem_cons_of_mem _ z)
    · intro z
      have : (j : Int) = (i : Int) := Sum.inl.inj z
      exact h (by rw [show i = j by omega]; exact List.mem_cons_self)
theorem dpAll_snoc {K : PySem.W.Frag} {H : Hp} : ∀ {xs : List V} {y : V} {ds : List PyData}, DpAll K H (xs ++ [y]) ds → ∃ ds0 d, ds = ds0 ++ [d] ∧ DpAll K H xs ds0 ∧ Dp K H y d
  | [], _, _, .cons h .nil => ⟨[], _, rfl, .nil, h⟩
  | _ :: xs, _, _, .cons h t => by
    obtain ⟨ds0, d, rfl, h1, h2⟩ := dpAll_snoc (xs := xs) t
    exact ⟨_ :: ds0, d, rfl, .cons h h1, h2⟩
section
variable {P : Program} {w : World} {K : PySem.W.Frag} {mg : Str → Option Value} {base : Heap}
theorem scCheckPlan : FnScope ["lengths", "ways", "plan", "named", "left", "part"] ["lengths", "ways", "plan"] (defScope s_check_plan) := ⟨rfl, rfl, rfl, by decide +kernel, rfl, by decide +kernel, by decide +kernel⟩
def spCheckPlan (K : PySem.W.Frag) : Sp := fun vs H Q _ => ∃ (vl vp : V) (ls : List Nat) (n : Nat) (d : PyData), vs = [vl, .int (n : Nat), vp] ∧ Dp K H vl (lensD ls) ∧ Dp K H vp d ∧ OkPlan ls.length n d ∧ ls.length ≤ 40 ∧ n ≤ 6 ∧ ∀ H', Same H H' → Q .non H'
theorem check_plan_ok {c : Addr} (D : DefAt K mg "check_plan" s_check_plan c) (T : Txt K mg) (cN : Cal P w K mg base CX0 1 "is_number" ["value"] (spNum K)) : Cal P w K mg base CX0 2 "check_plan" ["lengths", "ways", "plan"] (spCheckPlan K) := by
  have sc := scCheckPlan
  obtain ⟨tA, hA⟩ := T.leastw
  refine def_ok0 D sc (fun vs H Q E h => ?_) (fun _ _ _ _ _ _ us hl => match us, hl with | [_, _, _], _ => rfl) (fun f A outer s H vs Q E hr h => ?_)
  · obtain ⟨vl, vp, ls, n, d, rfl, _⟩ := h
    rfl
  · obtain ⟨vl, vp, ls, n, d, rfl, hl, hp, ok, l40, n6, k⟩ := h
    have hu := hr.units
    refine ⟨_, (pss_cons (ps_par (i := 3) (j := 4) rfl sc.nd rfl rfl (by decide) rfl rfl (pa_cons pe_dnewK (pa_cons (pe_lst (pa_cons (pv 2) pa_nil)) pa_nil)) (by rfl)) (pss_cons (ps_while PassesOwn.never (pt_truth (pv 4) (by intro _; rfl)) (pss_cons (ps_set (i := 5) sc.nd rfl (Or.inl rfl) (pe_bm0 PySem.F.plainAttrs_list PySem.F.slot_list_pop PySem.F.type_list_pop mt_pop (pv 4))) (pss_one (ps_if (pt_val (pe_callB call_isiD (by rfl) T.isinstance (by decide +kernel) (pa_cons (pv 5) (pa_cons (pe_bltn (v := V.ty "tuple") (u := Value.type "tuple") (by rfl) T.tuple_ (by decide +kernel) rfl) pa_nil)))) (pss_cons (ps_if (pt_not (pt_chain op_le op_le (pe_glob (v := V.int 2) (by rfl) hA ⟨_, rfl⟩) (pe_callB call_lenD (by rfl) T.len PySem.boot_len (pa_cons (pv 5) pa_nil)) (pv 1))) pss_never pss_nil) (pss_one (ps_expr (pe_bm PySem.F.plainAttrs_list PySem.F.slot_list_extend PySem.F.type_list_extend mt_extT (pv 4) (pa_cons (pv 5) pa_nil))))) (pss_one (ps_if ((pw_or (pt_not (pt_val (pe_c cN hr (by decide) (by rfl) pass0 (pa_cons (pv 5) pa_nil)))) (pw_or (pt_not (pt_chain op_le op_lt pe_int (pv 5) (pe_callB call_lenD (by rfl) T.len PySem.boot_len (pa_cons (pv 0) pa_nil)))) (pw_or1 (pt_cmp (pc_din (le64 hu) (pv 5) (pv 3)))))).pt) pss_never (pss_one (ps_dput (le64 hu) (pv 3) (pv 5) pe_bl (by rfl))))))))) (pss_one (ps_if (pt_cmpR op_lt (pe_callB len_dic (by rfl) T.len PySem.boot_len (pa_cons (pv 3) pa_nil)) (pe_callB call_lenD (by rfl) T.len PySem.boot_len (pa_cons (pv 0) pa_nil)) (nomark _)) pss_never pss_nil)))), ?_⟩
    intro p hp0
    refine ⟨_, rfl, by show 1 ≤ sizeLine; decide, fun q hq => ⟨_, _, rfl, ?_⟩⟩
    refine ⟨fun m σ H' => ∃ (xs : List V) (ds : List PyData) (js : List Nat) (v5 : Option V), σ = [some vl, some (.int (n : Nat)), some vp, some (.ref p), some (.ref q), v5] ∧ Same H H' ∧
      H' p = some (.dK (keysD js)) ∧ H' q = some (.lst xs) ∧ DpAll K H xs ds ∧ okPs n ds ∧ (js ++ leafs ds).Perm (List.range ls.length) ∧ m = sizePs ds, ⟨_, [vp], [d], [], none, rfl, fun b o e => ?_, ?_, upd_same, ?_, ?_, ?_, rfl⟩, ?_⟩
    · rw [upd_ne (ne_of_none e (upd_no hq)), upd_ne (ne_of_none e hp0)]
      exact e
    · rw [upd_ne (fun z => by rw [z, upd_same] at hq; cases hq), upd_same]
      rfl
    · exact .cons hp .nil
    · exact ⟨ok.ok, trivial⟩
    · simpa [leafs] using ok.all
    rintro m σ H' ⟨xs, ds, js, v5, rfl, sm, hP, hQ, hd, okd, pm, em⟩
    have npq : p ≠ q := fun z => by rw [z, upd_same] at hq; cases hq
    refine ⟨_, rfl, !xs.isEmpty, .inl ⟨xs, SqL.of hQ, rfl⟩, ?_⟩
    rcases xs.eq_nil_or_concat with rfl | ⟨xs0, y, rfl⟩
    · cases hd
      refine iteF ?_
      have pm' : js.Perm (List.range ls.length) := by simpa [leafs] using pm
      have lj : js.length = ls.length := by rw [pm'.length_eq, List.length_range]
      refine ⟨_, rfl, p, _, rfl, hP, _, rfl, _, _, (ls.map fun n => PyData.int (n : Nat)).length, rfl, dp_same sm _ hl, rfl, _, _, rfl, rfl, _, rfl, ?_⟩
      refine iteF' (decide_eq_false ?_) (k _ sm)
      show ¬ ((keysD js).length : Int) < ((ls.map fun n => PyData.int (n : Nat)).length : Nat)
      unfold keysD
      rw [List.length_map, List.length_map, lj]
      omega
    · rw [List.concat_eq_append] at hQ hd ⊢
      obtain ⟨ds0, e, rfl, hd0, he⟩ := dpAll_snoc hd
      obtain ⟨okd0, oke⟩ := okPs_app.mp okd
      have oke : okP n e := oke.1
      have pm1 : (js ++ (leafs ds0 ++ leaf e)).Perm (List.range ls.length) := by simpa [leafs_app, leafs] using pm
      refine iteT' (by simp) ⟨_, fun _ _ h => h, ?_⟩
      have hQ1 : upd H' q (.lst xs0) q = some (.lst xs0) := upd_same
      have hP1 : upd H' q (.lst xs0) p = some (.dK (keysD js)) := (upd_ne npq).trans hP
      have sm1 : ∀ u, Same H (upd H' q u) := fun u b o e => by
        rw [upd_ne (ne_of_none e (upd_no hq))]
        exact sm b o e
      have he1 := dp_same (sm1 (.lst xs0)) _ he
      refine ⟨_, rfl, .inl ⟨rfl, _, SqL.of hQ⟩, q, _, y, rfl, rfl, hQ, by simp, ?_⟩
      rw [List.dropLast_concat]
      refine ⟨_, rfl, _, _, _, rfl, by simp, he1, _, rfl, ?_⟩
      rcases okP_cases oke with ⟨i, rfl, hi⟩ | ⟨es, rfl, e1, e2, oks⟩
      · cases he1
        have hn : isNum (.int (i : Int)) = true := by simp [isNum, isI, isT, tyN]
        refine iteF ⟨_, rfl, _, _, rfl, .int _, _, rfl, ?_⟩
        rw [hn]
        have pm2 : (js ++ (leafs ds0 ++ [i])).Perm (List.range ls.length) := by simpa [leaf] using pm1
        have hi2 : i < ls.length := List.mem_range.mp (pm2.mem_iff.mp (by simp))
        have ni : i ∉ js := fun z => by
          have nd := pm2.nodup_iff.mpr List.nodup_range
          exact (List.nodup_append.mp nd).2.2 i z i (by simp) rfl
        refine iteF ⟨_, rfl, _, _, rfl, rfl, _, rfl, ?_⟩
        rw [show decide ((0 : Int) ≤ (i : Nat)) = true from decide_eq_true (by omega)]
        refine iteT ⟨_, rfl, _, _, (ls.map fun n => PyData.int (n : Nat)).length, rfl, dp_same (sm1 _) _ hl, rfl, _, _, rfl, rfl, _, rfl, ?_⟩
        rw [List.length_map, show decide (((i : Nat) : Int) < (ls.length : Nat)) = true from decide_eq_true (by omega)]
        refine iteF ⟨_, rfl, _, rfl, p, _, rfl, DGet.k (k := Sum.inl (i : Int)) hP1, _, rfl, ?_⟩
        rw [valV_js ni]
        refine iteF ⟨_, rfl, _, rfl, p, _, rfl, DPut.k (k := Sum.inl (i : Int)) hP1 ?_, ?_⟩
        · show (keysD js).length < sizeLine
          refine small1000 ?_
          have := pm2.length_eq
          rw [List.length_append, List.length_range] at this
          unfold keysD
          rw [List.length_map]
          omega
        · refine ⟨_, ?_, xs0, ds0, js ++ [i], _, rfl, fun b o e => ?_, ?_, (upd_ne (Ne.symm npq)).trans hQ1, hd0, okd0, ?_, rfl⟩
          · rw [em, sizePs_app]
            show sizePs ds0 < sizePs ds0 + (1 + 0)
            omega
          · rw [upd_ne (ne_of_none e hp0)]
            exact sm1 _ _ _ e
          · rw [upd_same, putK_new _ (valV_js ni)]
            unfold keysD
            rw [List.map_append]
            rfl
          · refine List.Perm.trans ?_ pm2
            rw [List.append_assoc]
            exact List.perm_append_comm.append_left _
      · refine iteT ⟨_, rfl, _, _, _, rfl, he1, rfl, _, _, rfl, rfl, _, rfl, ?_⟩
        rw [show decide ((2 : Int) ≤ (es.length : Nat)) = true from decide_eq_true (by omega)]
        refine iteT ⟨_, rfl, _, _, rfl, rfl, _, rfl, ?_⟩
        rw [show decide (((es.length : Nat) : Int) ≤ (n : Nat)) = true from decide_eq_true (by omega)]
        refine iteF ?_
        cases he with
        | @tup a zs _ hS hI =>
          have lz : zs.length = es.length := dpLen hI
          have lx := dpLen hd0
          have lf := leafs_depth ds0 okd0
          have lp := pm1.length_eq
          rw [List.length_append, List.length_append, List.length_range] at lp
          refine ⟨_, rfl, .inl ⟨rfl, _, SqL.of hQ1⟩, _, rfl, q, a, xs0, zs, rfl, rfl, hQ1, sqT_same (sm1 _) hS, ?_, ?_⟩
          · exact Nat.le_of_lt (small1000 (by omega))
          · refine ⟨_, ?_, xs0 ++ zs, ds0 ++ es, js, _, rfl, fun b o e => ?_, (upd_ne npq).trans hP1, upd_same, dpApp hd0 hI, okPs_app.mpr ⟨okd0, oks⟩, ?_, rfl⟩
            · rw [em, sizePs_app, sizePs_app]
              show sizePs ds0 + sizePs es < sizePs ds0 + ((1 + sizePs es) + 0)
              omega
            · rw [upd_ne (ne_of_none e (upd_no hq))]
              exact sm1 _ _ _ e
            · rw [leafs_app]
              exact pm1
end
end RS
set_option Elab.async false
set_option maxRecDepth 100000
set_option maxHeartbeats 4000000
namespace RS
open PySem PySem.Spec PyProof.Rows L2 GX
theorem num_log (n : Nat) (h : n < 40) : (n : Int).natAbs.log2 < 1920 := by
  rw [Int.natAbs_natCast]
  have := Nat.log2_le_self n
  omega
theorem len_app (x y : Str) : (x ++ y).length = x.length + y.length := by
  have e : ∀ z : Str, z.length = (TL.tl z).length := fun z => by simp [TL.tl, Str.length]
  rw [e, e x, e y, TL.tl_append, List.length_append]
theorem leaf_mem : ∀ {ds : List PyData} {d : PyData}, d ∈ ds → (leaf d).length ≤ (leafs ds).length
  | e :: ds, d, h => by
    show _ ≤ (leaf e ++ leafs ds).length
    rw [List.length_append]
    rcases List.mem_cons.mp h with q | q
    · rw [q]
      omega
    · have := leaf_mem q
      omega
section
variable {P : Program} {w : World} {K : PySem.W.Frag} {mg : Str → Option Value} {base : Heap}
theorem scPT : FnScope ["plan", "parts", "part"] ["plan"] (defScope s_plan_text) := ⟨rfl, rfl, rfl, by decide +kernel, rfl, by decide +kernel, by decide +kernel⟩
def spPT (K : PySem.W.Frag) (n : Nat) : Sp := fun vs H Q _ => ∃ (v : V) (d : PyData) (m : Nat), vs = [v] ∧ Dp K H v d ∧ okP m d ∧ m ≤ 6 ∧ (leaf d).length ≤ 40 ∧ d.depth ≤ n ∧ ∀ H', Same H H' → Q (.str (textP d)) H'
theorem pt_none {c : Addr} (D : DefAt K mg "plan_text" s_plan_text c) : Cal P w K mg base CX0 1 "plan_text" ["plan"] (fun _ _ _ _ => False) :=
  def_ok0 D scPT (fun vs H Q E h => h.elim) (fun _ _ _ _ _ _ us hl => match us, hl with | [_], _ => rfl) (fun f A outer s H vs Q E hr h => h.elim)
theorem pt_step {c : Addr} (D : DefAt K mg "plan_text" s_plan_text c) (T : Txt K mg) {j : Nat} (n : Nat) {sp : Sp} (hj : 1 ≤ j) (cR : Cal P w K mg base CX0 j "plan_text" ["plan"] sp)
    (hsp : ∀ (v : V) (d : PyData) (m : Nat) (H : Hp) (Q : VK) (E : XK), Dp K H v d → okP m d → m ≤ 6 → (leaf d).length ≤ 40 → d.depth + 1 ≤ n → (∀ H', Same H H' → Q (.str (textP d)) H') → sp [v] H Q E) : Cal P w K mg base CX0 (j + 1) "plan_text" ["plan"] (spPT K n) := by
  have sc := scPT
  refine def_ok0 D sc (fun vs H Q E h => ?_) (fun _ _ _ _ _ _ us hl => match us, hl with | [_], _ => rfl) (fun f A outer s H vs Q E hr h => ?_)
  · obtain ⟨v, d, m, rfl, _⟩ := h
    rfl
  · obtain ⟨v, d, m, rfl, hd, ok, m6, l40, hn, k⟩ := h
    refine ⟨_, (pss_cons (ps_if (pt_val (pe_callB call_isiD (by rfl) T.isinstance (by decide +kernel) (pa_cons (pv 0) (pa_cons (pe_bltn (v := V.ty "tuple") (u := Value.type "tuple") (by rfl) T.tuple_ (by decide +kernel) rfl) pa_nil)))) (pss_cons (ps_set (i := 1) sc.nd rfl (Or.inl rfl) (pe_bm PySem.F.plainAttrs_str PySem.F.slot_str_join PySem.F.type_str_join mt_join pe_str (pa_cons (pe_lc (own := [("part", 2)]) (tt := tYes)  rfl sc.nd (pi_tup (pv 0)) (blkOk_by (N := ["plan", "parts", "part"]) (sc := defScope s_plan_text) (own := [("part", 2)]) (by decide +kernel)) (fun _ _ _ _ _ => (pg_name (i := 2) sc.nd rfl (Or.inl rfl))) (fun _ _ _ _ _ => pts_nil) (fun _ _ _ _ _ => (pe_c cR hr (by omega) (by rfl) pass0 (pa_cons (pv 2) pa_nil)))) pa_nil))) (pss_one (ps_ret (pe_joined (.cons pe_str (.cons (pe_fmt (pv 1)) (.cons pe_str .nil))))))) pss_nil) (pss_one (ps_ret (pe_callTy call_str_int (by rfl) T.str_ (by decide +kernel) (pa_cons (pv 0) pa_nil))))), ?_⟩
    refine ⟨_, rfl, _, _, _, rfl, by simp, hd, _, rfl, ?_⟩
    rcases okP_cases ok with ⟨i, rfl, hi⟩ | ⟨ds, rfl, e1, e2, oks⟩
    · cases hd
      exact iteF ⟨_, rfl, _, rfl, num_log i hi, k H (Same.refl H)⟩
    · refine iteT ?_
      cases hd with
      | @tup a xs _ hS hI =>
        have lx : xs.length = ds.length := dpLen hI
        have l40' : (leafs ds).length ≤ 40 := l40
        have each : ∀ d ∈ ds, okP m d ∧ (leaf d).length ≤ 40 := fun d hd => ⟨okPs_iff.mp oks d hd, Nat.le_trans (leaf_mem hd) l40'⟩
        have hdep : ∀ d ∈ ds, d.depth + 1 ≤ n := fun d hd => by
          have a : PyData.depthAll ds + 1 ≤ n := by simpa only [PyData.depth] using hn
          have := depth_mem hd
          omega
        refine ⟨rfl, _, rfl, a, rfl, ⟨_, hS⟩, fun DD hD => ?_⟩
        refine lc_tup (K := K) (a := a) (xs := xs) (fun j H' => Same H H' ∧ H' DD = some (.lst ((ds.take j).map fun d => V.str (textP d)))) ⟨fun b o e => by rw [upd_ne (ne_of_none e hD)]; exact e, upd_same⟩ (fun j H4 _ h => sqT_same h.1 hS) ?_ ?_
        · rintro j x H4 hx ⟨sm, hl⟩
          obtain ⟨e, ee, he⟩ := dpGet hI hx
          have em := List.mem_of_getElem? ee
          refine ⟨rfl, _, rfl, hsp x e m H4 _ _ (dp_same sm _ he) (each e em).1 m6 (each e em).2 (hdep e em) fun H5 s5 => ?_⟩
          refine ⟨_, s5 _ _ hl, small1000 (by rw [List.length_map, List.length_take]; omega), fun b o q => ?_, ?_⟩
          · rw [upd_ne (ne_of_none q hD)]
            exact s5 _ _ (sm _ _ q)
          · rw [upd_same, List.take_add_one, ee, List.map_append]
            rfl
        · rintro H4 ⟨sm, hl⟩
          rw [lx, List.take_length] at hl
          have tl := text_len ok
          have e0 : textP (.tuple ds) = Str.empty ++ (Str.ofString "( ") ++ Txt.join sp1 (ds.map textP) ++ (Str.ofString " )") := by
            rw [← textPs_map]
            rfl
          have big : (1000 : Nat) ≤ sizeLine := by decide
          rw [e0] at k tl
          refine ⟨_, DD, ds.map textP, rfl, rfl, .inl (SqL.of (by rw [List.map_map]; exact hl)), ?_, ?_⟩
          · have := sum_le Str.length 360 (ds.map textP) fun y hy => by
              obtain ⟨d, hd, rfl⟩ := List.mem_map.mp hy
              have := text_len (each d hd).1
              have := (each d hd).2
              omega
            have e1 : (Str.ofString " ").length = 1 := by decide +kernel
            show ((ds.map textP).map Str.length).sum + (ds.map textP).length * (Str.ofString " ").length ≤ 16777216
            rw [e1]
            rw [List.length_map] at this ⊢
            omega
          · rw [len_app, len_app] at tl
            have l40'' : (leaf (.tuple ds)).length ≤ 40 := l40
            refine ⟨_, rfl, ?_, _, rfl, .inl ⟨_, rfl, ?_, _, rfl, ?_, _, rfl, ?_, k H4 sm⟩⟩
            · decide +kernel
            · show (Txt.join sp1 (ds.map textP)).length ≤ sizeLine
              omega
            · show (Str.empty ++ (Str.ofString "( ") ++ Txt.join sp1 (ds.map textP)).length ≤ sizeLine
              rw [len_app]
              omega
            · show (Str.empty ++ (Str.ofString "( ") ++ Txt.join sp1 (ds.map textP) ++ (Str.ofString " )")).length ≤ sizeLine
              rw [len_app, len_app]
              omega
theorem pt_ok {c : Addr} (D : DefAt K mg "plan_text" s_plan_text c) (T : Txt K mg) : ∀ n : Nat, Cal P w K mg base CX0 (n + 2) "plan_text" ["plan"] (spPT K n)
  | 0 => pt_step D T 0 (Nat.le_refl _) (pt_none D) (fun _ _ _ _ _ _ _ _ _ _ h _ => by omega)
  | n + 1 => pt_step D T (n + 1) (by omega) (pt_ok D T n) (fun v d m H Q E h1 h2 h3 h4 h5 q => ⟨v, d, m, rfl, h1, h2, h3, h4, by omega, q⟩)

theorem scWP : FnScope ["lengths", "ways", "plan"] ["lengths", "ways", "plan"] (defScope s_written_plan) := ⟨rfl, rfl, rfl, by decide +kernel, rfl, by decide +kernel, by decide +kernel⟩
def spWP (K : PySem.W.Frag) (p : Addr) : Sp := fun vs H Q _ => ∃ (vl vp : V) (ls : List Nat) (n : Nat) (d : PyData), vs = [vl, .int (n : Nat), vp] ∧ Dp K H vl (lensD ls) ∧ OkLens ls ∧ 2 ≤ n ∧ n ≤ 6 ∧ Dp K H vp d ∧ OkPlan ls.length n d ∧ Tab H p ∧ ∀ H', Same H H' → Q (.str (textP d)) H'
theorem written_plan_ok {c p : Addr} (D : DefAt K mg "written_plan" s_written_plan c) (cM : Cal P w K mg base CX0 4 "check_merging" ["lengths", "ways"] (spCheckMerging K p)) (cP : Cal P w K mg base CX0 2 "check_plan" ["lengths", "ways", "plan"] (spCheckPlan K))
    (cT : Cal P w K mg base CX0 42 "plan_text" ["plan"] (spPT K 40)) : Cal P w K mg base CX0 43 "written_plan" ["lengths", "ways", "plan"] (spWP K p) := by
  have sc := scWP
  refine def_ok0 D sc (fun vs H Q E h => ?_) (fun _ _ _ _ _ _ us hl => match us, hl with | [_, _, _], _ => rfl) (fun f A outer s H vs Q E hr h => ?_)
  · obtain ⟨vl, vp, ls, n, d, rfl, _⟩ := h
    rfl
  · obtain ⟨vl, vp, ls, n, d, rfl, hl, okl, n2, n6, hp, ok, ht, k⟩ := h
    refine ⟨_, (pss_cons (ps_expr (pe_c cM hr (by decide) (by rfl) pass0 (pa_cons (pv 0) (pa_cons (pv 1) pa_nil)))) (pss_cons (ps_expr (pe_c cP hr (by decide) (by rfl) pass0 (pa_cons (pv 0) (pa_cons (pv 1) (pa_cons (pv 2) pa_nil))))) (pss_one (ps_ret (pe_c cT hr (by decide) (by rfl) pass0 (pa_cons (pv 2) pa_nil)))))), ?_⟩
    have l40 := okl.most
    have dd := ok.depth
    have ll : (leaf d).length ≤ 40 := by rw [ok.all.length_eq, List.length_range]; exact l40
    refine ⟨_, rfl, _, rfl, vl, ls, _, rfl, hl, okl, by omega, by omega, ht, fun H1 s1 => ?_⟩
    refine ⟨_, rfl, _, rfl, _, rfl, vl, vp, ls, n, d, rfl, dp_same s1 _ hl, dp_same s1 _ hp, ok, l40, n6, fun H2 s2 => ?_⟩
    exact ⟨_, rfl, vp, d, n, rfl, dp_same s2 _ (dp_same s1 _ hp), ok.ok, n6, ll, by omega, fun H3 s3 => k H3 ((s1.trans s2).trans s3)⟩

theorem scRP : FnScope ["lengths", "ways", "text", "plan"] ["lengths", "ways", "text"] (defScope s_read_plan) := ⟨rfl, rfl, rfl, by decide +kernel, rfl, by decide +kernel, by decide +kernel⟩
def spRP (K : PySem.W.Frag) (p pF : Addr) : Sp := fun vs H Q _ => ∃ (vl : V) (ls : List Nat) (n : Nat) (d : PyData), vs = [vl, .int (n : Nat), .str (textP d)] ∧ Dp K H vl (lensD ls) ∧ OkLens ls ∧ 2 ≤ n ∧ n ≤ 6 ∧ OkPlan ls.length n d ∧ Tab H p ∧ Tab H pF ∧ ∀ H' v, Same H H' → Dp K H' v d → Q v H'
theorem read_plan_ok {c p pF : Addr} (D : DefAt K mg "read_plan" s_read_plan c) (cM : Cal P w K mg base CX0 4 "check_merging" ["lengths", "ways"] (spCheckMerging K p)) (cP : Cal P w K mg base CX0 2 "check_plan" ["lengths", "ways", "plan"] (spCheckPlan K))
    (cT : Cal P w K mg base CX0 4 "put_together" ["words"] (spPut K pF)) : Cal P w K mg base CX0 5 "read_plan" ["lengths", "ways", "text"] (spRP K p pF) := by
  have sc := scRP
  refine def_ok0 D sc (fun vs H Q E h => ?_) (fun _ _ _ _ _ _ us hl => match us, hl with | [_, _, _], _ => rfl) (fun f A outer s H vs Q E hr h => ?_)
  · obtain ⟨vl, ls, n, d, rfl, _⟩ := h
    rfl
  · obtain ⟨vl, ls, n, d, rfl, hl, okl, n2, n6, ok, ht, htF, k⟩ := h
    refine ⟨_, (pss_cons (ps_expr (pe_c cM hr (by decide) (by rfl) pass0 (pa_cons (pv 0) (pa_cons (pv 1) pa_nil)))) (pss_cons (ps_set (i := 3) sc.nd rfl (Or.inl rfl) (pe_c cT hr (by decide) (by rfl) pass0 (pa_cons (pe_bm PySem.F.plainAttrs_str PySem.F.slot_str_split PySem.F.type_str_split mt_split (pv 2) (pa_cons pe_str pa_nil)) pa_nil))) (pss_cons (ps_expr (pe_c cP hr (by decide) (by rfl) pass0 (pa_cons (pv 0) (pa_cons (pv 1) (pa_cons (pv 3) pa_nil))))) (pss_one (ps_ret (pv 3)))))), ?_⟩
    have l40 := okl.most
    have ll : (leaf d).length ≤ 40 := by rw [ok.all.length_eq, List.length_range]; exact l40
    have tl := text_len ok.ok
    have big : (1000 : Nat) ≤ sizeLine := by decide
    refine ⟨_, rfl, _, rfl, vl, ls, _, rfl, hl, okl, by omega, by omega, ht, fun H1 s1 => ?_⟩
    refine ⟨_, rfl, rfl, _, _, rfl, rfl, by decide +kernel, by omega, fun W hW => ?_⟩
    have s2 : Same H1 (upd H1 W (.lst ((Txt.split (textP d) sp1).map V.str))) := fun b o e => by
      rw [upd_ne (ne_of_none e hW)]
      exact e
    have s12 := s1.trans s2
    refine ⟨W, d, n, rfl, ?_, ok.ok, n6, ll, s12 _ _ htF, fun H3 v s3 hv => ?_⟩
    · have e : (upd H1 W (.lst ((Txt.split (textP d) sp1).map V.str))) W = some (.lst ((wds d).map V.str)) := by rw [upd_same, split_text ok.ok]
      exact e
    · have s13 := s12.trans s3
      refine ⟨_, rfl, _, rfl, _, rfl, vl, v, ls, n, d, rfl, dp_same s13 _ hl, hv, ok, l40, n6, fun H4 s4 => ?_⟩
      exact ⟨_, rfl, k H4 v (s13.trans s4) (dp_same s4 _ hv)⟩
end
end RS
set_option Elab.async false
set_option maxRecDepth 100000
set_option maxHeartbeats 4000000
namespace RS
open PySem PySem.Spec PyProof.Rows L2 GX
/-! ### orders as texts -/
def cm1 : Str := ", "
def partS (p : Nat × Bool) : Str := numS p.1 ++ " " ++ wayS p.2
def textO (os : List (Nat × Bool)) : Str := Txt.join cm1 (os.map partS)
theorem empty_app (x : Str) : Str.empty ++ x = x := TL.ext_tl (by rw [TL.tl_append]; rfl)
theorem part_all : ∀ c < 4, ∀ b : Bool, (44 : Nat) ∉ TL.tl (partS (c, b)) ∧ (partS (c, b)).length ≤ 8 ∧ (numS c).length ≤ 8 ∧ (wayS b).length ≤ 8 ∧ (numS c ++ " ").length ≤ 8 ∧ (32 : Nat) ∉ TL.tl (numS c) ∧ (32 : Nat) ∉ TL.tl (wayS b) ∧ TL.tl (partS (c, b)) = TL.joinL [32] [TL.tl (numS c), TL.tl (wayS b)] := by
  decide +kernel
theorem part_split {p : Nat × Bool} (h : p.1 < 4) : Txt.split (partS p) sp1 = [numS p.1, wayS p.2] := by
  obtain ⟨c, b⟩ := p
  obtain ⟨_, _, _, _, _, h1, h2, h3⟩ := part_all c h b
  have e : partS (c, b) = Txt.join sp1 [numS c, wayS b] := by
    refine TL.ext_tl ?_
    rw [h3, TL.join_eq, TL.tl_join, tl_sp]
    rfl
  rw [e]
  refine TL.split_join tl_sp (by decide +kernel) (by simp) fun p hp => ?_
  rcases List.mem_cons.mp hp with e | hp
  · rw [e]; exact h1
  · rw [List.mem_singleton.mp hp]; exact h2
theorem order_split {os : List (Nat × Bool)} (ne : os ≠ []) (h : ∀ p ∈ os, p.1 < 4) : Txt.split (textO os) cm1 = os.map partS := by
  refine TL.split_join (s := 44) (S := [32]) (by decide +kernel) (by decide +kernel) (by simpa using ne) fun p hp => ?_
  obtain ⟨q, hq, rfl⟩ := List.mem_map.mp hp
  exact (part_all q.1 (h q hq) q.2).1
theorem order_len {os : List (Nat × Bool)} (l4 : os.length ≤ 4) (h : ∀ p ∈ os, p.1 < 4) : ((os.map partS).map Str.length).sum ≤ 32 ∧ (textO os).length ≤ 40 := by
  have h1 := sum_le Str.length 8 (os.map partS) fun x hx => by
    obtain ⟨q, hq, rfl⟩ := List.mem_map.mp hx
    exact (part_all q.1 (h q hq) q.2).2.1
  rw [List.length_map] at h1
  refine ⟨by omega, ?_⟩
  have e : (textO os).length = (TL.tl (textO os)).length := by simp [TL.tl, Str.length]
  have e2 : TL.tl (textO os) = TL.joinL (TL.tl cm1) ((os.map partS).map TL.tl) := by
    unfold textO
    rw [TL.join_eq, TL.tl_join]
  have h2 := joinL_len (TL.tl cm1) ((os.map partS).map TL.tl)
  have e3 : ((os.map partS).map TL.tl).map List.length = (os.map partS).map Str.length := by
    rw [List.map_map]
    exact List.map_congr_left fun x _ => by simp [TL.tl, Str.length]
  have e4 : (TL.tl cm1).length = 2 := by decide +kernel
  rw [e3, e4] at h2
  rw [e, e2]
  simp only [List.length_map] at h2
  omega
section
variable {P : Program} {w : World} {K : PySem.W.Frag} {mg : Str → Option Value} {base : Heap}
theorem scWO : FnScope ["kinds", "order", "column", "way"] ["kinds", "order"] (defScope s_written_order) := ⟨rfl, rfl, rfl, by decide +kernel, rfl, by decide +kernel, by decide +kernel⟩
def spWO (K : PySem.W.Frag) (p : Addr) : Sp := fun vs H Q _ => ∃ (vk vo : V) (ks : List Bool) (os : List (Nat × Bool)), vs = [vk, vo] ∧ Dp K H vk (kindsD ks) ∧ 1 ≤ ks.length ∧ ks.length ≤ 4 ∧ Dp K H vo (orderD os) ∧ OkOrder ks.length os ∧ os.length ≤ 4 ∧ Tab H p ∧ ∀ H', Same H H' → Q (.str (textO os)) H'
theorem written_order_ok {c p : Addr} (D : DefAt K mg "written_order" s_written_order c) (T : Txt K mg) (cK : Cal P w K mg base CX0 2 "check_kinds" ["kinds"] (spCheckKinds K p)) (cO : Cal P w K mg base CX0 3 "check_order" ["kinds", "order"] (spCheckOrder K)) :
    Cal P w K mg base CX0 4 "written_order" ["kinds", "order"] (spWO K p) := by
  have sc := scWO
  refine def_ok0 D sc (fun vs H Q E h => ?_) (fun _ _ _ _ _ _ us hl => match us, hl with | [_, _], _ => rfl) (fun f A outer s H vs Q E hr h => ?_)
  · obtain ⟨vk, vo, ks, os, rfl, _⟩ := h
    rfl
  · obtain ⟨vk, vo, ks, os, rfl, hk, k1, k4, ho, ok, l4, ht, k⟩ := h
    refine ⟨_, (pss_cons (ps_expr (pe_c cK hr (by decide) (by rfl) pass0 (pa_cons (pv 0) pa_nil))) (pss_cons (ps_expr (pe_c cO hr (by decide) (by rfl) pass0 (pa_cons (pv 0) (pa_cons (pv 1) pa_nil)))) (pss_one (ps_ret (pe_bm PySem.F.plainAttrs_str PySem.F.slot_str_join PySem.F.type_str_join mt_join pe_str (pa_cons (pe_lc (own := [("column", 2), ("way", 3)]) (tt := tYes) (g := gTup K 2 (gCons (gName 2) (gCons (gName 3) gNil))) rfl sc.nd (pi_list (pv 1)) (blkOk_by (N := ["kinds", "order", "column", "way"]) (sc := defScope s_written_order) (own := [("column", 2), ("way", 3)]) (by decide +kernel)) (fun _ _ _ _ _ => (pg_tup (by rfl) (pgs_cons (pg_name (i := 2) sc.nd rfl (Or.inl rfl)) (pgs_cons (pg_name (i := 3) sc.nd rfl (Or.inl rfl)) pgs_nil)))) (fun _ _ _ _ _ => pts_nil) (fun _ _ _ _ _ => (pe_joined (.cons (pe_fmt (pv 2)) (.cons pe_str (.cons (pe_fmt (pv 3)) .nil)))))) pa_nil)))))), ?_⟩
    refine ⟨_, rfl, vk, ks, rfl, hk, k1, k4, ht, ?_⟩
    refine ⟨_, rfl, _, rfl, vk, vo, ks, os, rfl, hk, ho, ok, by omega, fun H1 s1 => ?_⟩
    have ho1 := dp_same s1 _ ho
    cases ho1 with
    | @lst a xs _ hS hI =>
      have lx : xs.length = os.length := by rw [dpLen hI, List.length_map]
      refine ⟨rfl, _, rfl, a, rfl, ⟨_, hS⟩, fun DD hD => ?_⟩
      have c4 : ∀ q ∈ os, q.1 < 4 := fun q hq => Nat.lt_of_lt_of_le (ok.col q hq) k4
      obtain ⟨z1, z2⟩ := order_len l4 c4
      have big : (1000 : Nat) ≤ sizeLine := by decide
      refine lc_list (K := K) (a := a) (xs := xs) (te := fun σ H Q => tJs [tFmt (tVar 2), tC (V.str " "), tFmt (tVar 3)] Str.empty σ H fun out H1 => Q (.str out) H1) (fun j H' => Same H1 H' ∧ H' DD = some (.lst ((os.take j).map fun q => V.str (partS q)))) ⟨fun b o e => by rw [upd_ne (ne_of_none e hD)]; exact e, upd_same⟩ (fun j H4 _ h => h.1.seq hS) ?_ ?_
      · rintro j x H4 hx ⟨sm, hl⟩
        obtain ⟨e, ee, he⟩ := dpGet hI hx
        obtain ⟨⟨cc, b⟩, eq, rfl⟩ : ∃ q, os[j]? = some q ∧ e = partD q := by
          rw [List.getElem?_map] at ee
          cases q : os[j]? with
          | none => rw [q] at ee; cases ee
          | some b => rw [q] at ee; exact ⟨b, rfl, (Option.some.inj ee).symm⟩
        have he := dp_same sm _ he
        have hc4 := c4 _ (List.mem_of_getElem? eq)
        obtain ⟨_, p1, p2, p3, p4, _⟩ := part_all cc hc4 b
        cases he with
        | @tup a2 ys _ hS2 hI2 =>
          cases hI2 with
          | cons h1 hI2 =>
            cases hI2 with
            | cons h2 hI2 =>
              cases hI2
              cases h1
              cases h2
              refine ⟨a2, _, rfl, hS2, rfl, _, _, rfl, _, _, rfl, rfl, ?_⟩
              refine ⟨rfl, _, rfl, .inr ⟨_, rfl, num_log cc (by have : cc < 4 := hc4; omega), _, rfl, ?_, _, rfl, ?_, _, rfl, .inl ⟨_, rfl, ?_, _, rfl, ?_, ?_⟩⟩⟩
              · show (Str.empty ++ numS cc).length ≤ sizeLine
                rw [empty_app]
                omega
              · show (Str.empty ++ numS cc ++ " ").length ≤ sizeLine
                rw [empty_app]
                omega
              · show (wayS b).length ≤ sizeLine
                omega
              · show (Str.empty ++ numS cc ++ " " ++ wayS b).length ≤ sizeLine
                rw [empty_app]
                have : (numS cc ++ " " ++ wayS b).length ≤ 8 := p1
                omega
              · refine ⟨_, hl, small1000 (by rw [List.length_map, List.length_take]; omega), fun b' o q => ?_, ?_⟩
                · rw [upd_ne (ne_of_none q hD)]
                  exact sm _ _ q
                · rw [upd_same, List.take_add_one, eq, List.map_append]
                  show some (HO.lst ((os.take j).map (fun q => V.str (partS q)) ++ [V.str (Str.empty ++ numS cc ++ " " ++ wayS b)])) = some (HO.lst ((os.take j).map (fun q => V.str (partS q)) ++ [V.str (partS (cc, b))]))
                  rw [empty_app]
                  rfl
      · rintro H4 ⟨sm, hl⟩
        rw [lx, List.take_length] at hl
        refine ⟨_, DD, os.map partS, rfl, rfl, .inl (SqL.of (by rw [List.map_map]; exact hl)), ?_, k H4 (s1.trans sm)⟩
        have e1 : (Str.ofString ", ").length = 2 := by decide +kernel
        show ((os.map partS).map Str.length).sum + (os.map partS).length * (Str.ofString ", ").length ≤ 16777216
        rw [e1, List.length_map]
        omega
end
end RS
set_option Elab.async false
set_option maxRecDepth 100000
set_option maxHeartbeats 4000000
namespace RS
open PySem PySem.Spec PyProof.Rows L2 GX
section
variable {P : Program} {w : World} {K : PySem.W.Frag} {mg : Str → Option Value} {base : Heap}
theorem scRO : FnScope ["kinds", "text", "order", "place", "part", "words"] ["kinds", "text"] (defScope s_read_order) := ⟨rfl, rfl, rfl, by decide +kernel, rfl, by decide +kernel, by decide +kernel⟩
def spRO (K : PySem.W.Frag) (p pF : Addr) : Sp := fun vs H Q _ => ∃ (vk : V) (ks : List Bool) (os : List (Nat × Bool)), vs = [vk, .str (textO os)] ∧ Dp K H vk (kindsD ks) ∧ 1 ≤ ks.length ∧ ks.length ≤ 4 ∧ OkOrder ks.length os ∧ os.length ≤ 4 ∧ Tab H p ∧ Tab H pF ∧ ∀ H' v, Same H H' → Dp K H' v (orderD os) → Q v H'
theorem read_order_ok {c p pF : Addr} (D : DefAt K mg "read_order" s_read_order c) (T : Txt K mg) (cK : Cal P w K mg base CX0 2 "check_kinds" ["kinds"] (spCheckKinds K p)) (cO : Cal P w K mg base CX0 3 "check_order" ["kinds", "order"] (spCheckOrder K))
    (cF : Cal P w K mg base CX0 2 "is_figures" ["word"] (spFigures pF)) : Cal P w K mg base CX0 4 "read_order" ["kinds", "text"] (spRO K p pF) := by
  have sc := scRO
  obtain ⟨aW, hW, hWS⟩ := T.ways
  refine def_ok0 D sc (fun vs H Q E h => ?_) (fun _ _ _ _ _ _ us hl => match us, hl with | [_, _], _ => rfl) (fun f A outer s H vs Q E hr h => ?_)
  · obtain ⟨vk, ks, os, rfl, _⟩ := h
    rfl
  · obtain ⟨vk, ks, os, rfl, hk, k1, k4, ok, l4, ht, htF, k⟩ := h
    refine ⟨_, (pss_cons (ps_expr (pe_c cK hr (by decide) (by rfl) pass0 (pa_cons (pv 0) pa_nil))) (pss_cons (ps_set (i := 2) sc.nd rfl (Or.inl rfl) (pe_lst pa_nil)) (pss_cons (ps_for PassesOwn.never rfl (pi_enum (by rfl) T.enumerate (pa_cons (pe_bm PySem.F.plainAttrs_str PySem.F.slot_str_split PySem.F.type_str_split mt_split (pv 1) (pa_cons pe_str pa_nil)) pa_nil)) (pg_tup (by rfl) (pgs_cons (pg_name (i := 3) sc.nd rfl (Or.inl rfl)) (pgs_cons (pg_name (i := 4) sc.nd rfl (Or.inl rfl)) pgs_nil))) (pss_cons (ps_set (i := 5) sc.nd rfl (Or.inl rfl) (pe_bm PySem.F.plainAttrs_str PySem.F.slot_str_split PySem.F.type_str_split mt_split (pv 4) (pa_cons pe_str pa_nil))) (pss_cons (ps_if ((pw_or (pt_cmpR op_ne (pe_callB call_len_seq (by rfl) T.len PySem.boot_len (pa_cons (pv 5) pa_nil)) pe_int (nomark _)) (pw_or (pt_not (pt_val (pe_c cF hr (by decide) (by rfl) pass0 (pa_cons (pe_ix ix_list (pv 5) pe_int (fun _ _ => rfl)) pa_nil)))) (pw_or1 (pt_cmpR op_notIn_seq (pe_ix ix_list (pv 5) pe_int (fun _ _ => rfl)) (pe_glob (v := V.ref aW) (by rfl) hW rfl) (by rfl))))).pt) pss_never pss_nil) (pss_one (ps_expr (pe_bm PySem.F.plainAttrs_list PySem.F.slot_list_append PySem.F.type_list_append mt_append (pv 2) (pa_cons (pe_tup (pa_cons (pe_callTy call_int_str (by rfl) T.int_ (by decide +kernel) (pa_cons (pe_ix ix_list (pv 5) pe_int (fun _ _ => rfl)) pa_nil)) (pa_cons (pe_ix ix_list (pv 5) pe_int (fun _ _ => rfl)) pa_nil))) pa_nil))))))) (pss_cons (ps_expr (pe_c cO hr (by decide) (by rfl) pass0 (pa_cons (pv 0) (pa_cons (pv 2) pa_nil)))) (pss_one (ps_ret (pv 2))))))), ?_⟩
    have c4 : ∀ q ∈ os, q.1 < 4 := fun q hq => Nat.lt_of_lt_of_le (ok.col q hq) k4
    obtain ⟨z1, z2⟩ := order_len l4 c4
    have big : (1000 : Nat) ≤ sizeLine := by decide
    refine ⟨_, rfl, vk, ks, rfl, hk, k1, k4, ht, Nat.zero_le _, fun O hO => ?_⟩
    refine ⟨_, rfl, rfl, _, _, rfl, rfl, by decide +kernel, by omega, fun W hW2 => ?_⟩
    have hW0 := upd_no hW2
    have nOW : O ≠ W := fun z => by rw [← z, upd_same] at hW2; cases hW2
    have es : (Txt.split (textO os) ", ").map V.str = os.map fun q => V.str (partS q) := by
      rw [show Txt.split (textO os) ", " = os.map partS from order_split ok.some_ c4, List.map_map]
      rfl
    rw [es]
    have s0 : Same H (upd (upd H O (.lst [])) W (.lst (os.map fun q => V.str (partS q)))) := fun b o e => by
      rw [upd_ne (ne_of_none e hW0), upd_ne (ne_of_none e hO)]
      exact e
    refine ⟨W, _, rfl, SqL.of upd_same, for_by os.length (fun i σ H' => ∃ (v3 v4 v5 : Option V) (xs : List V), σ = [some vk, some (.str (textO os)), some (.ref O), v3, v4, v5] ∧ Same H H' ∧ H' W = some (.lst (os.map fun q => V.str (partS q))) ∧ H' O = some (.lst xs) ∧ DpAll K H' xs ((os.take i).map partD))
      ⟨none, none, none, [], rfl, s0, upd_same, (upd_ne nOW).trans upd_same, .nil⟩ ?_ ?_⟩
    · rintro i σ H1 hi ⟨v3, v4, v5, xs, rfl, sm, hW1, hO1, hd⟩
      have eg : os[i]? = some os[i] := List.getElem?_eq_getElem hi
      have hc4 := c4 os[i] (List.getElem_mem hi)
      generalize hq : os[i] = q at eg hc4
      have ew : (os.map fun q => V.str (partS q))[i]? = some (V.str (partS q)) := by
        rw [List.getElem?_map, eg]
        rfl
      refine ⟨⟨_, V.str (partS q), SqL.of hW1, ew⟩, fun y H2 ⟨TT, x, ey, hT, eH, hx⟩ => ?_⟩
      subst ey eH
      have ex := hx _ (SqL.of hW1)
      rw [ew] at ex
      cases ex
      obtain ⟨cc, b⟩ := q
      obtain ⟨_, p1, p2, p3, p4, _⟩ := part_all cc hc4 b
      have n40 : cc < 40 := by
        have : cc < 4 := hc4
        omega
      have sT : Same H1 (upd H1 TT (.tup [.int (i : Nat), .str (partS (cc, b))])) := fun b' o e => by
        rw [upd_ne (ne_of_none e hT)]
        exact e
      refine ⟨TT, _, rfl, SqT.of upd_same, rfl, _, _, rfl, _, _, rfl, rfl, ?_⟩
      refine ⟨_, rfl, rfl, _, _, rfl, rfl, by decide +kernel, by omega, fun Wd hWd => ?_⟩
      have ep : (Txt.split (partS (cc, b)) " ").map V.str = [V.str (numS cc), V.str (wayS b)] := by
        rw [show Txt.split (partS (cc, b)) " " = [numS cc, wayS b] from part_split hc4]
        rfl
      rw [ep]
      have s2 : Same H1 (upd (upd H1 TT (.tup [.int (i : Nat), .str (partS (cc, b))])) Wd (.lst [V.str (numS cc), V.str (wayS b)])) := fun b' o e => by
        rw [upd_ne (ne_of_none (sT _ _ e) hWd)]
        exact sT _ _ e
      have hWd2 : (upd (upd H1 TT (.tup [.int (i : Nat), .str (partS (cc, b))])) Wd (.lst [V.str (numS cc), V.str (wayS b)])) Wd = some (.lst [V.str (numS cc), V.str (wayS b)]) := upd_same
      generalize upd (upd H1 TT (.tup [.int (i : Nat), .str (partS (cc, b))])) Wd (.lst [V.str (numS cc), V.str (wayS b)]) = H2 at s2 hWd2 ⊢
      refine ⟨_, rfl, Wd, _, rfl, .inl (SqL.of hWd2), rfl, _, rfl, ?_⟩
      refine iteF ⟨_, rfl, Wd, _, _, _, rfl, rfl, SqL.of hWd2, atI_nat (j := 0) rfl, cc, rfl, n40, s2 _ _ (sm _ _ htF), _, rfl, ?_⟩
      refine iteF ⟨_, rfl, Wd, _, _, _, rfl, rfl, SqL.of hWd2, atI_nat (j := 1) rfl, aW, _, rfl, .inr (hWS _), rfl, rfl, ?_⟩
      have eb : (if true then !inV (.str (wayS b)) [.str "up", .str "down"] else inV (.str (wayS b)) [.str "up", .str "down"]) = false := by
        rw [inV_way]
        rfl
      refine ⟨false, congrArg V.bl eb, iteF ?_⟩
      have hO2 := s2 _ _ hO1
      obtain ⟨f1, _, _, _, _, _, _, f8⟩ := num_all cc n40
      refine ⟨_, rfl, .inl ⟨rfl, _, SqL.of hO2⟩, _, rfl, Wd, _, _, _, rfl, rfl, SqL.of hWd2, atI_nat (j := 0) rfl, numS cc, _, rfl, f8, by omega, _, rfl, Wd, _, _, _, rfl, rfl, SqL.of hWd2, atI_nat (j := 1) rfl, by show 2 ≤ sizeLine; decide, fun pt hpt => ?_⟩
      have s3 : Same H2 (upd H2 pt (.tup [.int (cc : Int), .str (wayS b)])) := fun b' o e => by
        rw [upd_ne (ne_of_none e hpt)]
        exact e
      have hO3 := s3 _ _ hO2
      have lx : xs.length = i := by rw [dpLen hd, List.length_map, List.length_take]; omega
      refine ⟨O, xs, _, rfl, rfl, hO3, small1000 (by omega), ?_⟩
      have et : os.take (i + 1) = os.take i ++ [(cc, b)] := by
        rw [List.take_add_one, eg]
        rfl
      refine ⟨_, _, _, _, rfl, fun b' o e => ?_, (upd_ne (Ne.symm nOW)).trans (s3 _ _ (s2 _ _ hW1)), upd_same, ?_⟩
      · rw [upd_ne (ne_of_none e hO)]
        exact s3 _ _ (s2 _ _ (sm _ _ e))
      · rw [et, List.map_append]
        have nl := parts_noL (os.take i ++ [(cc, b)])
        rw [List.map_append] at nl
        exact dpAll_upd hO3 _ nl (dpApp (dpAll_same s3 _ (dpAll_same s2 _ hd)) (.cons (.tup (SqT.of upd_same) (.cons (.int _) (.cons (.str _) .nil))) .nil))
    · rintro σ H1 ⟨v3, v4, v5, xs, rfl, sm, hW1, hO1, hd⟩
      rw [List.take_length] at hd
      have hdo : Dp K H1 (.ref O) (orderD os) := .lst (SqL.of hO1) hd
      refine ⟨⟨_, SqL.of hW1, by rw [List.length_map]; exact Nat.le_refl _⟩, _, rfl, _, rfl, vk, .ref O, ks, os, rfl, dp_same sm _ hk, hdo, ok, by omega, fun H2 s2 => ?_⟩
      exact ⟨_, rfl, k H2 _ (sm.trans s2) (dp_same s2 _ hdo)⟩
end
end RS
set_option Elab.async false
set_option maxRecDepth 100000
set_option maxHeartbeats 4000000
namespace RS
open PySem PySem.Spec PyProof.Rows L2 GX
/-- a new object in a heap that differs by the drawer -/
theorem alX {B L e : Addr} {H H1 : Hp} {o : HO} (s : SameX B L H H1) (hb : BoxAt H B L) (b : BoxAt H1 B L) (he : H1 e = none) : SameX B L H (upd H1 e o) ∧ BoxAt (upd H1 e o) B L ∧ e ≠ B ∧ e ≠ L := by
  obtain ⟨n1, n2⟩ := b.nb he
  exact ⟨s.new (s.free hb he b), b.upd_ n1 n2, n1, n2⟩
section
variable {P : Program} {w : World} {K : PySem.W.Frag} {mg : Str → Option Value} {base : Heap}
theorem scLens : FnScope ["_law_box", "_law_most", "_law_found", "_law_k", "_law_some"] ["_law_box", "_law_most"] (defScope s__law_lengths) := ⟨rfl, rfl, rfl, by decide +kernel, rfl, by decide +kernel, by decide +kernel⟩
def spLens : Sp := fun vs H Q _ => ∃ (B L : Addr) (m : Nat), vs = [.ref B, .int (m : Nat)] ∧ BoxAt H B L ∧ 1 ≤ m ∧ m ≤ 40 ∧
  ∀ (H' : Hp) (a : Addr) (ls : List Nat), SameX B L H H' → BoxAt H' B L → OkLens ls → H a = none → H' a = some (.lst (ls.map fun n => V.int (n : Nat))) → Q (.ref a) H'
theorem lens_ok {c : Addr} (D : DefAt K mg "_law_lengths" s__law_lengths c) (T : Txt K mg) (cT : Cal P w K mg base CX0 1 "_law_take" ["_law_box", "_law_many"] spTake) : Cal P w K mg base CX0 2 "_law_lengths" ["_law_box", "_law_most"] spLens := by
  have sc := scLens
  refine def_ok0 D sc (fun vs H Q E h => ?_) (fun _ _ _ _ _ _ us hl => match us, hl with | [_, _], _ => rfl) (fun f A outer s H vs Q E hr h => ?_)
  · obtain ⟨B, L, m, rfl, _⟩ := h
    rfl
  · obtain ⟨B, L, m, rfl, hb, m1, m40, k⟩ := h
    refine ⟨_, (pss_cons (ps_set (i := 2) sc.nd rfl (Or.inl rfl) (pe_lst pa_nil)) (pss_cons (ps_for PassesOwn.never rfl (pi_range1 (by rfl) T.range (pa_cons (pe_op op_add pe_int (pe_c cT hr (by decide) (by rfl) pass0 (pa_cons (pv 0) (pa_cons (pv 1) pa_nil)))) pa_nil)) (pg_name (i := 3) sc.nd rfl (Or.inl rfl)) (pss_cons (ps_set (i := 4) sc.nd rfl (Or.inl rfl) (pe_lst (pa_cons (pe_op op_add pe_int (pe_c cT hr (by decide) (by rfl) pass0 (pa_cons (pv 0) (pa_cons pe_int pa_nil)))) (pa_cons (pe_op op_add pe_int (pe_c cT hr (by decide) (by rfl) pass0 (pa_cons (pv 0) (pa_cons pe_int pa_nil)))) (pa_cons (pe_op op_add (pv 3) pe_int) (pa_cons (pe_op op_add pe_int (pe_c cT hr (by decide) (by rfl) pass0 (pa_cons (pv 0) (pa_cons (pe_op op_pow pe_int pe_int) pa_nil)))) (pa_cons (pe_op op_pow pe_int pe_int) pa_nil))))))) (pss_one (ps_expr (pe_bm PySem.F.plainAttrs_list PySem.F.slot_list_append PySem.F.type_list_append mt_append (pv 2) (pa_cons (pe_ix ix_list (pv 4) (pe_ix ix_list (pe_lst (pa_cons pe_int (pa_cons pe_int (pa_cons pe_int (pa_cons pe_int (pa_cons pe_int (pa_cons pe_int pa_nil))))))) (pe_c cT hr (by decide) (by rfl) pass0 (pa_cons (pv 0) (pa_cons pe_int pa_nil))) (fun _ _ => rfl)) (fun _ _ => rfl)) pa_nil)))))) (pss_one (ps_ret (pv 2))))), ?_⟩
    refine ⟨Nat.zero_le _, fun F hF => ?_⟩
    obtain ⟨s0, b0, nFB, nFL⟩ := alX (o := .lst []) SameX.refl hb hb hF
    refine ⟨_, rfl, _, rfl, B, L, _, rfl, b0, by omega, by omega, fun H1 n s1 b1 n0 n1 => ?_⟩
    refine ⟨_, _, rfl, rfl, _, rfl, by omega, by omega, ?_⟩
    rw [show (1 + n).toNat = n.toNat + 1 by omega]
    have hF1 : H1 F = some (.lst []) := s1 _ _ nFB nFL upd_same
    have sA := s0.trans s1
    refine for_range (fun i σ H' => ∃ (v3 v4 : Option V) (ls : List Nat), σ = [some (.ref B), some (.int (m : Nat)), some (.ref F), v3, v4] ∧ SameX B L H H' ∧ BoxAt H' B L ∧ H' F = some (.lst (ls.map fun n => V.int (n : Nat))) ∧ ls.length = i ∧ ∀ x ∈ ls, 1 ≤ x ∧ x ≤ 1000000)
      ⟨none, none, [], rfl, sA, b1, hF1, rfl, (fun _ h => nomatch h)⟩ ?_ ?_
    · rintro i σ H2 hi ⟨v3, v4, ls, rfl, sm, b2, hF2, li, ok⟩
      have pw : ((10 : Int) ^ (6 : Int).toNat) = 1000000 := by decide +kernel
      refine ⟨_, rfl, B, L, 9, rfl, b2, by decide, by decide, fun H3 x1 s3 b3 p0 p1 => ?_⟩
      refine ⟨_, _, rfl, rfl, _, rfl, B, L, 2, rfl, b3, by decide, by decide, fun H4 x2 s4 b4 q0 q1 => ?_⟩
      refine ⟨_, _, rfl, rfl, _, rfl, _, _, rfl, rfl, _, rfl, _, _, rfl, rfl, ⟨by decide, by decide, by decide⟩, B, L, _, rfl, b4, by rw [pw]; decide, by rw [pw]; decide, fun H5 x3 s5 b5 r0 r1 => ?_⟩
      refine ⟨_, _, rfl, rfl, _, _, rfl, rfl, ⟨by decide, by decide, by decide⟩, by show 5 ≤ sizeLine; decide, fun e he => ?_⟩
      have sB := ((sm.trans s3).trans s4).trans s5
      obtain ⟨s6, b6, e1, e2⟩ := alX (o := .lst [.int (1 + x1), .int (1 + x2), .int (0 + (i : Nat) + 1), .int (1 + x3), .int ((10 : Int) ^ (6 : Int).toNat)]) sB hb b5 he
      have hF5 := s5 _ _ nFB nFL (s4 _ _ nFB nFL (s3 _ _ nFB nFL hF2))
      have neF : F ≠ e := fun z => by rw [← z, hF5] at he; cases he
      have hF6 : upd H5 e (.lst [.int (1 + x1), .int (1 + x2), .int (0 + (i : Nat) + 1), .int (1 + x3), .int ((10 : Int) ^ (6 : Int).toNat)]) F = some (.lst (ls.map fun n => V.int (n : Nat))) := (upd_ne neF).trans hF5
      have he6 : upd H5 e (.lst [.int (1 + x1), .int (1 + x2), .int (0 + (i : Nat) + 1), .int (1 + x3), .int ((10 : Int) ^ (6 : Int).toNat)]) e = some (.lst [.int (1 + x1), .int (1 + x2), .int (0 + (i : Nat) + 1), .int (1 + x3), .int ((10 : Int) ^ (6 : Int).toNat)]) := upd_same
      generalize upd H5 e (.lst [.int (1 + x1), .int (1 + x2), .int (0 + (i : Nat) + 1), .int (1 + x3), .int ((10 : Int) ^ (6 : Int).toNat)]) = H6 at s6 b6 hF6 he6 ⊢
      refine ⟨_, rfl, .inl ⟨rfl, _, SqL.of hF6⟩, _, rfl, by show 6 ≤ sizeLine; decide, fun g hg => ?_⟩
      obtain ⟨s7, b7, g1, g2⟩ := alX (o := .lst [.int 0, .int 0, .int 1, .int 2, .int 3, .int 4]) s6 hb b6 hg
      refine ⟨_, rfl, B, L, 6, rfl, b7, by decide, by decide, fun H8 x4 s8 b8 t0 t1 => ?_⟩
      have ng : F ≠ g := fun z => by rw [← z, hF6] at hg; cases hg
      have nge : e ≠ g := fun z => by rw [← z, he6] at hg; cases hg
      have hF8 := s8 _ _ nFB nFL ((upd_ne ng).trans hF6)
      have he8 := s8 _ _ e1 e2 ((upd_ne nge).trans he6)
      have hg8 := s8 _ _ g1 g2 upd_same
      obtain ⟨j, hj, j4⟩ : ∃ j : Nat, atI [V.int 0, V.int 0, V.int 1, V.int 2, V.int 3, V.int 4] x4 = some (.int (j : Nat)) ∧ j < 5 := by
        rcases (by omega : x4 = 0 ∨ x4 = 1 ∨ x4 = 2 ∨ x4 = 3 ∨ x4 = 4 ∨ x4 = 5) with e | e | e | e | e | e <;> subst e
        · exact ⟨0, atI_nat (j := 0) rfl, by decide⟩
        · exact ⟨0, atI_nat (j := 1) rfl, by decide⟩
        · exact ⟨1, atI_nat (j := 2) rfl, by decide⟩
        · exact ⟨2, atI_nat (j := 3) rfl, by decide⟩
        · exact ⟨3, atI_nat (j := 4) rfl, by decide⟩
        · exact ⟨4, atI_nat (j := 5) rfl, by decide⟩
      obtain ⟨y, hy, y1, y2⟩ : ∃ y : Nat, [V.int (1 + x1), .int (1 + x2), .int (0 + (i : Nat) + 1), .int (1 + x3), .int ((10 : Int) ^ (6 : Int).toNat)][j]? = some (.int (y : Nat)) ∧ 1 ≤ y ∧ y ≤ 1000000 := by
        rcases (by omega : j = 0 ∨ j = 1 ∨ j = 2 ∨ j = 3 ∨ j = 4) with e | e | e | e | e <;> subst e
        · exact ⟨(1 + x1).toNat, congrArg (fun z => some (V.int z)) (Int.toNat_of_nonneg (by omega)).symm, by omega, by omega⟩
        · exact ⟨(1 + x2).toNat, congrArg (fun z => some (V.int z)) (Int.toNat_of_nonneg (by omega)).symm, by omega, by omega⟩
        · exact ⟨i + 1, congrArg (fun z => some (V.int z)) (by omega), by omega, by omega⟩
        · exact ⟨(1 + x3).toNat, congrArg (fun z => some (V.int z)) (Int.toNat_of_nonneg (by omega)).symm, by omega, by omega⟩
        · exact ⟨1000000, congrArg (fun z => some (V.int z)) pw, by decide, by decide⟩
      refine ⟨g, _, x4, _, rfl, rfl, SqL.of hg8, hj, e, _, _, _, rfl, rfl, SqL.of he8, atI_nat hy, ?_⟩
      refine ⟨F, _, _, rfl, rfl, hF8, small1000 (by rw [List.length_map]; omega), ?_⟩
      refine ⟨_, _, ls ++ [y], rfl, (s7.trans s8).new hF, b8.upd_ nFB nFL, ?_, by rw [List.length_append, li]; rfl, fun x hx => ?_⟩
      · rw [upd_same, List.map_append]
        rfl
      · rcases List.mem_append.mp hx with hx | hx
        · exact ok x hx
        · rw [List.mem_singleton.mp hx]
          exact ⟨y1, y2⟩
    · rintro σ H2 ⟨v3, v4, ls, rfl, sm, b2, hF2, li, ok⟩
      exact ⟨_, rfl, k H2 F ls sm b2 ⟨by omega, by omega, ok⟩ hF hF2⟩
end
end RS
set_option Elab.async false
set_option maxRecDepth 100000
set_option maxHeartbeats 8000000
namespace RS
open PySem PySem.Spec PyProof.Rows L2 GX
section
variable {X : Cx} {o e : Expr} {es : List Expr} {to : TE} {t : TA} {name : Str} {apos cpos : Pos} {T id : String} {r : V → List V → Hp → VK → Prop} {K : PySem.W.Frag}
/-- a method called where the frame's own facts are named -/
theorem pe_bmC (eK : X.K = K) (pa : PlainAttrs T) (slot : Slot T name id) (hty : typeOf (.builtin id) = pure (.type "method_descriptor")) (hm : MtR X id r) (ho : PE X o to) (ha : PA X (e :: es) t) (h1 : attributeBase o name X.env (eval o X.env) = eval o X.env := by rfl) (h2 : ((backTo cpos (starEach (e :: es) X.env)).all (fun x => !x.1) && (backToKw cpos (keywordEach [] X.env)).all (fun x => x.1.isSome) && decide ((e :: es).length + ([] : List Keyword).length + (if ([] : List Keyword).isEmpty then 0 else 1) < 30)) = true := by rfl) (h3 : (apos.endLine == cpos.line) = true := by rfl) (h4 : starEach (e :: es) X.env = (false, eval e X.env) :: starEach es X.env := by rfl) (h5 : (backTo cpos (starEach es X.env)).any (·.1) = false := by rfl) : PE X (.Call (.Attribute o name apos) (e :: es) [] cpos) (tBM K T r to t) := by
  subst eK
  exact pe_bm pa slot hty hm ho ha h1 h2 h3 h4 h5
theorem len_seqC (eK : X.K = K) : CallR X (.builtin "len") (fun xs H Q => ∃ p ys, xs = [.ref p] ∧ (SqL K H p ys ∨ SqT K H p ys) ∧ Q (.int ys.length) H) := by
  subst eK
  exact call_len_seq
end
theorem dpAll_tk {K : PySem.W.Frag} {H : Hp} : ∀ {xs : List V} {ds : List PyData}, DpAll K H xs ds → ∀ k : Nat, DpAll K H (xs.take k) (ds.take k) ∧ DpAll K H (xs.drop k) (ds.drop k)
  | _, _, .nil, k => by
    rw [List.take_nil, List.take_nil, List.drop_nil, List.drop_nil]
    exact ⟨.nil, .nil⟩
  | _, _, .cons h t, 0 => ⟨.nil, .cons h t⟩
  | _, _, .cons h t, k + 1 => ⟨.cons h (dpAll_tk t k).1, (dpAll_tk t k).2⟩
theorem dpAll_er {K : PySem.W.Frag} {H : Hp} : ∀ {xs : List V} {ds : List PyData}, DpAll K H xs ds → ∀ k : Nat, DpAll K H (xs.eraseIdx k) (ds.eraseIdx k)
  | _, _, .nil, _ => .nil
  | _, _, .cons _ t, 0 => t
  | _, _, .cons h t, k + 1 => .cons h (dpAll_er t k)
theorem leafs_nats : ∀ l : List Nat, leafs (l.map fun c => PyData.int (c : Nat)) = l
  | [] => rfl
  | c :: l => by
    show [((c : Nat) : Int).toNat] ++ leafs (l.map fun c => PyData.int (c : Nat)) = c :: l
    rw [leafs_nats l, Int.toNat_natCast]
    rfl
theorem leafs_perm {xs ys : List PyData} (p : xs.Perm ys) : (leafs xs).Perm (leafs ys) := by
  induction p with
  | nil => exact List.Perm.refl _
  | cons x _ ih => exact ih.append_left (leaf x)
  | swap x y l =>
    show (leaf y ++ (leaf x ++ leafs l)).Perm (leaf x ++ (leaf y ++ leafs l))
    rw [← List.append_assoc, ← List.append_assoc]
    exact List.perm_append_comm.append_right _
  | trans _ _ h1 h2 => exact h1.trans h2
theorem okPs_perm {w : Nat} {xs ys : List PyData} (p : xs.Perm ys) (h : okPs w xs) : okPs w ys := okPs_iff.mpr fun d hd => okPs_iff.mp h d (p.mem_iff.mpr hd)
section
variable {P : Program} {w : World} {K : PySem.W.Frag} {mg : Str → Option Value} {base : Heap}
theorem scLPlan : FnScope ["_law_box", "_law_runs", "_law_ways", "_law_left", "_law_many", "_law_some", "_law_k"] ["_law_box", "_law_runs", "_law_ways"] (defScope s__law_plan) := ⟨rfl, rfl, rfl, by decide +kernel, rfl, by decide +kernel, by decide +kernel⟩
def spLPlan (K : PySem.W.Frag) : Sp := fun vs H Q _ => ∃ (B L R : Addr) (n m : Nat), vs = [.ref B, .ref R, .int (m : Nat)] ∧ BoxAt H B L ∧ 2 ≤ m ∧ m ≤ 6 ∧ 1 ≤ n ∧ n ≤ 40 ∧ H R = some (.lst ((List.range n).map fun c => V.int (c : Nat))) ∧
  ∀ (H' : Hp) (v : V) (d : PyData), SameX B L H H' → BoxAt H' B L → Dp K H' v d → OkPlan n m d → Q v H'
theorem lplan_ok {c : Addr} (D : DefAt K mg "_law_plan" s__law_plan c) (T : Txt K mg) (cT : Cal P w K mg base CX0 1 "_law_take" ["_law_box", "_law_many"] spTake) : Cal P w K mg base CX0 2 "_law_plan" ["_law_box", "_law_runs", "_law_ways"] (spLPlan K) := by
  have sc := scLPlan
  refine def_ok0 D sc (fun vs H Q E h => ?_) (fun _ _ _ _ _ _ us hl => match us, hl with | [_, _, _], _ => rfl) (fun f A outer s H vs Q E hr h => ?_)
  · obtain ⟨B, L, R, n, m, rfl, _⟩ := h
    rfl
  · obtain ⟨B, L, R, n, m, rfl, hb, m2, m6, n1, n40, hR, k⟩ := h
    refine ⟨_, (pss_cons (ps_set (i := 3) sc.nd rfl (Or.inr rfl) (pe_callTy call_list_of (by rfl) T.list_ (by decide +kernel) (pa_cons (pv 1) pa_nil))) (pss_cons (ps_while PassesOwn.never (pt_cmpR op_gt (pe_callB call_len_seq (by rfl) T.len PySem.boot_len (pa_cons (pv 3) pa_nil)) pe_int (nomark _)) (pss_cons (ps_set (i := 4) sc.nd rfl (Or.inl rfl) (pe_callB (call_min2 rfl) (by rfl) T.min boot_min (pa_cons (pe_callB call_len_seq (by rfl) T.len PySem.boot_len (pa_cons (pv 3) pa_nil)) (pa_cons (pe_op op_add pe_int (pe_c cT hr (by decide) (by rfl) pass0 (pa_cons (pv 0) (pa_cons (pe_op op_sub (pv 2) pe_int) pa_nil)))) pa_nil)))) (pss_cons (ps_setLc (own := [("_law_k", 6)]) (tt := tYes) rfl sc.nd (i := 5) rfl rfl (by rfl) (pi_range1 (by rfl) T.range (pa_cons (pv 4) pa_nil)) (blkOk_by (N := ["_law_box", "_law_runs", "_law_ways", "_law_left", "_law_many", "_law_some", "_law_k"]) (sc := defScope s__law_plan) (own := [("_law_k", 6)]) (by decide +kernel)) (fun _ _ _ _ _ => (pg_name (i := 6) sc.nd rfl (Or.inl rfl))) (fun _ _ _ _ _ => pts_nil) (fun _ _ _ _ _ => (pe_bmC (K := K) rfl PySem.F.plainAttrs_list PySem.F.slot_list_pop PySem.F.type_list_pop mt_popAt (pv 3) (pa_cons (pe_c cT hr (by decide) (by rfl) pass0 (pa_cons (pv 0) (pa_cons (pe_callB (len_seqC (K := K) rfl) (by rfl) T.len PySem.boot_len (pa_cons (pv 3) pa_nil)) pa_nil))) pa_nil)))) (pss_one (ps_expr (pe_bm PySem.F.plainAttrs_list PySem.F.slot_list_insert PySem.F.type_list_insert mt_insert (pv 3) (pa_cons (pe_c cT hr (by decide) (by rfl) pass0 (pa_cons (pv 0) (pa_cons (pe_op op_add (pe_callB call_len_seq (by rfl) T.len PySem.boot_len (pa_cons (pv 3) pa_nil)) pe_int) pa_nil))) (pa_cons (pe_callTy call_tuple_of (by rfl) T.tuple_ (by decide +kernel) (pa_cons (pv 5) pa_nil)) pa_nil)))))))) (pss_one (ps_ret (pe_ix ix_list (pv 3) pe_int (fun _ _ => rfl)))))), ?_⟩
    refine ⟨_, rfl, R, _, rfl, .inl (SqL.of hR), fun Lf hLf => ?_⟩
    obtain ⟨s0, b0, nfB, nfL⟩ := alX (o := .lst ((List.range n).map fun c => V.int (c : Nat))) SameX.refl hb hb hLf
    refine ⟨fun mm σ H' => ∃ (v4 v5 : Option V) (xs : List V) (ds : List PyData), σ = [some (.ref B), some (.ref R), some (.int (m : Nat)), some (.ref Lf), v4, v5, none] ∧ SameX B L H H' ∧ BoxAt H' B L ∧ H' Lf = some (.lst xs) ∧ DpAll K H' xs ds ∧ okPs m ds ∧ (leafs ds).Perm (List.range n) ∧ 1 ≤ xs.length ∧ mm = xs.length,
      ⟨_, none, none, _, (List.range n).map fun c => .int (c : Nat), rfl, s0, b0, upd_same, dpNats _, ?_, ?_, ?_, rfl⟩, ?_⟩
    · refine okPs_iff.mpr fun d hd => ?_
      obtain ⟨c, hc, rfl⟩ := List.mem_map.mp hd
      have := List.mem_range.mp hc
      exact ⟨by omega, by omega⟩
    · rw [leafs_nats]
    · rw [List.length_map, List.length_range]
      exact n1
    rintro mm σ H1 ⟨v4, v5, xs, ds, rfl, s1, b1, hL, hd, okd, pm, x1, rfl⟩
    have lx : xs.length = ds.length := dpLen hd
    have ll := leafs_depth ds okd
    rw [pm.length_eq, List.length_range] at ll
    have lx40 : xs.length ≤ 40 := by omega
    refine ⟨_, rfl, Lf, _, rfl, .inl (SqL.of hL), _, _, rfl, rfl, _, rfl, ?_⟩
    by_cases hgt : xs.length > 1
    · refine iteT' (decide_eq_true (by omega)) ⟨_, fun _ _ h => h, ?_⟩
      refine ⟨_, rfl, Lf, _, rfl, .inl (SqL.of hL), _, rfl, _, rfl, _, _, rfl, rfl, B, L, _, rfl, b1, by omega, by omega, fun H2 x s2 b2 h0 h1 => ?_⟩
      refine ⟨_, _, rfl, rfl, _, _, rfl, ?_⟩
      obtain ⟨mn, emn, q2, qx, qm⟩ : ∃ mn : Nat, (if 2 + x < ((xs.length : Nat) : Int) then 2 + x else ((xs.length : Nat) : Int)) = (mn : Int) ∧ 2 ≤ mn ∧ mn ≤ xs.length ∧ mn ≤ m := by
        by_cases hx : 2 + x < ((xs.length : Nat) : Int)
        · exact ⟨(2 + x).toNat, by rw [if_pos hx]; omega, by omega, by omega, by omega⟩
        · exact ⟨xs.length, if_neg hx, by omega, Nat.le_refl _, by omega⟩
      rw [emn]
      have hL2 := s2 _ _ nfB nfL hL
      have nlds := okPs_noL ds okd
      have hd2 := dpAll_x b1 s2 _ nlds hd
      refine ⟨_, rfl, _, rfl, by omega, by omega, fun DD hD => ?_⟩
      rw [Int.toNat_natCast]
      have sH2 := s1.trans s2
      obtain ⟨s3, b3, nDB, nDL⟩ := alX (o := .lst []) sH2 hb b2 hD
      have hD0 := sH2.free hb hD b2
      have nLD : Lf ≠ DD := fun z => by rw [← z, hL2] at hD; cases hD
      refine lc_range (fun j H' => SameX B L H H' ∧ BoxAt H' B L ∧ ∃ (xl yl : List V) (dl el : List PyData), H' Lf = some (.lst xl) ∧ DpAll K H' xl dl ∧ okPs m dl ∧ H' DD = some (.lst yl) ∧ DpAll K H' yl el ∧ okPs m el ∧ el.length = j ∧ dl.length + j = ds.length ∧ (leafs dl ++ leafs el).Perm (List.range n))
        ⟨s3, b3, xs, [], ds, [], (upd_ne nLD).trans hL2, dpAll_same (fun b o e => by rw [upd_ne (ne_of_none e hD)]; exact e) _ hd2, okd, upd_same, .nil, trivial, rfl, rfl, by simpa [leafs] using pm⟩ ?_ ?_
      · rintro j H3 hj ⟨s4, b4, xl, yl, dl, el, hl, hdl, okl, hDD, hel, oke, lel, ldl, pme⟩
        have lxl := dpLen hdl
        refine ⟨rfl, _, rfl, .inl ⟨rfl, _, SqL.of hl⟩, _, rfl, _, rfl, Lf, _, rfl, .inl (SqL.of hl), B, L, _, rfl, b4, by omega, by omega, fun H4 kx s5 b5 g0 g1 => ?_⟩
        obtain ⟨kn, rfl⟩ : ∃ kn : Nat, kx = (kn : Int) := ⟨kx.toNat, by omega⟩
        have hkn : kn < xl.length := by omega
        have hkd : kn < dl.length := by omega
        have hl4 := s5 _ _ nfB nfL hl
        have hDD4 := s5 _ _ nDB nDL hDD
        have nll := okPs_noL dl okl
        have nle := okPs_noL el oke
        have hdl4 := dpAll_x b4 s5 _ nll hdl
        have hel4 := dpAll_x b4 s5 _ nle hel
        obtain ⟨v, ev, hv⟩ := dpGet' hdl4 (List.getElem?_eq_getElem hkd)
        have pe := perm_erase (List.getElem?_eq_getElem hkd)
        have okt := okPs_perm pe okl
        have nlt := okPs_noL _ okt
        refine ⟨Lf, _, (kn : Int), kn, v, rfl, rfl, hl4, by omega, by omega, seqIx hkn, ev, ?_⟩
        have lyl := dpLen hel
        have hDD5 : upd H4 Lf (.lst (xl.eraseIdx kn)) DD = some (.lst yl) := (upd_ne (Ne.symm nLD)).trans hDD4
        have oke2 : okPs m (el ++ [dl[kn]]) := okPs_app.mpr ⟨oke, okt.1, trivial⟩
        have okl2 : okPs m (dl.eraseIdx kn) := okt.2
        have lE := pe.length_eq
        rw [List.length_cons] at lE
        refine ⟨yl, hDD5, small1000 (by omega), ((s4.trans s5).new hLf).new hD0, (b5.upd_ nfB nfL).upd_ nDB nDL, xl.eraseIdx kn, yl ++ [v], dl.eraseIdx kn, el ++ [dl[kn]], (upd_ne nLD).trans upd_same, ?_, okl2, upd_same, ?_, oke2, by rw [List.length_append, lel]; rfl, by omega, ?_⟩
        · exact dpAll_upd hDD5 _ (okPs_noL _ okl2) (dpAll_upd hl4 _ (okPs_noL _ okl2) (dpAll_er hdl4 kn))
        · exact dpAll_upd hDD5 _ (okPs_noL _ oke2) (dpAll_upd hl4 _ (okPs_noL _ oke2) (dpApp hel4 (.cons hv .nil)))
        · refine List.Perm.trans ?_ pme
          rw [leafs_app]
          have p1 := leafs_perm pe
          have e1 : leafs (dl[kn] :: dl.eraseIdx kn) = leaf dl[kn] ++ leafs (dl.eraseIdx kn) := rfl
          have e2 : leafs [dl[kn]] = leaf dl[kn] := by
            show leaf dl[kn] ++ [] = _
            rw [List.append_nil]
          rw [e1] at p1
          rw [e2]
          refine List.Perm.trans ?_ (p1.symm.append_right _)
          rw [List.append_assoc]
          refine List.Perm.trans ?_ List.perm_append_comm
          rw [List.append_assoc]
      · rintro H3 ⟨s4, b4, xl, yl, dl, el, hl, hdl, okl, hDD, hel, oke, lel, ldl, pme⟩
        dsimp only [gName]
        have lxl := dpLen hdl
        refine ⟨_, rfl, .inl ⟨rfl, _, SqL.of hl⟩, _, rfl, _, rfl, Lf, _, rfl, .inl (SqL.of hl), _, _, rfl, rfl, B, L, _, rfl, b4, by omega, by omega, fun H5 kx s5 b5 g0 g1 => ?_⟩
        have hl5 := s5 _ _ nfB nfL hl
        have hDD5 := s5 _ _ nDB nDL hDD
        refine ⟨_, rfl, DD, yl, rfl, .inl ⟨SqL.of hDD5, fun tp htp => ?_⟩⟩
        have sP := s4.trans s5
        have sTP : Same H5 (upd H5 tp (.tup yl)) := fun b o e => by
          rw [upd_ne (ne_of_none e htp)]
          exact e
        obtain ⟨s6, b6, _, _⟩ := alX (o := .tup yl) sP hb b5 htp
        have hl6 := sTP _ _ hl5
        refine ⟨Lf, xl, kx, .ref tp, rfl, rfl, hl6, small1000 (by omega), g0, by omega, ?_⟩
        have dl5 := dpAll_same sTP _ (dpAll_x b4 s5 _ (okPs_noL _ okl) hdl)
        have el5 := dpAll_same sTP _ (dpAll_x b4 s5 _ (okPs_noL _ oke) hel)
        obtain ⟨t1, t2⟩ := dpAll_tk dl5 kx.toNat
        have okt : okP m (.tuple el) := ⟨by omega, by omega, oke⟩
        have pq : (dl.take kx.toNat ++ [PyData.tuple el] ++ dl.drop kx.toNat).Perm (dl ++ [PyData.tuple el]) := by
          rw [List.append_assoc]
          have q2 : (dl.take kx.toNat ++ ([PyData.tuple el] ++ dl.drop kx.toNat)).Perm (dl.take kx.toNat ++ (dl.drop kx.toNat ++ [PyData.tuple el])) := List.perm_append_comm.append_left _
          rw [← List.append_assoc (dl.take kx.toNat) (dl.drop kx.toNat), List.take_append_drop] at q2
          exact q2
        have okn : okPs m (dl.take kx.toNat ++ [PyData.tuple el] ++ dl.drop kx.toNat) := okPs_perm pq.symm (okPs_app.mpr ⟨okl, okt, trivial⟩)
        have ln : (dl.take kx.toNat ++ [PyData.tuple el] ++ dl.drop kx.toNat).length = dl.length + 1 := by rw [pq.length_eq, List.length_append, List.length_singleton]
        have hnew : DpAll K (upd (upd H5 tp (.tup yl)) Lf (.lst (xl.take kx.toNat ++ [.ref tp] ++ xl.drop kx.toNat))) (xl.take kx.toNat ++ [.ref tp] ++ xl.drop kx.toNat) (dl.take kx.toNat ++ [PyData.tuple el] ++ dl.drop kx.toNat) :=
          dpAll_upd hl6 _ (okPs_noL _ okn) (dpApp (dpApp t1 (.cons (.tup (SqT.of upd_same) el5) .nil)) t2)
        have lnew := dpLen hnew
        refine ⟨_, ?_, _, _, _, _, rfl, s6.new hLf, b6.upd_ nfB nfL, upd_same, hnew, okn, ?_, ?_, rfl⟩
        · rw [lnew, ln]
          omega
        · have p1 := leafs_perm pq
          rw [leafs_app dl] at p1
          have e2 : leafs [PyData.tuple el] = leafs el := by
            show leafs el ++ [] = _
            rw [List.append_nil]
          rw [e2] at p1
          exact p1.trans pme
        · rw [lnew, ln]
          omega
    · refine iteF' (decide_eq_false (by omega)) ?_
      have lx1 : xs.length = 1 := by omega
      cases hd with
      | nil => simp at lx1
      | cons hv ht =>
        cases ht with
        | cons _ _ => simp at lx1
        | nil =>
          rename_i v d
          have pm' : (leaf d).Perm (List.range n) := by simpa [leafs] using pm
          exact ⟨_, rfl, Lf, _, _, v, rfl, rfl, SqL.of hL, atI_nat (j := 0) rfl, k H1 v d s1 b1 hv ⟨okd.1, pm'⟩⟩
end
end RS
set_option Elab.async false
set_option maxRecDepth 100000
set_option maxHeartbeats 4000000
namespace RS
open PySem PySem.Spec PyProof.Rows L2 GX
section
variable {P : Program} {w : World} {K : PySem.W.Frag} {mg : Str → Option Value} {base : Heap}
theorem wdss_app (xs ys : List PyData) : wdss (xs ++ ys) = wdss xs ++ wdss ys := by
  induction xs with
  | nil => rfl
  | cons x xs ih =>
    show wds x ++ wdss (xs ++ ys) = (wds x ++ wdss xs) ++ wdss ys
    rw [ih, List.append_assoc]
theorem wdss_take {ds : List PyData} {i : Nat} {d : PyData} (h : ds[i]? = some d) : wdss (ds.take (i + 1)) = wdss (ds.take i) ++ wds d := by
  rw [List.take_add_one, h, wdss_app]
  show _ ++ (wds d ++ []) = _
  rw [List.append_nil]
theorem wdss_le (ds : List PyData) (i : Nat) : (wdss (ds.take i)).length ≤ (wdss ds).length := by
  have e : wdss ds = wdss (ds.take i) ++ wdss (ds.drop i) := by rw [← wdss_app, List.take_append_drop]
  rw [e, List.length_append]
  omega
theorem scLText : FnScope ["_law_plan_here", "_law_found", "_law_part"] ["_law_plan_here"] (defScope s__law_text) := ⟨rfl, rfl, rfl, by decide +kernel, rfl, by decide +kernel, by decide +kernel⟩
def spLText (K : PySem.W.Frag) (n : Nat) : Sp := fun vs H Q _ => ∃ (v : V) (d : PyData) (m : Nat), vs = [v] ∧ Dp K H v d ∧ okP m d ∧ m ≤ 6 ∧ (leaf d).length ≤ 40 ∧ d.depth ≤ n ∧ ∀ H' a, Same H H' → H a = none → H' a = some (.lst ((wds d).map V.str)) → Q (.ref a) H'
theorem lt_none {c : Addr} (D : DefAt K mg "_law_text" s__law_text c) : Cal P w K mg base CX0 1 "_law_text" ["_law_plan_here"] (fun _ _ _ _ => False) :=
  def_ok0 D scLText (fun vs H Q E h => h.elim) (fun _ _ _ _ _ _ us hl => match us, hl with | [_], _ => rfl) (fun f A outer s H vs Q E hr h => h.elim)
theorem lt_step {c : Addr} (D : DefAt K mg "_law_text" s__law_text c) (T : Txt K mg) {j : Nat} (n : Nat) {sp : Sp} (hj : 1 ≤ j) (cR : Cal P w K mg base CX0 j "_law_text" ["_law_plan_here"] sp)
    (hsp : ∀ (v : V) (d : PyData) (m : Nat) (H : Hp) (Q : VK) (E : XK), Dp K H v d → okP m d → m ≤ 6 → (leaf d).length ≤ 40 → d.depth + 1 ≤ n → (∀ H' a, Same H H' → H a = none → H' a = some (.lst ((wds d).map V.str)) → Q (.ref a) H') → sp [v] H Q E) : Cal P w K mg base CX0 (j + 1) "_law_text" ["_law_plan_here"] (spLText K n) := by
  have sc := scLText
  refine def_ok0 D sc (fun vs H Q E h => ?_) (fun _ _ _ _ _ _ us hl => match us, hl with | [_], _ => rfl) (fun f A outer s H vs Q E hr h => ?_)
  · obtain ⟨v, d, m, rfl, _⟩ := h
    rfl
  · obtain ⟨v, d, m, rfl, hd, ok, m6, l40, hn, k⟩ := h
    refine ⟨_, (pss_cons (ps_if (pt_not (pt_val (pe_callB call_isiD (by rfl) T.isinstance (by decide +kernel) (pa_cons (pv 0) (pa_cons (pe_bltn (v := V.ty "tuple") (u := Value.type "tuple") (by rfl) T.tuple_ (by decide +kernel) rfl) pa_nil))))) (pss_one (ps_ret (pe_lst (pa_cons (pe_callTy call_str_int (by rfl) T.str_ (by decide +kernel) (pa_cons (pv 0) pa_nil)) pa_nil)))) pss_nil) (pss_cons (ps_set (i := 1) sc.nd rfl (Or.inl rfl) (pe_lst (pa_cons pe_str pa_nil))) (pss_cons (ps_for PassesOwn.never rfl (pi_tup (pv 0)) (pg_name (i := 2) sc.nd rfl (Or.inl rfl)) (pss_one (ps_set (i := 1) sc.nd rfl (Or.inl rfl) (pe_op op_cat (pv 1) (pe_c cR hr (by omega) (by rfl) pass0 (pa_cons (pv 2) pa_nil)))))) (pss_one (ps_ret (pe_op op_cat (pv 1) (pe_lst (pa_cons pe_str pa_nil)))))))), ?_⟩
    refine ⟨_, rfl, _, _, _, rfl, by simp, hd, _, rfl, ?_⟩
    rcases okP_cases ok with ⟨i, rfl, hi⟩ | ⟨ds, rfl, e1, e2, oks⟩
    · cases hd
      refine iteT ⟨_, rfl, _, rfl, num_log i hi, by show 1 ≤ sizeLine; decide, fun a ha => k _ a (fun b o e => ?_) ha upd_same⟩
      rw [upd_ne (ne_of_none e ha)]
      exact e
    · refine iteF ?_
      cases hd with
      | @tup a xs _ hS hI =>
        have l40' : (leafs ds).length ≤ 40 := l40
        have each : ∀ d ∈ ds, okP m d ∧ (leaf d).length ≤ 40 := fun d hd => ⟨okPs_iff.mp oks d hd, Nat.le_trans (leaf_mem hd) l40'⟩
        have hdep : ∀ d ∈ ds, d.depth + 1 ≤ n := fun d hd => by
          have a : PyData.depthAll ds + 1 ≤ n := by simpa only [PyData.depth] using hn
          have := depth_mem hd
          omega
        have lx : xs.length = ds.length := dpLen hI
        have lw := wdss_len ds oks
        have big : (1000 : Nat) ≤ sizeLine := by decide
        refine ⟨by show 1 ≤ sizeLine; decide, fun F0 hF0 => ?_⟩
        have s0 : Same H (upd H F0 (.lst [.str opS])) := fun b o e => by
          rw [upd_ne (ne_of_none e hF0)]
          exact e
        refine ⟨_, rfl, a, rfl, ⟨_, sqT_same s0 hS⟩, for_tup (K := K) (a := a) (xs := xs) (fun i σ H' => ∃ (F : Addr) (v2 : Option V), σ = [some (.ref a), some (.ref F), v2] ∧ Same H H' ∧ H F = none ∧ H' F = some (.lst ((opS :: wdss (ds.take i)).map V.str)))
          ⟨F0, none, rfl, s0, hF0, upd_same⟩ (fun i σ H' _ ⟨_, _, _, sm, _⟩ => sqT_same sm hS) ?_ ?_⟩
        · rintro i x σ H1 hx ⟨F, v2, rfl, sm, fF, hF⟩
          obtain ⟨e, ee, he⟩ := dpGet hI hx
          have em := List.mem_of_getElem? ee
          refine ⟨_, rfl, _, rfl, hsp x e m H1 _ _ (dp_same sm _ he) (each e em).1 m6 (each e em).2 (hdep e em) fun H2 G s2 hG hG2 => ?_⟩
          have wl := wdss_le ds (i + 1)
          have et := wdss_take ee
          refine ⟨F, G, _, _, rfl, rfl, s2 _ _ hF, hG2, ?_, fun F2 hF2 => ?_⟩
          · rw [et, List.length_append] at wl
            rw [List.length_map, List.length_map, List.length_cons]
            omega
          · refine ⟨F2, _, rfl, fun b o q => ?_, (sm.trans s2).free hF2, ?_⟩
            · rw [upd_ne (ne_of_none (s2 _ _ (sm _ _ q)) hF2)]
              exact s2 _ _ (sm _ _ q)
            · rw [upd_same, et, ← List.map_append]
              rfl
        · rintro σ H1 ⟨F, v2, rfl, sm, fF, hF⟩
          rw [lx, List.take_length] at hF
          refine ⟨_, rfl, by show 1 ≤ sizeLine; decide, fun G hG => ?_⟩
          have nFG : F ≠ G := fun z => by rw [← z, hF] at hG; cases hG
          have sG : Same H1 (upd H1 G (.lst [.str clS])) := fun b o e => by
            rw [upd_ne (ne_of_none e hG)]
            exact e
          refine ⟨F, G, _, _, rfl, rfl, sG _ _ hF, upd_same, ?_, fun F2 hF2 => ?_⟩
          · rw [List.length_map, List.length_cons, List.length_singleton]
            omega
          · refine k _ F2 (fun b o q => ?_) ((sm.trans sG).free hF2) ?_
            · rw [upd_ne (ne_of_none (sG _ _ (sm _ _ q)) hF2)]
              exact sG _ _ (sm _ _ q)
            · rw [upd_same]
              show some (HO.lst ((opS :: wdss ds).map V.str ++ [V.str clS])) = some (HO.lst ((opS :: (wdss ds ++ [clS])).map V.str))
              rw [List.map_cons, List.map_cons, List.map_append]
              rfl
theorem lt_ok {c : Addr} (D : DefAt K mg "_law_text" s__law_text c) (T : Txt K mg) : ∀ n : Nat, Cal P w K mg base CX0 (n + 2) "_law_text" ["_law_plan_here"] (spLText K n)
  | 0 => lt_step D T 0 (Nat.le_refl _) (lt_none D) (fun _ _ _ _ _ _ _ _ _ _ h _ => by omega)
  | n + 1 => lt_step D T (n + 1) (by omega) (lt_ok D T n) (fun v d m H Q E h1 h2 h3 h4 h5 q => ⟨v, d, m, rfl, h1, h2, h3, h4, by omega, q⟩)
end
end RS
set_option Elab.async false
set_option maxRecDepth 100000
set_option maxHeartbeats 8000000
namespace RS
open PySem PySem.Spec PyProof.Rows L2 GX
section
variable {P : Program} {w : World} {K : PySem.W.Frag} {mg : Str → Option Value} {base : Heap}
theorem scAlike : FnScope ["_law_found", "_law_due", "_law_k"] ["_law_found", "_law_due"] (defScope sAlike) := ⟨rfl, rfl, rfl, by decide +kernel, rfl, by decide +kernel, by decide +kernel⟩
def spAlike (K : PySem.W.Frag) (n : Nat) : Sp := fun vs H Q _ => ∃ (v1 v2 : V) (d : PyData), vs = [v1, v2] ∧ Dp K H v1 d ∧ Dp K H v2 d ∧ few d ∧ d.depth ≤ n ∧ Q (.bl true) H
set_option linter.unusedVariables false in
theorem alike_none {c : Addr} (D : DefAt K mg "_law_alike" sAlike c) : Cal P w K mg base CX0 1 "_law_alike" ["_law_found", "_law_due"] (fun _ _ _ _ => False) :=
  def_ok0 D scAlike (fun vs H Q E h => h.elim) (fun _ _ _ _ _ _ us hl => match us, hl with | [_, _], _ => rfl) (fun f A outer s H vs Q E hr h => h.elim)
theorem alike_step {c : Addr} (D : DefAt K mg "_law_alike" sAlike c) (T : Txt K mg) {j : Nat} (n : Nat) {sp : Sp} (hj : 1 ≤ j) (cR : Cal P w K mg base CX0 j "_law_alike" ["_law_found", "_law_due"] sp)
    (hsp : ∀ (v1 v2 : V) (d : PyData) (H : Hp) (Q : VK) (E : XK), Dp K H v1 d → Dp K H v2 d → few d → d.depth + 1 ≤ n → Q (.bl true) H → sp [v1, v2] H Q E) : Cal P w K mg base CX0 (j + 1) "_law_alike" ["_law_found", "_law_due"] (spAlike K n) := by
  have sc := scAlike
  refine def_ok0 D sc (fun vs H Q E h => ?_) (fun _ _ _ _ _ _ us hl => match us, hl with | [_, _], _ => rfl) (fun f A outer s H vs Q E hr h => ?_)
  · obtain ⟨v1, v2, d, rfl, _⟩ := h
    rfl
  · obtain ⟨v1, v2, d, rfl, h1, h2, hf, hn, k⟩ := h
    refine ⟨_, (pss_cons (ps_if (pt_cmpR op_isN (pv 1) pe_non (nomark _)) (pss_one (ps_ret (pe_cmpR op_isN (pv 0) pe_non (nomark _)))) pss_nil) (pss_cons (ps_if (pt_val (pe_callB call_isiD (by rfl) T.isinstance (by decide +kernel) (pa_cons (pv 1) (pa_cons (pe_bltn (v := V.ty "bool") (u := Value.type "bool") (by rfl) T.bool_ (by decide +kernel) rfl) pa_nil)))) (pss_one (ps_ret (pe_and (pe_callB call_isiD (by rfl) T.isinstance (by decide +kernel) (pa_cons (pv 0) (pa_cons (pe_bltn (v := V.ty "bool") (u := Value.type "bool") (by rfl) T.bool_ (by decide +kernel) rfl) pa_nil))) (pe_one (pe_cmpR op_eq (pv 0) (pv 1) (nomark _)))))) pss_nil) (pss_cons (ps_if (pt_val (pe_callB call_isiD (by rfl) T.isinstance (by decide +kernel) (pa_cons (pv 1) (pa_cons (pe_bltn (v := V.ty "int") (u := Value.type "int") (by rfl) T.int_ (by decide +kernel) rfl) pa_nil)))) (pss_one (ps_ret (pe_and (pe_callB call_isiD (by rfl) T.isinstance (by decide +kernel) (pa_cons (pv 0) (pa_cons (pe_bltn (v := V.ty "int") (u := Value.type "int") (by rfl) T.int_ (by decide +kernel) rfl) pa_nil))) (pe_and (pe_not (pe_callB call_isiD (by rfl) T.isinstance (by decide +kernel) (pa_cons (pv 0) (pa_cons (pe_bltn (v := V.ty "bool") (u := Value.type "bool") (by rfl) T.bool_ (by decide +kernel) rfl) pa_nil)))) (pe_one (pe_cmpR op_eq (pv 0) (pv 1) (nomark _))))))) pss_nil) (pss_cons (ps_if (pt_val (pe_callB call_isiD (by rfl) T.isinstance (by decide +kernel) (pa_cons (pv 1) (pa_cons (pe_bltn (v := V.ty "str") (u := Value.type "str") (by rfl) T.str_ (by decide +kernel) rfl) pa_nil)))) (pss_one (ps_ret (pe_and (pe_callB call_isiD (by rfl) T.isinstance (by decide +kernel) (pa_cons (pv 0) (pa_cons (pe_bltn (v := V.ty "str") (u := Value.type "str") (by rfl) T.str_ (by decide +kernel) rfl) pa_nil))) (pe_one (pe_cmpR op_eq (pv 0) (pv 1) (nomark _)))))) pss_nil) (pss_cons (ps_if ((pw_or (pt_cmpR op_ne (pe_callB call_isiD (by rfl) T.isinstance (by decide +kernel) (pa_cons (pv 1) (pa_cons (pe_bltn (v := V.ty "tuple") (u := Value.type "tuple") (by rfl) T.tuple_ (by decide +kernel) rfl) pa_nil))) (pe_callB call_isiD (by rfl) T.isinstance (by decide +kernel) (pa_cons (pv 0) (pa_cons (pe_bltn (v := V.ty "tuple") (u := Value.type "tuple") (by rfl) T.tuple_ (by decide +kernel) rfl) pa_nil))) (nomark _)) (pw_or1 (pt_cmpR op_ne (pe_callB call_isiD (by rfl) T.isinstance (by decide +kernel) (pa_cons (pv 1) (pa_cons (pe_bltn (v := V.ty "list") (u := Value.type "list") (by rfl) T.list_ (by decide +kernel) rfl) pa_nil))) (pe_callB call_isiD (by rfl) T.isinstance (by decide +kernel) (pa_cons (pv 0) (pa_cons (pe_bltn (v := V.ty "list") (u := Value.type "list") (by rfl) T.list_ (by decide +kernel) rfl) pa_nil))) (nomark _)))).pt) (pss_one (ps_ret pe_bl)) pss_nil) (pss_cons (ps_if (pt_cmpR op_ne (pe_callB call_lenD (by rfl) T.len PySem.boot_len (pa_cons (pv 0) pa_nil)) (pe_callB call_lenD (by rfl) T.len PySem.boot_len (pa_cons (pv 1) pa_nil)) (nomark _)) (pss_one (ps_ret pe_bl)) pss_nil) (pss_cons (ps_for PassesOwn.never rfl (pi_range1 (by rfl) T.range (pa_cons (pe_callB call_lenD (by rfl) T.len PySem.boot_len (pa_cons (pv 1) pa_nil)) pa_nil)) (pg_name (i := 2) sc.nd rfl (Or.inl rfl)) (pss_one (ps_if (pt_not (pt_val (pe_c cR hr (by omega) (by rfl) pass0 (pa_cons (pe_ix ixD (pv 0) (pv 2) (fun _ _ => rfl)) (pa_cons (pe_ix ixD (pv 1) (pv 2) (fun _ _ => rfl)) pa_nil))))) (pss_one (ps_ret pe_bl)) pss_nil))) (pss_one (ps_ret pe_bl))))))))), ?_⟩
    refine ⟨_, rfl, rfl, _, rfl, ?_⟩
    cases h2 with
    | non =>
      cases h1
      exact iteT ⟨_, rfl, rfl, k⟩
    | bl b =>
      cases h1
      refine iteF ⟨_, rfl, _, _, _, rfl, by simp, .bl b, _, rfl, ?_⟩
      refine iteT ⟨_, rfl, _, _, _, rfl, by simp, .bl b, _, rfl, ?_⟩
      refine iteT ⟨_, rfl, _, rfl, rfl, ?_⟩
      have e : decide (V.bl b = V.bl b) = true := decide_eq_true rfl
      rw [e]
      exact k
    | int i =>
      cases h1
      refine iteF ⟨_, rfl, _, _, _, rfl, by simp, .int i, _, rfl, ?_⟩
      refine iteF ⟨_, rfl, _, _, _, rfl, by simp, .int i, _, rfl, ?_⟩
      refine iteT ⟨_, rfl, _, _, _, rfl, by simp, .int i, _, rfl, ?_⟩
      refine iteT ⟨_, rfl, _, _, _, rfl, by simp, .int i, _, rfl, _, rfl, ?_⟩
      refine iteT ⟨_, rfl, _, rfl, rfl, ?_⟩
      have e : decide (V.int i = V.int i) = true := decide_eq_true rfl
      rw [e]
      exact k
    | str x =>
      cases h1
      refine iteF ⟨_, rfl, _, _, _, rfl, by simp, .str x, _, rfl, ?_⟩
      refine iteF ⟨_, rfl, _, _, _, rfl, by simp, .str x, _, rfl, ?_⟩
      refine iteF ⟨_, rfl, _, _, _, rfl, by simp, .str x, _, rfl, ?_⟩
      refine iteT ⟨_, rfl, _, _, _, rfl, by simp, .str x, _, rfl, ?_⟩
      refine iteT ⟨_, rfl, _, rfl, rfl, ?_⟩
      have e : decide (V.str x = V.str x) = true := decide_eq_true rfl
      rw [e]
      exact k
    | @lst a2 x2 ds q2 i2 =>
      have h2 : Dp K H (.ref a2) (.list ds) := .lst q2 i2
      have hds : ds.length ≤ 1000000 ∧ ∀ d ∈ ds, few d := by
        have : ds.length ≤ 1000000 ∧ fews ds := by simpa only [few] using hf
        exact ⟨this.1, fews_iff.mp this.2⟩
      have hdep : ∀ d ∈ ds, d.depth + 1 ≤ n := fun d hd => by
        have a : PyData.depthAll ds + 1 ≤ n := by simpa only [PyData.depth] using hn
        have := depth_mem hd
        omega
      obtain ⟨a1, rfl⟩ : ∃ a1, v1 = .ref a1 := by cases h1; exact ⟨_, rfl⟩
      refine iteF ⟨_, rfl, _, _, _, rfl, by simp, h2, _, rfl, ?_⟩
      refine iteF ⟨_, rfl, _, _, _, rfl, by simp, h2, _, rfl, ?_⟩
      refine iteF ⟨_, rfl, _, _, _, rfl, by simp, h2, _, rfl, ?_⟩
      refine iteF ⟨_, rfl, _, _, _, rfl, by simp, h2, _, rfl, _, _, _, rfl, by simp, h1, rfl, _, rfl, ?_⟩
      refine iteF' (by simp) ⟨_, rfl, _, _, _, rfl, by simp, h2, _, rfl, _, _, _, rfl, by simp, h1, rfl, _, rfl, ?_⟩
      refine iteF' (by simp) ⟨_, rfl, _, _, _, rfl, h1, rfl, _, rfl, _, _, _, rfl, h2, rfl, rfl, _, rfl, ?_⟩
      refine iteF' (by simp) ⟨_, rfl, _, _, _, rfl, h2, rfl, _, rfl, by omega, by omega, ?_⟩
      rw [Int.toNat_natCast]
      refine for_range (fun i σ H' => ∃ v3 : Option V, σ = [some (.ref a1), some (.ref a2), v3] ∧ H' = H) ⟨none, rfl, rfl⟩ ?_ ?_
      · rintro i σ H' hi ⟨v3, rfl, rfl⟩
        simp only [Int.zero_add]
        refine ⟨_, rfl, _, rfl, .list ds, ds, (i : Nat), ds[i], h1, rfl, rfl, atI_nat (List.getElem?_eq_getElem hi), fun w1 hw1 => ?_⟩
        refine ⟨_, rfl, _, rfl, .list ds, ds, (i : Nat), ds[i], h2, rfl, rfl, atI_nat (List.getElem?_eq_getElem hi), fun w2 hw2 => ?_⟩
        refine hsp w1 w2 ds[i] H' _ _ hw1 hw2 (hds.2 _ (List.getElem_mem hi)) (hdep _ (List.getElem_mem hi)) ⟨_, rfl, ?_⟩
        exact iteF ⟨_, rfl, rfl⟩
      · rintro σ H' ⟨v3, rfl, rfl⟩
        exact k
    | @tup a2 x2 ds q2 i2 =>
      have h2 : Dp K H (.ref a2) (.tuple ds) := .tup q2 i2
      have hds : ds.length ≤ 1000000 ∧ ∀ d ∈ ds, few d := by
        have : ds.length ≤ 1000000 ∧ fews ds := by simpa only [few] using hf
        exact ⟨this.1, fews_iff.mp this.2⟩
      have hdep : ∀ d ∈ ds, d.depth + 1 ≤ n := fun d hd => by
        have a : PyData.depthAll ds + 1 ≤ n := by simpa only [PyData.depth] using hn
        have := depth_mem hd
        omega
      obtain ⟨a1, rfl⟩ : ∃ a1, v1 = .ref a1 := by cases h1; exact ⟨_, rfl⟩
      refine iteF ⟨_, rfl, _, _, _, rfl, by simp, h2, _, rfl, ?_⟩
      refine iteF ⟨_, rfl, _, _, _, rfl, by simp, h2, _, rfl, ?_⟩
      refine iteF ⟨_, rfl, _, _, _, rfl, by simp, h2, _, rfl, ?_⟩
      refine iteF ⟨_, rfl, _, _, _, rfl, by simp, h2, _, rfl, _, _, _, rfl, by simp, h1, rfl, _, rfl, ?_⟩
      refine iteF' (by simp) ⟨_, rfl, _, _, _, rfl, by simp, h2, _, rfl, _, _, _, rfl, by simp, h1, rfl, _, rfl, ?_⟩
      refine iteF' (by simp) ⟨_, rfl, _, _, _, rfl, h1, rfl, _, rfl, _, _, _, rfl, h2, rfl, rfl, _, rfl, ?_⟩
      refine iteF' (by simp) ⟨_, rfl, _, _, _, rfl, h2, rfl, _, rfl, by omega, by omega, ?_⟩
      rw [Int.toNat_natCast]
      refine for_range (fun i σ H' => ∃ v3 : Option V, σ = [some (.ref a1), some (.ref a2), v3] ∧ H' = H) ⟨none, rfl, rfl⟩ ?_ ?_
      · rintro i σ H' hi ⟨v3, rfl, rfl⟩
        simp only [Int.zero_add]
        refine ⟨_, rfl, _, rfl, .tuple ds, ds, (i : Nat), ds[i], h1, rfl, rfl, atI_nat (List.getElem?_eq_getElem hi), fun w1 hw1 => ?_⟩
        refine ⟨_, rfl, _, rfl, .tuple ds, ds, (i : Nat), ds[i], h2, rfl, rfl, atI_nat (List.getElem?_eq_getElem hi), fun w2 hw2 => ?_⟩
        refine hsp w1 w2 ds[i] H' _ _ hw1 hw2 (hds.2 _ (List.getElem_mem hi)) (hdep _ (List.getElem_mem hi)) ⟨_, rfl, ?_⟩
        exact iteF ⟨_, rfl, rfl⟩
      · rintro σ H' ⟨v3, rfl, rfl⟩
        exact k
theorem alike_ok {c : Addr} (D : DefAt K mg "_law_alike" sAlike c) (T : Txt K mg) : ∀ n : Nat, Cal P w K mg base CX0 (n + 2) "_law_alike" ["_law_found", "_law_due"] (spAlike K n)
  | 0 => alike_step D T 0 (Nat.le_refl _) (alike_none D) (fun _ _ _ _ _ _ _ _ _ h _ => by omega)
  | n + 1 => alike_step D T (n + 1) (by omega) (alike_ok D T n) (fun v1 v2 d H Q E h1 h2 h3 h4 q => ⟨v1, v2, d, rfl, h1, h2, h3, by omega, q⟩)
end
end RS
set_option Elab.async false
set_option maxRecDepth 100000
set_option maxHeartbeats 4000000
namespace RS
open PySem PySem.Spec PyProof.Rows L2 GX
/-! ### tables that are empty at the entry, as tables of any size -/
def extOf (T : List Addr) (H : Hp) : Hp := fun b => if b ∈ T then some (.ext (TabE b)) else H b
def tabAt (h : Heap) (b : Addr) : Array Value := match h.get? b with
  | some o => (match o.data with
    | .fields rs => rs
    | _ => #[])
  | none => #[]
def tblOf (T : List Addr) (h : Heap) (H : Hp) : Hp := fun b => if b ∈ T then some (.tbl (tabAt h b)) else H b
/-- a promise that speaks of tables of any size, asked where they are empty -/
def spT (T : List Addr) (sp : Sp) : Sp := fun vs H Q E => (∀ b ∈ T, H b = some (.tbl #[])) ∧ sp vs (extOf T H) (fun v H' => (∀ b ∈ T, Tab H' b) ∧ ∀ H2, Q v H2) E
theorem ext_in {T : List Addr} {H : Hp} {b : Addr} (h : b ∈ T) : extOf T H b = some (.ext (TabE b)) := if_pos h
theorem ext_out {T : List Addr} {H : Hp} {b : Addr} (h : b ∉ T) : extOf T H b = H b := if_neg h
theorem tbl_in {T : List Addr} {g : Heap} {H : Hp} {b : Addr} (h : b ∈ T) : tblOf T g H b = some (.tbl (tabAt g b)) := if_pos h
theorem tbl_out {T : List Addr} {g : Heap} {H : Hp} {b : Addr} (h : b ∉ T) : tblOf T g H b = H b := if_neg h
theorem FnOk.tables {P : Program} {w : World} {K : PySem.W.Frag} {mg : Str → Option Value} {base : Heap} {k : Nat} {f : Addr} {fd : FuncData} {ps : List Str} {sp : Sp} {T : List Addr} (F : FnOk P w K mg base CX0 k f fd ps sp) : FnOk P w K mg base CX0 k f fd ps (spT T sp) := by
  refine ⟨fun vs H Q E h => F.len _ _ _ _ h.2, fun A outer s H args us vs Q E hr e0 hb hv ⟨hT, hs⟩ => ?_⟩
  have nT : ∀ b, H b = none → b ∉ T := fun b e hb => by
    rw [hT b hb] at e
    cases e
  have nT2 : ∀ b o, H b = some o → (∀ ps, o ≠ .tbl ps) → b ∉ T := fun b o e n hb => by
    rw [hT b hb] at e
    exact n #[] (Option.some.inj e).symm
  have e2 : Env0 P w K mg base A outer s (extOf T H) := by
    refine ⟨e0.frames, e0.mod, fun b o e => ⟨(e0.bs b o e).1, by rw [ext_out (nT b (e0.bs b o e).2)]; exact (e0.bs b o e).2⟩, e0.bsz, e0.funs, fun b hb => by rw [ext_out (nT b (e0.frf b hb))]; exact e0.frf b hb, fun b o e => ?_, e0.bare⟩
    by_cases hb : b ∈ T
    · rw [ext_in hb] at e
      cases e
      have q := e0.hok b _ (hT b hb)
      exact ⟨⟨#[], q, trivial⟩, ⟨_, q⟩, tabE_stable⟩
    · rw [ext_out hb] at e
      refine (e0.hok b o e).stay (fun c u _ q => q) (fun c q => ?_) (fun c xs q => ?_)
      · rw [ext_out (nT2 c _ q (fun ps z => by cases z))]
        exact q
      · rw [ext_out (nT2 c _ q (fun ps z => by cases z))]
        exact q
  refine codeAny_mono (F.run A outer s (extOf T H) args us vs _ E hr e2 hb hv hs) fun r s' hq => ?_
  cases r with
  | error e => exact hq
  | ok fl =>
    cases fl with
    | next => exact hq
    | brk => exact hq
    | cont => exact hq
    | ret u =>
      obtain ⟨v, H', os, bare, un, hok', r', hT', q⟩ := hq
      refine ⟨v, tblOf T s'.heap H', os, bare, ⟨fun b o e n => un.keep b o e (by rw [ext_out (nT b n)]; exact n), fun b o e n => un.slot b o e (by rw [ext_out (nT b n)]; exact n), fun b o e n hx => ?_, un.there, fun b xs e => ?_, fun b o u e => ?_, fun b ps e => ?_⟩, fun b o e => ?_, r', q _⟩
      · rw [tbl_out (nT b n)]
        exact un.free b o e (by rw [ext_out (nT b n)]; exact n) hx
      · have hb := nT2 b _ e (fun ps z => by cases z)
        rw [tbl_out hb]
        exact un.tups b xs (by rw [ext_out hb]; exact e)
      · have hb := nT2 b _ e (fun ps z => by cases z)
        rw [tbl_out hb]
        exact un.frzs b o u (by rw [ext_out hb]; exact e)
      · by_cases hb : b ∈ T
        · rw [hT b hb] at e
          cases e
          exact ⟨tabAt s'.heap b, by rw [tbl_in hb, Array.empty_append]⟩
        · rw [tbl_out hb]
          exact un.tbls b ps (by rw [ext_out hb]; exact e)
      · have inT : ∀ c, c ∈ T → ∃ rs : Array Value, s'.heap.get? c = some { cls := .none, data := .fields rs } := fun c hc => by
          obtain ⟨⟨rs, h1, _⟩, _⟩ := hok' c _ (hT' c hc)
          exact ⟨rs, h1⟩
        by_cases hb : b ∈ T
        · rw [tbl_in hb] at e
          cases e
          obtain ⟨rs, h1⟩ := inT b hb
          have e2 : tabAt s'.heap b = rs := by
            unfold tabAt
            rw [h1]
          show s'.heap.get? b = some { cls := .none, data := .fields (tabAt s'.heap b) }
          rw [e2]
          exact h1
        · rw [tbl_out hb] at e
          have nT3 : ∀ c o, H' c = some o → (∀ φ, o ≠ .ext φ) → c ∉ T := fun c o e n hc => by
            have z : H' c = some (.ext (TabE c)) := hT' c hc
            rw [e] at z
            exact n _ (Option.some.inj z)
          refine (hok' b o e).stay (fun c u _ q => q) (fun c q => ?_) (fun c xs q => ?_)
          · rw [tbl_out (nT3 c _ q (fun φ z => by cases z))]
            exact q
          · rw [tbl_out (nT3 c _ q (fun φ z => by cases z))]
            exact q
section
variable {P : Program} {w : World} {K : PySem.W.Frag} {mg : Str → Option Value} {base : Heap}
theorem fn_of0 {f c : Addr} {oc kV doc pm ct : Value} {od an : Option Addr} {osl : Array (Option Value)} {x : Str} {st : Stmt} {N ps : List Str} {k : Nat} {sp : Sp}
    (lk : K.lookup f = some ⟨oc, od, .func (PySem.W.fnOf x x (defArgs st) (defBody st) (defScope st) .none kV doc pm an (.ref c) ct), osl⟩) (hcd : PySem.W.codeIn K (.ref c) x = true) (S : FnScope N ps (defScope st)) (len : ∀ vs H Q E, sp vs H Q E → vs.length = ps.length)
    (hbody : ∀ (f : Addr) (A : Around) (outer : List Env) (s : Shared) (H : Hp) (vs : List V) (Q : VK) (E : XK), Room k (A.deeper (envOfC x (defScope st) s.heap.objs.size f (.ref c))) → sp vs H Q E →
      ∃ t, PSs (cxOf CX0 P w K mg base N x (defScope st) f (.ref c) A outer s H E).nox (defBody st) t ∧ t { nx := fun _ H' => Q .non H', rt := Q } (start N vs) H) :
    FnOk P w K mg base CX0 (k + 1) f (PySem.W.fnOf x x (defArgs st) (defBody st) (defScope st) .none kV doc pm an (.ref c) ct) ps sp :=
  fn_of lk hcd S len fun A outer s H vs Q E hr hsp => by
    obtain ⟨t, ht, q⟩ := hbody f A outer s H vs Q E hr hsp
    exact ⟨t, ht.nox, q⟩
end
end RS
set_option Elab.async false
set_option maxRecDepth 100000
set_option maxHeartbeats 8000000
namespace RS
open PySem PySem.Spec PyProof.Rows L2 GX
structure TabsK (H : Hp) (pK pL pF : Addr) : Prop where
  k : Tab H pK
  l : Tab H pL
  f : Tab H pF
theorem tab_x {H H' : Hp} {B L p : Addr} (b : BoxAt H B L) (s : SameX B L H H') (h : Tab H p) : Tab H' p := by
  obtain ⟨_, ⟨st, hb⟩, ⟨ms, hl⟩⟩ := b
  have h' : H p = some (.ext (TabE p)) := h
  exact s _ _ (fun z => by rw [z, hb] at h'; cases h') (fun z => by rw [z, hl] at h'; cases h') h'
theorem TabsK.x {H H' : Hp} {B L pK pL pF : Addr} (b : BoxAt H B L) (s : SameX B L H H') (h : TabsK H pK pL pF) : TabsK H' pK pL pF := ⟨tab_x b s h.k, tab_x b s h.l, tab_x b s h.f⟩
theorem TabsK.same {H H' : Hp} {pK pL pF : Addr} (s : Same H H') (h : TabsK H pK pL pF) : TabsK H' pK pL pF := ⟨s _ _ h.k, s _ _ h.l, s _ _ h.f⟩
theorem depthLeX {n : Nat} : ∀ {ds : List PyData}, (∀ d ∈ ds, d.depth ≤ n) → PyData.depthAll ds ≤ n
  | [], _ => by simp [PyData.depthAll]
  | d :: ds, h => by
    have h1 := h d List.mem_cons_self
    have h2 := depthLeX (ds := ds) fun e he => h e (List.mem_cons_of_mem _ he)
    simp only [PyData.depthAll]
    omega
section
variable {P : Program} {w : World} {K : PySem.W.Frag} {mg : Str → Option Value} {base : Heap}
theorem scLaw : FnScope ["_law_script", "_law_box", "_law_turn", "_law_kinds_here", "_law_order_here", "_law_text_here", "_law_lengths_here", "_law_ways", "_law_plan_here", "_law_column", "_law_way"] ["_law_script"] (defScope sLaw) := ⟨rfl, rfl, rfl, by decide +kernel, rfl, by decide +kernel, by decide +kernel⟩
structure Parts (P : Program) (w : World) (K : PySem.W.Frag) (mg : Str → Option Value) (base : Heap) (pK pL pF : Addr) : Prop where
  begun : Cal P w K mg base CX0 1 "_law_begun" ["_law_script"] (spBegun K)
  take : Cal P w K mg base CX0 1 "_law_take" ["_law_box", "_law_many"] spTake
  kinds : Cal P w K mg base CX0 2 "_law_kinds" ["_law_box"] (spKinds K)
  order : Cal P w K mg base CX0 2 "_law_order" ["_law_box", "_law_kinds_here"] (spOrder K)
  alike : Cal P w K mg base CX0 42 "_law_alike" ["_law_found", "_law_due"] (spAlike K 40)
  lens : Cal P w K mg base CX0 2 "_law_lengths" ["_law_box", "_law_most"] spLens
  plan : Cal P w K mg base CX0 2 "_law_plan" ["_law_box", "_law_runs", "_law_ways"] (spLPlan K)
  text : Cal P w K mg base CX0 42 "_law_text" ["_law_plan_here"] (spLText K 40)
  wo : Cal P w K mg base CX0 4 "written_order" ["kinds", "order"] (spWO K pK)
  ro : Cal P w K mg base CX0 4 "read_order" ["kinds", "text"] (spRO K pK pF)
  wp : Cal P w K mg base CX0 43 "written_plan" ["lengths", "ways", "plan"] (spWP K pL)
  rp : Cal P w K mg base CX0 5 "read_plan" ["lengths", "ways", "text"] (spRP K pL pF)
def spLaw (K : PySem.W.Frag) (pK pL pF : Addr) : Sp := fun vs H Q _ => ∃ (a : Addr) (ns : List Int), vs = [.ref a] ∧ SqL K H a (ns.map V.int) ∧ TabsK H pK pL pF ∧ ∀ H', TabsK H' pK pL pF → Q (.bl true) H'
theorem law_fn {f c pK pL pF : Addr} {oc kV doc pm ct : Value} {od an : Option Addr} {osl : Array (Option Value)} (lk : K.lookup f = some ⟨oc, od, .func (PySem.W.fnOf "law" "law" (defArgs sLaw) (defBody sLaw) (defScope sLaw) .none kV doc pm an (.ref c) ct), osl⟩) (hcd : PySem.W.codeIn K (.ref c) "law" = true)
    (T : Txt K mg) (C : Parts P w K mg base pK pL pF) : FnOk P w K mg base CX0 44 f (PySem.W.fnOf "law" "law" (defArgs sLaw) (defBody sLaw) (defScope sLaw) .none kV doc pm an (.ref c) ct) ["_law_script"] (spLaw K pK pL pF) := by
  have sc := scLaw
  refine fn_of0 lk hcd sc (fun vs H Q E h => ?_) (fun f A outer s H vs Q E hr h => ?_)
  · obtain ⟨a, ns, rfl, _⟩ := h
    rfl
  · obtain ⟨a, ns, rfl, hS, ht, k⟩ := h
    refine ⟨_, (pss_cons (ps_set (i := 1) sc.nd rfl (Or.inl rfl) (pe_c C.begun hr (by decide) (by rfl) pass0 (pa_cons (pv 0) pa_nil))) (pss_cons (ps_for PassesOwn.never rfl (pi_range1 (by rfl) T.range (pa_cons pe_int pa_nil)) (pg_name (i := 2) sc.nd rfl (Or.inl rfl)) (pss_cons (ps_set (i := 3) sc.nd rfl (Or.inl rfl) (pe_c C.kinds hr (by decide) (by rfl) pass0 (pa_cons (pv 1) pa_nil))) (pss_cons (ps_set (i := 4) sc.nd rfl (Or.inl rfl) (pe_c C.order hr (by decide) (by rfl) pass0 (pa_cons (pv 1) (pa_cons (pv 3) pa_nil)))) (pss_cons (ps_set (i := 5) sc.nd rfl (Or.inl rfl) (pe_bm PySem.F.plainAttrs_str PySem.F.slot_str_join PySem.F.type_str_join mt_join pe_str (pa_cons (pe_lc (own := [("_law_column", 9), ("_law_way", 10)]) (tt := tYes) (g := gTup K 2 (gCons (gName 9) (gCons (gName 10) gNil))) rfl sc.nd (pi_list (pv 4)) (blkOk_by (N := ["_law_script", "_law_box", "_law_turn", "_law_kinds_here", "_law_order_here", "_law_text_here", "_law_lengths_here", "_law_ways", "_law_plan_here", "_law_column", "_law_way"]) (sc := defScope sLaw) (own := [("_law_column", 9), ("_law_way", 10)]) (by decide +kernel)) (fun _ _ _ _ _ => (pg_tup (by rfl) (pgs_cons (pg_name (i := 9) sc.nd rfl (Or.inl rfl)) (pgs_cons (pg_name (i := 10) sc.nd rfl (Or.inl rfl)) pgs_nil)))) (fun _ _ _ _ _ => pts_nil) (fun _ _ _ _ _ => (pe_op op_add_str (pe_op op_add_str (pe_callTy call_str_int (by rfl) T.str_ (by decide +kernel) (pa_cons (pv 9) pa_nil)) pe_str) (pv 10)))) pa_nil))) (pss_cons (ps_if ((pw_or (pt_not (pt_val (pe_c C.alike hr (by decide) (by rfl) pass0 (pa_cons (pe_c C.wo hr (by decide) (by rfl) pass0 (pa_cons (pv 3) (pa_cons (pv 4) pa_nil))) (pa_cons (pv 5) pa_nil))))) (pw_or1 (pt_not (pt_val (pe_c C.alike hr (by decide) (by rfl) pass0 (pa_cons (pe_c C.ro hr (by decide) (by rfl) pass0 (pa_cons (pv 3) (pa_cons (pv 5) pa_nil))) (pa_cons (pv 4) pa_nil))))))).pt) (pss_one (ps_ret pe_bl)) pss_nil) (pss_cons (ps_set (i := 6) sc.nd rfl (Or.inl rfl) (pe_c C.lens hr (by decide) (by rfl) pass0 (pa_cons (pv 1) (pa_cons (pe_ix ix_list (pe_lst (pa_cons pe_int (pa_cons pe_int (pa_cons pe_int pa_nil)))) (pe_c C.take hr (by decide) (by rfl) pass0 (pa_cons (pv 1) (pa_cons pe_int pa_nil))) (fun _ _ => rfl)) pa_nil)))) (pss_cons (ps_set (i := 7) sc.nd rfl (Or.inl rfl) (pe_op op_add pe_int (pe_c C.take hr (by decide) (by rfl) pass0 (pa_cons (pv 1) (pa_cons pe_int pa_nil))))) (pss_cons (ps_set (i := 8) sc.nd rfl (Or.inl rfl) (pe_c C.plan hr (by decide) (by rfl) pass0 (pa_cons (pv 1) (pa_cons (pe_listRg rfl (by rfl) T.list_ (prg_1 (by rfl) T.range (pe_callB call_lenD (by rfl) T.len PySem.boot_len (pa_cons (pv 6) pa_nil)))) (pa_cons (pv 7) pa_nil))))) (pss_cons (ps_set (i := 5) sc.nd rfl (Or.inl rfl) (pe_bm PySem.F.plainAttrs_str PySem.F.slot_str_join PySem.F.type_str_join mt_join pe_str (pa_cons (pe_c C.text hr (by decide) (by rfl) pass0 (pa_cons (pv 8) pa_nil)) pa_nil))) (pss_cons (ps_if (pt_not (pt_val (pe_c C.alike hr (by decide) (by rfl) pass0 (pa_cons (pe_c C.wp hr (by decide) (by rfl) pass0 (pa_cons (pv 6) (pa_cons (pv 7) (pa_cons (pv 8) pa_nil)))) (pa_cons (pv 5) pa_nil))))) (pss_one (ps_ret pe_bl)) pss_nil) (pss_one (ps_if (pt_not (pt_val (pe_c C.alike hr (by decide) (by rfl) pass0 (pa_cons (pe_c C.rp hr (by decide) (by rfl) pass0 (pa_cons (pv 6) (pa_cons (pv 7) (pa_cons (pv 5) pa_nil)))) (pa_cons (pv 8) pa_nil))))) (pss_one (ps_ret pe_bl)) pss_nil)))))))))))) (pss_one (ps_ret pe_bl)))), ?_⟩
    refine ⟨_, rfl, a, ns, rfl, hS, fun H0 B L s0 _ _ bx0 => ?_⟩
    refine ⟨_, rfl, by decide, by decide, ?_⟩
    rw [show (4 : Int).toNat = 4 from rfl]
    refine for_range (fun i σ H' => ∃ v2 v3 v4 v5 v6 v7 v8 : Option V, σ = [some (.ref a), some (.ref B), v2, v3, v4, v5, v6, v7, v8, none, none] ∧ BoxAt H' B L ∧ TabsK H' pK pL pF) ⟨none, none, none, none, none, none, none, rfl, bx0, ht.same s0⟩ ?_ ?_
    · rintro i σ H1 hi ⟨v2, v3, v4, v5, v6, v7, v8, rfl, b1, t1⟩
      refine ⟨_, rfl, B, L, rfl, b1, fun H2 vk ks s2 b2 k1 k4 hk2 => ?_⟩
      refine ⟨_, rfl, _, rfl, B, L, vk, ks, rfl, b2, hk2, k1, k4, fun H3 O os xs s3 b3 ok l4 fO hO hd => ?_⟩
      have t3 := (t1.x b1 s2).x b2 s3
      have hk3 := dp_x b2 s3 _ (kinds_noL ks) hk2
      have c4 : ∀ q ∈ os, q.1 < 4 := fun q hq => Nat.lt_of_lt_of_le (ok.col q hq) k4
      obtain ⟨z1, z2⟩ := order_len l4 c4
      have big : (1000 : Nat) ≤ sizeLine := by decide
      have lx : xs.length = os.length := by rw [dpLen hd, List.length_map]
      refine ⟨rfl, _, rfl, O, rfl, ⟨_, SqL.of hO⟩, fun DD hD => ?_⟩
      refine lc_list (K := K) (a := O) (xs := xs) (te := tOp (fun x y H Q => ∃ i j, x = .str i ∧ y = .str j ∧ i.length + j.length ≤ sizeLine ∧ Q (.str (i ++ j)) H) (tOp (fun x y H Q => ∃ i j, x = .str i ∧ y = .str j ∧ i.length + j.length ≤ sizeLine ∧ Q (.str (i ++ j)) H) (tCB (fun xs H Q => ∃ i, xs = [.int i] ∧ i.natAbs.log2 < 1920 ∧ Q (.str (toString i)) H) (tCons (tVar 9) tNil)) (tC (V.str " "))) (tVar 10)) (fun j H' => Same H3 H' ∧ H' DD = some (.lst ((os.take j).map fun q => V.str (partS q)))) ⟨fun b o e => by rw [upd_ne (ne_of_none e hD)]; exact e, upd_same⟩ (fun j H4 _ h => h.1.seq (SqL.of hO)) ?_ ?_
      · rintro j x H4 hx ⟨sm, hl⟩
        obtain ⟨e, ee, he⟩ := dpGet hd hx
        obtain ⟨⟨cc, b⟩, eq, rfl⟩ : ∃ q, os[j]? = some q ∧ e = partD q := by
          rw [List.getElem?_map] at ee
          cases q : os[j]? with
          | none => rw [q] at ee; cases ee
          | some b => rw [q] at ee; exact ⟨b, rfl, (Option.some.inj ee).symm⟩
        have he := dp_same sm _ he
        have hc4 := c4 _ (List.mem_of_getElem? eq)
        obtain ⟨_, p1, p2, p3, p4, _⟩ := part_all cc hc4 b
        cases he with
        | @tup a2 ys _ hS2 hI2 =>
          cases hI2 with
          | cons h1 hI2 =>
            cases hI2 with
            | cons h2 hI2 =>
              cases hI2
              cases h1
              cases h2
              refine ⟨a2, _, rfl, hS2, rfl, _, _, rfl, _, _, rfl, rfl, ?_⟩
              refine ⟨rfl, _, rfl, _, rfl, num_log cc (by have : cc < 4 := hc4; omega), _, _, rfl, rfl, ?_, _, rfl, _, _, rfl, rfl, ?_, ?_⟩
              · show (numS cc).length + (Str.ofString " ").length ≤ sizeLine
                rw [len_app] at p4
                exact Nat.le_trans p4 (by omega)
              · show (numS cc ++ Str.ofString " ").length + (wayS b).length ≤ sizeLine
                have : (numS cc ++ Str.ofString " ").length ≤ 8 := p4
                omega
              · refine ⟨_, hl, small1000 (by rw [List.length_map, List.length_take]; omega), fun b' o q => ?_, ?_⟩
                · rw [upd_ne (ne_of_none q hD)]
                  exact sm _ _ q
                · rw [upd_same, List.take_add_one, eq, List.map_append]
                  rfl
      · rintro H4 ⟨sm, hl⟩
        dsimp only [gName]
        rw [lx, List.take_length] at hl
        refine ⟨_, DD, os.map partS, rfl, rfl, .inl (SqL.of (by rw [List.map_map]; exact hl)), ?_, ?_⟩
        · have e1 : (Str.ofString ", ").length = 2 := by decide +kernel
          show ((os.map partS).map Str.length).sum + (os.map partS).length * (Str.ofString ", ").length ≤ 16777216
          rw [e1, List.length_map]
          omega
        rw [show Txt.join (Str.ofString ", ") (os.map partS) = textO os from rfl]
        have t4 := t3.same sm
        have bx4 := b3.same sm
        have hO4 : Dp K H4 (.ref O) (orderD os) := dp_same sm _ (.lst (SqL.of hO) hd)
        have hk4 := dp_same sm _ hk3
        refine ⟨_, rfl, _, rfl, vk, .ref O, ks, os, rfl, hk4, k1, k4, hO4, ok, l4, t4.k, fun H5 s5 => ?_⟩
        refine ⟨_, rfl, .str (textO os), .str (textO os), .str (textO os), rfl, .str _, .str _, by simp [few], by simp [PyData.depth], _, rfl, ?_⟩
        have t5 := t4.same s5
        refine iteF ⟨_, rfl, _, rfl, vk, ks, os, rfl, dp_same s5 _ hk4, k1, k4, ok, l4, t5.k, t5.f, fun H6 v6' s6 hv6 => ?_⟩
        have fO6 : few (orderD os) := by
          unfold orderD few
          refine ⟨by rw [List.length_map]; omega, fews_iff.mpr fun d hd => ?_⟩
          obtain ⟨q, _, rfl⟩ := List.mem_map.mp hd
          simp [partD, few, fews]
        have dO6 : (orderD os).depth ≤ 40 := by
          unfold orderD
          simp only [PyData.depth]
          have := depthLeX (n := 2) (ds := os.map partD) fun d hd => by
            obtain ⟨q, _, rfl⟩ := List.mem_map.mp hd
            simp [partD, PyData.depth, PyData.depthAll]
          omega
        refine ⟨_, rfl, v6', .ref O, orderD os, rfl, hv6, dp_same s6 _ (dp_same s5 _ hO4), fO6, dO6, _, rfl, ?_⟩
        have t6 := t5.same s6
        have bx6 := (bx4.same s5).same s6
        refine iteF ⟨_, rfl, by show 3 ≤ sizeLine; decide, fun e he => ?_⟩
        obtain ⟨s7, b7, ne1, ne2⟩ := alX (o := .lst [.int 6, .int 20, .int 40]) SameX.refl bx6 bx6 he
        refine ⟨_, rfl, B, L, 3, rfl, b7, by decide, by decide, fun H8 x8 s8 b8 y0 y1 => ?_⟩
        obtain ⟨mm, hmm, mm1, mm40⟩ : ∃ mm : Nat, atI [V.int 6, V.int 20, V.int 40] x8 = some (.int (mm : Nat)) ∧ 1 ≤ mm ∧ mm ≤ 40 := by
          rcases (by omega : x8 = 0 ∨ x8 = 1 ∨ x8 = 2) with e | e | e <;> subst e
          · exact ⟨6, atI_nat (j := 0) rfl, by decide, by decide⟩
          · exact ⟨20, atI_nat (j := 1) rfl, by decide, by decide⟩
          · exact ⟨40, atI_nat (j := 2) rfl, by decide, by decide⟩
        refine ⟨e, _, x8, _, rfl, rfl, SqL.of (s8 _ _ ne1 ne2 upd_same), hmm, B, L, mm, rfl, b8, mm1, mm40, fun H9 la ls s9 b9 okl fl hl => ?_⟩
        obtain ⟨nlB, nlL⟩ := b8.nb fl
        refine ⟨_, rfl, B, L, 5, rfl, b9, by decide, by decide, fun H10 x10 s10 b10 w0 w1 => ⟨_, _, rfl, rfl, ?_⟩⟩
        obtain ⟨xn, rfl⟩ : ∃ xn : Nat, x10 = (xn : Int) := ⟨x10.toNat, by omega⟩
        have mw2 : 2 ≤ 2 + xn := by omega
        have mw6 : 2 + xn ≤ 6 := by omega
        have hl10 := s10 _ _ nlB nlL hl
        have o1 := okl.one
        have o2 := okl.most
        have hla10 : Dp K H10 (.ref la) (lensD ls) := .lst (SqL.of hl10) (dpNats ls)
        refine ⟨_, rfl, _, rfl, .ref la, _, _, rfl, hla10, rfl, _, rfl, .of_le (by decide) (by rw [List.length_map]; omega) (by decide) (by rw [List.length_map]; omega), fun R hR => ?_⟩
        obtain ⟨s11, b11, _, _⟩ := alX (o := .lst (rgV 0 ((ls.map fun n => PyData.int (n : Nat)).length : Nat))) SameX.refl b10 b10 hR
        have nlR : la ≠ R := fun z => by rw [← z, hl10] at hR; cases hR
        refine ⟨_, rfl, B, L, R, ls.length, 2 + xn, rfl, b11, mw2, mw6, o1, o2, by rw [upd_same]; simp [rgV], fun H12 v12 d s12 b12 hv okp => ?_⟩
        have hl12 := s12 _ _ nlB nlL ((upd_ne nlR).trans hl10)
        have ll : (leaf d).length ≤ 40 := by rw [okp.all.length_eq, List.length_range]; exact o2
        have dd := okp.depth
        have t12 := ((((((t6.x bx6 s7).x b7 s8).x b8 s9).x b9 s10).x b10 s11).x b11 s12)
        have hla12 : Dp K H12 (.ref la) (lensD ls) := .lst (SqL.of hl12) (dpNats ls)
        have tl := text_len okp.ok
        have tw := wds_len d okp.ok
        refine ⟨rfl, _, rfl, v12, d, 2 + xn, rfl, hv, okp.ok, mw6, ll, by omega, fun H13 W s13 fW hW => ?_⟩
        refine ⟨_, W, wds d, rfl, rfl, .inl (SqL.of hW), ?_, ?_⟩
        · have h2 := sum_le Str.length 2 (wds d) fun x hx => (wds_ok d okp.ok x hx).1
          have e1 : (Str.ofString " ").length = 1 := by decide +kernel
          show ((wds d).map Str.length).sum + (wds d).length * (Str.ofString " ").length ≤ 16777216
          rw [e1]
          omega
        rw [show Txt.join (Str.ofString " ") (wds d) = textP d from (text_join okp.ok).symm]
        have t13 := t12.same s13
        have hla13 := dp_same s13 _ hla12
        have hv13 := dp_same s13 _ hv
        refine ⟨_, rfl, _, rfl, _, rfl, .ref la, v12, ls, 2 + xn, d, rfl, hla13, okl, mw2, mw6, hv13, okp, t13.l, fun H14 s14 => ?_⟩
        refine ⟨_, rfl, .str (textP d), .str (textP d), .str (textP d), rfl, .str _, .str _, by simp [few], by simp [PyData.depth], _, rfl, ?_⟩
        have t14 := t13.same s14
        refine iteF ⟨_, rfl, _, rfl, _, rfl, .ref la, ls, 2 + xn, d, rfl, dp_same s14 _ hla13, okl, mw2, mw6, okp, t14.l, t14.f, fun H15 v15 s15 hv15 => ?_⟩
        refine ⟨_, rfl, v15, v12, d, rfl, hv15, dp_same s15 _ (dp_same s14 _ hv13), okP_few (by omega) d okp.ok, by omega, _, rfl, ?_⟩
        refine iteF ⟨_, _, _, _, _, _, _, rfl, ((b12.same s13).same s14).same s15, t14.same s15⟩
    · rintro σ H2 ⟨v2, v3, v4, v5, v6, v7, v8, rfl, b2, t2⟩
      exact k H2 t2
end
end RS
set_option Elab.async false
set_option maxRecDepth 100000
set_option maxHeartbeats 4000000
namespace RS
open PySem PySem.Spec PyProof.Rows L2 GX
/-- the end: the tables of the defs are empty at the law's entry -/
theorem walk_tabs {l : PySem.W.OpenLaw} {n k : Nat} {q : Program} {loose : List Str} {XP : (Str → Option Value) → Heap → Prop} {YP : World → Heap → Prop} {d : DefRec} {K : Params → PySem.W.Frag} {x : Str}
    (hn : l.most = some n) (hn2 : n ≤ sizeLine) (hdf : d.params.defaults = []) (hr : Room k callerA) (hY : ∀ (w : World) (h : Heap), YP w h → (K w.params).In h)
    (F : ∀ (w : World) (mg : Str → Option Value) (fa : Addr) (h : Heap), (K w.params).In h → h.Ns mainGlobals mg → mg d.name = some (.ref fa) →
      (∀ (y : Str) (d' : DefRec) (c P : Addr), (recsOf q).find? (fun e => e.name == y) = some d' → PySem.W.tabIn (K w.params) y = some (c, P) → PySem.W.CodeHd h c P ∧ h.get? P = some { cls := .none, data := .fields #[] }) →
      LamX.LawAtS l w (K w.params) CX0 k n x mg fa h) :
    PySem.W.WalkO q loose XP YP l.row.toRowW d [] (fun f vs => PySem.call f vs) := by
  refine Att.attach_callB hn hdf fun w s₀ s₁ mg mb fa o pm cd doc a vs ns G Y ho hd hcd hmg hobj hints hlen hbits hg => ?_
  have KX := hY w _ Y
  obtain ⟨fd, cs, sp, hT, nT, C, hb, hsp, hF⟩ := F w mg fa _ KX G.T.g hmg fun y d' c P e1 e2 => PySem.W.tab_of G.T KX e1 e2
  exact LamX.law_callTs KX G.T.g G.T.b G.T.builtins G.T.nolimit hg hT nT C G.T.bmain hobj hints (Nat.le_trans hlen hn2) hr hF hb (fun H hH hS => hsp H a ns hlen hbits hH hS) fun H e s' z => z
end RS
set_option Elab.async false
set_option maxRecDepth 100000
set_option maxHeartbeats 8000000
namespace RS
open PySem PySem.Spec PyProof.Rows L2 GX
theorem def_at {K : PySem.W.Frag} {h : Heap} {mg : Str → Option Value} {x : Str} {st : Stmt} {f c : Addr} {oc kV doc pm ct : Value} {od an : Option Addr} {osl : Array (Option Value)} (X : K.In h) (G : h.Ns mainGlobals mg) (a : PySem.W.nsIn K mainGlobals x = some (some (.ref f)))
    (l : K.lookup f = some ⟨oc, od, .func (PySem.W.fnOf x x (defArgs st) (defBody st) (defScope st) .none kV doc pm an (.ref c) ct), osl⟩) (e : PySem.W.codeIn K (.ref c) x = true) (k : PySem.W.keepIn K (.ref f) = true) : DefAt K mg x st c :=
  ⟨f, oc, od, kV, doc, pm, an, ct, osl, PySem.W.mg_of X G a, l, e, k⟩
theorem two_in {K : PySem.W.Frag} {a : Addr} {x y : Str} {t u : Tok} {od : Option Addr} {n : Nat} {sl : Array (Option Value)} (h : K.lookup a = some ⟨.type "tuple", od, .seq #[.str x t, .str y u] n, sl⟩) : ∀ H, SqT K H a [.str x, .str y] :=
  fun _ => .inr ⟨_, #[.str x t, .str y u], n, h, rfl, rfl, by show 2 ≤ sizeLine; decide, .cons ⟨t, rfl⟩ (.cons ⟨u, rfl⟩ .nil)⟩
theorem tabB_of {base : Heap} {mg : Str → Option Value} {c P : Addr} (h : LamX.TabB base mg c P) : GxR.TabB base mg c P := ⟨h.code, h.bm, h.gP⟩
theorem tab_in {K : PySem.W.Frag} {x : Str} {st : Stmt} {f c P : Addr} {oc kV doc pm ct e : Value} {od an dd : Option Addr} {osl sl : Array (Option Value)} {vs : Array Value} (a : PySem.W.nsIn K mainGlobals x = some (some (.ref f)))
    (l : K.lookup f = some ⟨oc, od, .func (PySem.W.fnOf x x (defArgs st) (defBody st) (defScope st) .none kV doc pm an (.ref c) ct), osl⟩) (h1 : K.lookup c = some ⟨e, dd, .fields vs, sl⟩) (h2 : vs[11]? = some (.ref P)) : PySem.W.tabIn K x = some (c, P) := by
  unfold PySem.W.tabIn
  rw [a]
  dsimp only
  rw [l]
  show (match K.lookup c with
    | some ⟨_, _, .fields vs, _⟩ => (match (vs[11]? : Option Value) with
      | some (.ref P) => some (c, P)
      | _ => none)
    | _ => none) = some (c, P)
  rw [h1]
  dsimp only
  rw [h2]
theorem all_mk {l : PySem.W.OpenLaw} {w : World} {K : PySem.W.Frag} {h : Heap} {mg : Str → Option Value} {fa pK pL pF aK aW : Addr} {q : Program} {dK dL dF : DefRec} {eK eL eF : Value} {ddK ddL ddF : Option Addr} {vsK vsL vsF : Array Value} {stK stL stF : Array (Option Value)} (tabs : ∀ (y : Str) (d' : DefRec) (c P : Addr), (recsOf q).find? (fun e => e.name == y) = some d' → PySem.W.tabIn K y = some (c, P) → PySem.W.CodeHd h c P ∧ h.get? P = some { cls := .none, data := .fields #[] }) (X : K.In h) (G : h.Ns mainGlobals mg) (hfa : mg "law" = some (.ref fa))
    {f0 c0 : Addr} {oc0 kV0 dc0 pm0 ct0 : Value} {od0 an0 : Option Addr} {sl0 : Array (Option Value)}
    {f1 c1 : Addr} {oc1 kV1 dc1 pm1 ct1 : Value} {od1 an1 : Option Addr} {sl1 : Array (Option Value)}
    {f2 c2 : Addr} {oc2 kV2 dc2 pm2 ct2 : Value} {od2 an2 : Option Addr} {sl2 : Array (Option Value)}
    {f3 c3 : Addr} {oc3 kV3 dc3 pm3 ct3 : Value} {od3 an3 : Option Addr} {sl3 : Array (Option Value)}
    {f4 c4 : Addr} {oc4 kV4 dc4 pm4 ct4 : Value} {od4 an4 : Option Addr} {sl4 : Array (Option Value)}
    {f5 c5 : Addr} {oc5 kV5 dc5 pm5 ct5 : Value} {od5 an5 : Option Addr} {sl5 : Array (Option Value)}
    {f6 c6 : Addr} {oc6 kV6 dc6 pm6 ct6 : Value} {od6 an6 : Option Addr} {sl6 : Array (Option Value)}
    {f7 c7 : Addr} {oc7 kV7 dc7 pm7 ct7 : Value} {od7 an7 : Option Addr} {sl7 : Array (Option Value)}
    {f8 c8 : Addr} {oc8 kV8 dc8 pm8 ct8 : Value} {od8 an8 : Option Addr} {sl8 : Array (Option Value)}
    {f9 c9 : Addr} {oc9 kV9 dc9 pm9 ct9 : Value} {od9 an9 : Option Addr} {sl9 : Array (Option Value)}
    {f10 c10 : Addr} {oc10 kV10 dc10 pm10 ct10 : Value} {od10 an10 : Option Addr} {sl10 : Array (Option Value)}
    {f11 c11 : Addr} {oc11 kV11 dc11 pm11 ct11 : Value} {od11 an11 : Option Addr} {sl11 : Array (Option Value)}
    {f12 c12 : Addr} {oc12 kV12 dc12 pm12 ct12 : Value} {od12 an12 : Option Addr} {sl12 : Array (Option Value)}
    {f13 c13 : Addr} {oc13 kV13 dc13 pm13 ct13 : Value} {od13 an13 : Option Addr} {sl13 : Array (Option Value)}
    {f14 c14 : Addr} {oc14 kV14 dc14 pm14 ct14 : Value} {od14 an14 : Option Addr} {sl14 : Array (Option Value)}
    {f15 c15 : Addr} {oc15 kV15 dc15 pm15 ct15 : Value} {od15 an15 : Option Addr} {sl15 : Array (Option Value)}
    {f16 c16 : Addr} {oc16 kV16 dc16 pm16 ct16 : Value} {od16 an16 : Option Addr} {sl16 : Array (Option Value)}
    {f17 c17 : Addr} {oc17 kV17 dc17 pm17 ct17 : Value} {od17 an17 : Option Addr} {sl17 : Array (Option Value)}
    {f18 c18 : Addr} {oc18 kV18 dc18 pm18 ct18 : Value} {od18 an18 : Option Addr} {sl18 : Array (Option Value)}
    {f19 c19 : Addr} {oc19 kV19 dc19 pm19 ct19 : Value} {od19 an19 : Option Addr} {sl19 : Array (Option Value)}
    {f20 c20 : Addr} {oc20 kV20 dc20 pm20 ct20 : Value} {od20 an20 : Option Addr} {sl20 : Array (Option Value)}
    {f21 c21 : Addr} {oc21 kV21 dc21 pm21 ct21 : Value} {od21 an21 : Option Addr} {sl21 : Array (Option Value)}
    {f22 c22 : Addr} {oc22 kV22 dc22 pm22 ct22 : Value} {od22 an22 : Option Addr} {sl22 : Array (Option Value)}
    {f23 c23 : Addr} {oc23 kV23 dc23 pm23 ct23 : Value} {od23 an23 : Option Addr} {sl23 : Array (Option Value)}
    {f24 c24 : Addr} {oc24 kV24 dc24 pm24 ct24 : Value} {od24 an24 : Option Addr} {sl24 : Array (Option Value)}
    {t1 t2 t3 t4 t5 u1 u2 u3 u4 : Tok} {odK odW : Option Addr} {nK nW : Nat} {slK slW : Array (Option Value)}
    (a0 : PySem.W.nsIn K mainGlobals "is_number" = some (some (.ref f0))) (l0 : K.lookup f0 = some ⟨oc0, od0, .func (PySem.W.fnOf "is_number" "is_number" (defArgs sIsNumber) (defBody sIsNumber) (defScope sIsNumber) .none kV0 dc0 pm0 an0 (.ref c0) ct0), sl0⟩) (e0 : PySem.W.codeIn K (.ref c0) "is_number" = true) (k0 : PySem.W.keepIn K (.ref f0) = true)
    (a1 : PySem.W.nsIn K mainGlobals "is_part" = some (some (.ref f1))) (l1 : K.lookup f1 = some ⟨oc1, od1, .func (PySem.W.fnOf "is_part" "is_part" (defArgs sIsPart) (defBody sIsPart) (defScope sIsPart) .none kV1 dc1 pm1 an1 (.ref c1) ct1), sl1⟩) (e1 : PySem.W.codeIn K (.ref c1) "is_part" = true) (k1 : PySem.W.keepIn K (.ref f1) = true)
    (a2 : PySem.W.nsIn K mainGlobals "check_kinds" = some (some (.ref f2))) (l2 : K.lookup f2 = some ⟨oc2, od2, .func (PySem.W.fnOf "check_kinds" "check_kinds" (defArgs sCheckKinds) (defBody sCheckKinds) (defScope sCheckKinds) .none kV2 dc2 pm2 an2 (.ref c2) ct2), sl2⟩) (e2 : PySem.W.codeIn K (.ref c2) "check_kinds" = true) (k2 : PySem.W.keepIn K (.ref f2) = true)
    (a3 : PySem.W.nsIn K mainGlobals "check_order" = some (some (.ref f3))) (l3 : K.lookup f3 = some ⟨oc3, od3, .func (PySem.W.fnOf "check_order" "check_order" (defArgs sCheckOrder) (defBody sCheckOrder) (defScope sCheckOrder) .none kV3 dc3 pm3 an3 (.ref c3) ct3), sl3⟩) (e3 : PySem.W.codeIn K (.ref c3) "check_order" = true) (k3 : PySem.W.keepIn K (.ref f3) = true)
    (a4 : PySem.W.nsIn K mainGlobals "check_lengths" = some (some (.ref f4))) (l4 : K.lookup f4 = some ⟨oc4, od4, .func (PySem.W.fnOf "check_lengths" "check_lengths" (defArgs s_check_lengths) (defBody s_check_lengths) (defScope s_check_lengths) .none kV4 dc4 pm4 an4 (.ref c4) ct4), sl4⟩) (e4 : PySem.W.codeIn K (.ref c4) "check_lengths" = true) (k4 : PySem.W.keepIn K (.ref f4) = true)
    (a5 : PySem.W.nsIn K mainGlobals "check_ways" = some (some (.ref f5))) (l5 : K.lookup f5 = some ⟨oc5, od5, .func (PySem.W.fnOf "check_ways" "check_ways" (defArgs s_check_ways) (defBody s_check_ways) (defScope s_check_ways) .none kV5 dc5 pm5 an5 (.ref c5) ct5), sl5⟩) (e5 : PySem.W.codeIn K (.ref c5) "check_ways" = true) (k5 : PySem.W.keepIn K (.ref f5) = true)
    (a6 : PySem.W.nsIn K mainGlobals "check_plan" = some (some (.ref f6))) (l6 : K.lookup f6 = some ⟨oc6, od6, .func (PySem.W.fnOf "check_plan" "check_plan" (defArgs s_check_plan) (defBody s_check_plan) (defScope s_check_plan) .none kV6 dc6 pm6 an6 (.ref c6) ct6), sl6⟩) (e6 : PySem.W.codeIn K (.ref c6) "check_plan" = true) (k6 : PySem.W.keepIn K (.ref f6) = true)
    (a7 : PySem.W.nsIn K mainGlobals "check_merging" = some (some (.ref f7))) (l7 : K.lookup f7 = some ⟨oc7, od7, .func (PySem.W.fnOf "check_merging" "check_merging" (defArgs s_check_merging) (defBody s_check_merging) (defScope s_check_merging) .none kV7 dc7 pm7 an7 (.ref c7) ct7), sl7⟩) (e7 : PySem.W.codeIn K (.ref c7) "check_merging" = true) (k7 : PySem.W.keepIn K (.ref f7) = true)
    (a8 : PySem.W.nsIn K mainGlobals "written_order" = some (some (.ref f8))) (l8 : K.lookup f8 = some ⟨oc8, od8, .func (PySem.W.fnOf "written_order" "written_order" (defArgs s_written_order) (defBody s_written_order) (defScope s_written_order) .none kV8 dc8 pm8 an8 (.ref c8) ct8), sl8⟩) (e8 : PySem.W.codeIn K (.ref c8) "written_order" = true) (k8 : PySem.W.keepIn K (.ref f8) = true)
    (a9 : PySem.W.nsIn K mainGlobals "read_order" = some (some (.ref f9))) (l9 : K.lookup f9 = some ⟨oc9, od9, .func (PySem.W.fnOf "read_order" "read_order" (defArgs s_read_order) (defBody s_read_order) (defScope s_read_order) .none kV9 dc9 pm9 an9 (.ref c9) ct9), sl9⟩) (e9 : PySem.W.codeIn K (.ref c9) "read_order" = true) (k9 : PySem.W.keepIn K (.ref f9) = true)
    (a10 : PySem.W.nsIn K mainGlobals "written_plan" = some (some (.ref f10))) (l10 : K.lookup f10 = some ⟨oc10, od10, .func (PySem.W.fnOf "written_plan" "written_plan" (defArgs s_written_plan) (defBody s_written_plan) (defScope s_written_plan) .none kV10 dc10 pm10 an10 (.ref c10) ct10), sl10⟩) (e10 : PySem.W.codeIn K (.ref c10) "written_plan" = true) (k10 : PySem.W.keepIn K (.ref f10) = true)
    (a11 : PySem.W.nsIn K mainGlobals "plan_text" = some (some (.ref f11))) (l11 : K.lookup f11 = some ⟨oc11, od11, .func (PySem.W.fnOf "plan_text" "plan_text" (defArgs s_plan_text) (defBody s_plan_text) (defScope s_plan_text) .none kV11 dc11 pm11 an11 (.ref c11) ct11), sl11⟩) (e11 : PySem.W.codeIn K (.ref c11) "plan_text" = true) (k11 : PySem.W.keepIn K (.ref f11) = true)
    (a12 : PySem.W.nsIn K mainGlobals "read_plan" = some (some (.ref f12))) (l12 : K.lookup f12 = some ⟨oc12, od12, .func (PySem.W.fnOf "read_plan" "read_plan" (defArgs s_read_plan) (defBody s_read_plan) (defScope s_read_plan) .none kV12 dc12 pm12 an12 (.ref c12) ct12), sl12⟩) (e12 : PySem.W.codeIn K (.ref c12) "read_plan" = true) (k12 : PySem.W.keepIn K (.ref f12) = true)
    (a13 : PySem.W.nsIn K mainGlobals "put_together" = some (some (.ref f13))) (l13 : K.lookup f13 = some ⟨oc13, od13, .func (PySem.W.fnOf "put_together" "put_together" (defArgs s_put_together) (defBody s_put_together) (defScope s_put_together) .none kV13 dc13 pm13 an13 (.ref c13) ct13), sl13⟩) (e13 : PySem.W.codeIn K (.ref c13) "put_together" = true) (k13 : PySem.W.keepIn K (.ref f13) = true)
    (a14 : PySem.W.nsIn K mainGlobals "may_stand" = some (some (.ref f14))) (l14 : K.lookup f14 = some ⟨oc14, od14, .func (PySem.W.fnOf "may_stand" "may_stand" (defArgs s_may_stand) (defBody s_may_stand) (defScope s_may_stand) .none kV14 dc14 pm14 an14 (.ref c14) ct14), sl14⟩) (e14 : PySem.W.codeIn K (.ref c14) "may_stand" = true) (k14 : PySem.W.keepIn K (.ref f14) = true)
    (a15 : PySem.W.nsIn K mainGlobals "is_figures" = some (some (.ref f15))) (l15 : K.lookup f15 = some ⟨oc15, od15, .func (PySem.W.fnOf "is_figures" "is_figures" (defArgs s_is_figures) (defBody s_is_figures) (defScope s_is_figures) .none kV15 dc15 pm15 an15 (.ref c15) ct15), sl15⟩) (e15 : PySem.W.codeIn K (.ref c15) "is_figures" = true) (k15 : PySem.W.keepIn K (.ref f15) = true)
    (a16 : PySem.W.nsIn K mainGlobals "_law_begun" = some (some (.ref f16))) (l16 : K.lookup f16 = some ⟨oc16, od16, .func (PySem.W.fnOf "_law_begun" "_law_begun" (defArgs sBegun) (defBody sBegun) (defScope sBegun) .none kV16 dc16 pm16 an16 (.ref c16) ct16), sl16⟩) (e16 : PySem.W.codeIn K (.ref c16) "_law_begun" = true) (k16 : PySem.W.keepIn K (.ref f16) = true)
    (a17 : PySem.W.nsIn K mainGlobals "_law_take" = some (some (.ref f17))) (l17 : K.lookup f17 = some ⟨oc17, od17, .func (PySem.W.fnOf "_law_take" "_law_take" (defArgs sTake) (defBody sTake) (defScope sTake) .none kV17 dc17 pm17 an17 (.ref c17) ct17), sl17⟩) (e17 : PySem.W.codeIn K (.ref c17) "_law_take" = true) (k17 : PySem.W.keepIn K (.ref f17) = true)
    (a18 : PySem.W.nsIn K mainGlobals "_law_alike" = some (some (.ref f18))) (l18 : K.lookup f18 = some ⟨oc18, od18, .func (PySem.W.fnOf "_law_alike" "_law_alike" (defArgs sAlike) (defBody sAlike) (defScope sAlike) .none kV18 dc18 pm18 an18 (.ref c18) ct18), sl18⟩) (e18 : PySem.W.codeIn K (.ref c18) "_law_alike" = true) (k18 : PySem.W.keepIn K (.ref f18) = true)
    (a19 : PySem.W.nsIn K mainGlobals "_law_kinds" = some (some (.ref f19))) (l19 : K.lookup f19 = some ⟨oc19, od19, .func (PySem.W.fnOf "_law_kinds" "_law_kinds" (defArgs sKinds) (defBody sKinds) (defScope sKinds) .none kV19 dc19 pm19 an19 (.ref c19) ct19), sl19⟩) (e19 : PySem.W.codeIn K (.ref c19) "_law_kinds" = true) (k19 : PySem.W.keepIn K (.ref f19) = true)
    (a20 : PySem.W.nsIn K mainGlobals "_law_order" = some (some (.ref f20))) (l20 : K.lookup f20 = some ⟨oc20, od20, .func (PySem.W.fnOf "_law_order" "_law_order" (defArgs sOrder) (defBody sOrder) (defScope sOrder) .none kV20 dc20 pm20 an20 (.ref c20) ct20), sl20⟩) (e20 : PySem.W.codeIn K (.ref c20) "_law_order" = true) (k20 : PySem.W.keepIn K (.ref f20) = true)
    (a21 : PySem.W.nsIn K mainGlobals "_law_lengths" = some (some (.ref f21))) (l21 : K.lookup f21 = some ⟨oc21, od21, .func (PySem.W.fnOf "_law_lengths" "_law_lengths" (defArgs s__law_lengths) (defBody s__law_lengths) (defScope s__law_lengths) .none kV21 dc21 pm21 an21 (.ref c21) ct21), sl21⟩) (e21 : PySem.W.codeIn K (.ref c21) "_law_lengths" = true) (k21 : PySem.W.keepIn K (.ref f21) = true)
    (a22 : PySem.W.nsIn K mainGlobals "_law_plan" = some (some (.ref f22))) (l22 : K.lookup f22 = some ⟨oc22, od22, .func (PySem.W.fnOf "_law_plan" "_law_plan" (defArgs s__law_plan) (defBody s__law_plan) (defScope s__law_plan) .none kV22 dc22 pm22 an22 (.ref c22) ct22), sl22⟩) (e22 : PySem.W.codeIn K (.ref c22) "_law_plan" = true) (k22 : PySem.W.keepIn K (.ref f22) = true)
    (a23 : PySem.W.nsIn K mainGlobals "_law_text" = some (some (.ref f23))) (l23 : K.lookup f23 = some ⟨oc23, od23, .func (PySem.W.fnOf "_law_text" "_law_text" (defArgs s__law_text) (defBody s__law_text) (defScope s__law_text) .none kV23 dc23 pm23 an23 (.ref c23) ct23), sl23⟩) (e23 : PySem.W.codeIn K (.ref c23) "_law_text" = true) (k23 : PySem.W.keepIn K (.ref f23) = true)
    (a24 : PySem.W.nsIn K mainGlobals "law" = some (some (.ref f24))) (l24 : K.lookup f24 = some ⟨oc24, od24, .func (PySem.W.fnOf "law" "law" (defArgs sLaw) (defBody sLaw) (defScope sLaw) .none kV24 dc24 pm24 an24 (.ref c24) ct24), sl24⟩) (e24 : PySem.W.codeIn K (.ref c24) "law" = true) (k24 : PySem.W.keepIn K (.ref f24) = true)
    (z0 : PySem.W.nsIn K mainGlobals "isinstance" = some none)
    (z1 : PySem.W.nsIn K mainGlobals "int" = some none)
    (z2 : PySem.W.nsIn K mainGlobals "bool" = some none)
    (z3 : PySem.W.nsIn K mainGlobals "str" = some none)
    (z4 : PySem.W.nsIn K mainGlobals "list" = some none)
    (z5 : PySem.W.nsIn K mainGlobals "tuple" = some none)
    (z6 : PySem.W.nsIn K mainGlobals "len" = some none)
    (z7 : PySem.W.nsIn K mainGlobals "all" = some none)
    (z8 : PySem.W.nsIn K mainGlobals "zip" = some none)
    (z9 : PySem.W.nsIn K mainGlobals "enumerate" = some none)
    (z10 : PySem.W.nsIn K mainGlobals "ord" = some none)
    (z11 : PySem.W.nsIn K mainGlobals "range" = some none)
    (z12 : PySem.W.nsIn K mainGlobals "sorted" = some none)
    (z13 : PySem.W.nsIn K mainGlobals "max" = some none)
    (z14 : PySem.W.nsIn K mainGlobals "min" = some none)
    (y0 : PySem.W.nsIn K mainGlobals "MOST_COLUMNS" = some (some (.int 4 t1)))
    (y1 : PySem.W.nsIn K mainGlobals "MOST_LENGTHS" = some (some (.int 40 t2)))
    (y2 : PySem.W.nsIn K mainGlobals "MOST_LENGTH" = some (some (.int 1000000 t3)))
    (y3 : PySem.W.nsIn K mainGlobals "LEAST_WAYS" = some (some (.int 2 t4)))
    (y4 : PySem.W.nsIn K mainGlobals "MOST_WAYS" = some (some (.int 6 t5)))
    (ak : PySem.W.nsIn K mainGlobals "KINDS" = some (some (.ref aK))) (lk : K.lookup aK = some ⟨.type "tuple", odK, .seq #[.str "number" u1, .str "word" u2] nK, slK⟩)
    (aw : PySem.W.nsIn K mainGlobals "WAYS" = some (some (.ref aW))) (lw : K.lookup aW = some ⟨.type "tuple", odW, .seq #[.str "up" u3, .str "down" u4] nW, slW⟩)
    (rK : (recsOf q).find? (fun e => e.name == ("check_kinds" : Str)) = some dK) (hK : K.lookup c2 = some ⟨eK, ddK, .fields vsK, stK⟩) (iK : vsK[11]? = some (.ref pK)) (nK' : K.lookup pK = none)
    (rL : (recsOf q).find? (fun e => e.name == ("check_lengths" : Str)) = some dL) (hL : K.lookup c4 = some ⟨eL, ddL, .fields vsL, stL⟩) (iL : vsL[11]? = some (.ref pL)) (nL' : K.lookup pL = none)
    (rF : (recsOf q).find? (fun e => e.name == ("is_figures" : Str)) = some dF) (hF : K.lookup c15 = some ⟨eF, ddF, .fields vsF, stF⟩) (iF : vsF[11]? = some (.ref pF)) (nF' : K.lookup pF = none)
    : LamX.LawAtS l w K CX0 44 63 "_law_script" mg fa h := by
  have efa := hfa.symm.trans (PySem.W.mg_of X G a24)
  cases efa
  have gK := tabs "check_kinds" dK c2 pK rK (tab_in (st := sCheckKinds) a2 l2 hK iK)
  have gL := tabs "check_lengths" dL c4 pL rL (tab_in (st := s_check_lengths) a4 l4 hL iL)
  have gF := tabs "is_figures" dF c15 pF rF (tab_in (st := s_is_figures) a15 l15 hF iF)
  have T : Txt K mg := ⟨PySem.W.mg_none_of X G z0, PySem.W.mg_none_of X G z1, PySem.W.mg_none_of X G z2, PySem.W.mg_none_of X G z3, PySem.W.mg_none_of X G z4, PySem.W.mg_none_of X G z5, PySem.W.mg_none_of X G z6, PySem.W.mg_none_of X G z7, PySem.W.mg_none_of X G z8, PySem.W.mg_none_of X G z9, PySem.W.mg_none_of X G z10, PySem.W.mg_none_of X G z11, PySem.W.mg_none_of X G z12, PySem.W.mg_none_of X G z13, PySem.W.mg_none_of X G z14, ⟨t1, PySem.W.mg_of X G y0⟩, ⟨t2, PySem.W.mg_of X G y1⟩, ⟨t3, PySem.W.mg_of X G y2⟩, ⟨t4, PySem.W.mg_of X G y3⟩, ⟨t5, PySem.W.mg_of X G y4⟩, ⟨aK, PySem.W.mg_of X G ak, two_in lk⟩, ⟨aW, PySem.W.mg_of X G aw, two_in lw⟩⟩
  have D0 := def_at (st := sIsNumber) X G a0 l0 e0 k0
  have D1 := def_at (st := sIsPart) X G a1 l1 e1 k1
  have D2 := def_at (st := sCheckKinds) X G a2 l2 e2 k2
  have D3 := def_at (st := sCheckOrder) X G a3 l3 e3 k3
  have D4 := def_at (st := s_check_lengths) X G a4 l4 e4 k4
  have D5 := def_at (st := s_check_ways) X G a5 l5 e5 k5
  have D6 := def_at (st := s_check_plan) X G a6 l6 e6 k6
  have D7 := def_at (st := s_check_merging) X G a7 l7 e7 k7
  have D8 := def_at (st := s_written_order) X G a8 l8 e8 k8
  have D9 := def_at (st := s_read_order) X G a9 l9 e9 k9
  have D10 := def_at (st := s_written_plan) X G a10 l10 e10 k10
  have D11 := def_at (st := s_plan_text) X G a11 l11 e11 k11
  have D12 := def_at (st := s_read_plan) X G a12 l12 e12 k12
  have D13 := def_at (st := s_put_together) X G a13 l13 e13 k13
  have D14 := def_at (st := s_may_stand) X G a14 l14 e14 k14
  have D15 := def_at (st := s_is_figures) X G a15 l15 e15 k15
  have D16 := def_at (st := sBegun) X G a16 l16 e16 k16
  have D17 := def_at (st := sTake) X G a17 l17 e17 k17
  have D18 := def_at (st := sAlike) X G a18 l18 e18 k18
  have D19 := def_at (st := sKinds) X G a19 l19 e19 k19
  have D20 := def_at (st := sOrder) X G a20 l20 e20 k20
  have D21 := def_at (st := s__law_lengths) X G a21 l21 e21 k21
  have D22 := def_at (st := s__law_plan) X G a22 l22 e22 k22
  have D23 := def_at (st := s__law_text) X G a23 l23 e23 k23
  have D24 := def_at (st := sLaw) X G a24 l24 e24 k24
  refine ⟨PySem.W.fnOf "law" "law" (defArgs sLaw) (defBody sLaw) (defScope sLaw) .none kV24 dc24 pm24 an24 (.ref c24) ct24, [(c2, pK), (c4, pL), (c15, pF)], spT [pK, pL, pF] (spLaw K pK pL pF), ?_, ?_, ?_, fun s v => .of_eq rfl, ?_, fun base KB GB TB => ?_⟩
  · intro p hp
    simp only [List.mem_cons, List.not_mem_nil, or_false] at hp
    rcases hp with rfl | rfl | rfl
    · exact gK.2
    · exact gL.2
    · exact gF.2
  · intro p hp
    simp only [List.mem_cons, List.not_mem_nil, or_false] at hp
    rcases hp with rfl | rfl | rfl
    · exact nK'
    · exact nL'
    · exact nF'
  · intro p hp
    simp only [List.mem_cons, List.not_mem_nil, or_false] at hp
    rcases hp with rfl | rfl | rfl
    · exact gK.1
    · exact gL.1
    · exact gF.1
  · intro H a ns hl hb hT hS
    have hT2 : ∀ b ∈ [pK, pL, pF], H b = some (.tbl #[]) := fun b hb => by
      simp only [List.mem_cons, List.not_mem_nil, or_false] at hb
      rcases hb with rfl | rfl | rfl
      · exact hT (c2, b) (by simp)
      · exact hT (c4, b) (by simp)
      · exact hT (c15, b) (by simp)
    refine ⟨hT2, a, ns, rfl, ?_, ⟨ext_in (by simp), ext_in (by simp), ext_in (by simp)⟩, fun H' t3 => ⟨fun b hb => ?_, fun _ => rfl⟩⟩
    · rcases hS with (hS | ⟨o, hS⟩) | hS
      · refine .inl (.inl ?_)
        rw [ext_out fun hb => by rw [hT2 a hb] at hS; cases hS]
        exact hS
      · refine .inl (.inr ⟨o, ?_⟩)
        rw [ext_out fun hb => by rw [hT2 a hb] at hS; cases hS]
        exact hS
      · exact .inr hS
    · simp only [List.mem_cons, List.not_mem_nil, or_false] at hb
      rcases hb with rfl | rfl | rfl
      · exact t3.k
      · exact t3.l
      · exact t3.f
  · have bK := TB (c2, pK) (by simp)
    have bL := TB (c4, pL) (by simp)
    have bF := TB (c15, pF) (by simp)
    have P0 : Cal l.prog w K mg base CX0 1 "is_number" ["value"] (spNum K) := is_number_ok D0 T
    have P1 : Cal l.prog w K mg base CX0 2 "is_part" ["kinds", "part"] (spPart K) := is_part_ok D1 T P0
    have P2 : Cal l.prog w K mg base CX0 2 "check_kinds" ["kinds"] (spCheckKinds K pK) := check_kinds_ok D2 T (tabB_of bK)
    have P3 : Cal l.prog w K mg base CX0 3 "check_order" ["kinds", "order"] (spCheckOrder K) := check_order_ok D3 T P1
    have P4 : Cal l.prog w K mg base CX0 3 "check_lengths" ["lengths"] (spCheckLengths K pL) := check_lengths_ok D4 T (tabB_of bL) P0
    have P5 : Cal l.prog w K mg base CX0 2 "check_ways" ["ways"] (spCheckWays) := check_ways_ok D5 T P0
    have P6 : Cal l.prog w K mg base CX0 2 "check_plan" ["lengths", "ways", "plan"] (spCheckPlan K) := check_plan_ok D6 T P0
    have P7 : Cal l.prog w K mg base CX0 4 "check_merging" ["lengths", "ways"] (spCheckMerging K pL) := check_merging_ok D7 P4 P5
    have P8 : Cal l.prog w K mg base CX0 4 "written_order" ["kinds", "order"] (spWO K pK) := written_order_ok D8 T P2 P3
    have P15 : Cal l.prog w K mg base CX0 2 "is_figures" ["word"] (spFigures pF) := is_figures_ok D15 T (tabB_of bF)
    have P9 : Cal l.prog w K mg base CX0 4 "read_order" ["kinds", "text"] (spRO K pK pF) := read_order_ok D9 T P2 P3 P15
    have P11 : Cal l.prog w K mg base CX0 42 "plan_text" ["plan"] (spPT K 40) := pt_ok D11 T 40
    have P10 : Cal l.prog w K mg base CX0 43 "written_plan" ["lengths", "ways", "plan"] (spWP K pL) := written_plan_ok D10 P7 P6 P11
    have P14 : Cal l.prog w K mg base CX0 3 "may_stand" ["levels", "word"] (spMay pF) := may_stand_ok D14 T P15
    have P13 : Cal l.prog w K mg base CX0 4 "put_together" ["words"] (spPut K pF) := put_together_ok D13 T P14
    have P12 : Cal l.prog w K mg base CX0 5 "read_plan" ["lengths", "ways", "text"] (spRP K pL pF) := read_plan_ok D12 P7 P6 P13
    have P16 : Cal l.prog w K mg base CX0 1 "_law_begun" ["_law_script"] (spBegun K) := begun_ok D16 T
    have P17 : Cal l.prog w K mg base CX0 1 "_law_take" ["_law_box", "_law_many"] (spTake) := take_ok D17
    have P18 : Cal l.prog w K mg base CX0 42 "_law_alike" ["_law_found", "_law_due"] (spAlike K 40) := alike_ok D18 T 40
    have P19 : Cal l.prog w K mg base CX0 2 "_law_kinds" ["_law_box"] (spKinds K) := kinds_ok D19 T P17
    have P20 : Cal l.prog w K mg base CX0 2 "_law_order" ["_law_box", "_law_kinds_here"] (spOrder K) := order_ok D20 T P17
    have P21 : Cal l.prog w K mg base CX0 2 "_law_lengths" ["_law_box", "_law_most"] (spLens) := lens_ok D21 T P17
    have P22 : Cal l.prog w K mg base CX0 2 "_law_plan" ["_law_box", "_law_runs", "_law_ways"] (spLPlan K) := lplan_ok D22 T P17
    have P23 : Cal l.prog w K mg base CX0 42 "_law_text" ["_law_plan_here"] (spLText K 40) := lt_ok D23 T 40
    exact FnOk.tables (law_fn l24 e24 T ⟨P16, P17, P19, P20, P18, P21, P22, P23, P8, P9, P10, P12⟩)
end RS
set_option Elab.async false
open PySem PySem.W PyProof.Rows in
set_option maxRecDepth 100000 in
set_option maxHeartbeats 0 in
theorem PySem.Challenge.cw_runsorts_k21_written_and_read_holds : PySem.Challenge.rw_runsorts_k21_written_and_read.Holds := by
  w_on; o_law; k_head; (case hw => w_witness2)
  k_fill
  refine RS.walk_tabs (l := PySem.Challenge.rw_runsorts_k21_written_and_read) (n := 63) (k := 44) (x := "_law_script") rfl (by decide) rfl ⟨rfl, by decide, by decide⟩ (fun w h Y => PySem.W.kIn_of Y) ?F
  case F =>
    intro w mg fa h KX G hmg tabs
    refine' RS.all_mk tabs KX G hmg ?a0 ?l0 ?e0 ?k0 ?a1 ?l1 ?e1 ?k1 ?a2 ?l2 ?e2 ?k2 ?a3 ?l3 ?e3 ?k3 ?a4 ?l4 ?e4 ?k4 ?a5 ?l5 ?e5 ?k5 ?a6 ?l6 ?e6 ?k6 ?a7 ?l7 ?e7 ?k7 ?a8 ?l8 ?e8 ?k8 ?a9 ?l9 ?e9 ?k9 ?a10 ?l10 ?e10 ?k10 ?a11 ?l11 ?e11 ?k11 ?a12 ?l12 ?e12 ?k12 ?a13 ?l13 ?e13 ?k13 ?a14 ?l14 ?e14 ?k14 ?a15 ?l15 ?e15 ?k15 ?a16 ?l16 ?e16 ?k16 ?a17 ?l17 ?e17 ?k17 ?a18 ?l18 ?e18 ?k18 ?a19 ?l19 ?e19 ?k19 ?a20 ?l20 ?e20 ?k20 ?a21 ?l21 ?e21 ?k21 ?a22 ?l22 ?e22 ?k22 ?a23 ?l23 ?e23 ?k23 ?a24 ?l24 ?e24 ?k24 ?z0 ?z1 ?z2 ?z3 ?z4 ?z5 ?z6 ?z7 ?z8 ?z9 ?z10 ?z11 ?z12 ?z13 ?z14 ?y0 ?y1 ?y2 ?y3 ?y4 ?ak ?lk ?aw ?lw ?rK ?hK ?iK ?nK2 ?rL ?hL ?iL ?nL2 ?rF ?hF ?iF ?nF2
    (case a0 => k_is)
    (case l0 => k_is)
    (case e0 => k_is)
    (case k0 => k_is)
    (case a1 => k_is)
    (case l1 => k_is)
    (case e1 => k_is)
    (case k1 => k_is)
    (case a2 => k_is)
    (case l2 => k_is)
    (case e2 => k_is)
    (case k2 => k_is)
    (case a3 => k_is)
    (case l3 => k_is)
    (case e3 => k_is)
    (case k3 => k_is)
    (case a4 => k_is)
    (case l4 => k_is)
    (case e4 => k_is)
    (case k4 => k_is)
    (case a5 => k_is)
    (case l5 => k_is)
    (case e5 => k_is)
    (case k5 => k_is)
    (case a6 => k_is)
    (case l6 => k_is)
    (case e6 => k_is)
    (case k6 => k_is)
    (case a7 => k_is)
    (case l7 => k_is)
    (case e7 => k_is)
    (case k7 => k_is)
    (case a8 => k_is)
    (case l8 => k_is)
    (case e8 => k_is)
    (case k8 => k_is)
    (case a9 => k_is)
    (case l9 => k_is)
    (case e9 => k_is)
    (case k9 => k_is)
    (case a10 => k_is)
    (case l10 => k_is)
    (case e10 => k_is)
    (case k10 => k_is)
    (case a11 => k_is)
    (case l11 => k_is)
    (case e11 => k_is)
    (case k11 => k_is)
    (case a12 => k_is)
    (case l12 => k_is)
    (case e12 => k_is)
    (case k12 => k_is)
    (case a13 => k_is)
    (case l13 => k_is)
    (case e13 => k_is)
    (case k13 => k_is)
    (case a14 => k_is)
    (case l14 => k_is)
    (case e14 => k_is)
    (case k14 => k_is)
    (case a15 => k_is)
    (case l15 => k_is)
    (case e15 => k_is)
    (case k15 => k_is)
    (case a16 => k_is)
    (case l16 => k_is)
    (case e16 => k_is)
    (case k16 => k_is)
    (case a17 => k_is)
    (case l17 => k_is)
    (case e17 => k_is)
    (case k17 => k_is)
    (case a18 => k_is)
    (case l18 => k_is)
    (case e18 => k_is)
    (case k18 => k_is)
    (case a19 => k_is)
    (case l19 => k_is)
    (case e19 => k_is)
    (case k19 => k_is)
    (case a20 => k_is)
    (case l20 => k_is)
    (case e20 => k_is)
    (case k20 => k_is)
    (case a21 => k_is)
    (case l21 => k_is)
    (case e21 => k_is)
    (case k21 => k_is)
    (case a22 => k_is)
    (case l22 => k_is)
    (case e22 => k_is)
    (case k22 => k_is)
    (case a23 => k_is)
    (case l23 => k_is)
    (case e23 => k_is)
    (case k23 => k_is)
    (case a24 => k_is)
    (case l24 => k_is)
    (case e24 => k_is)
    (case k24 => k_is)
    (case z0 => k_is)
    (case z1 => k_is)
    (case z2 => k_is)
    (case z3 => k_is)
    (case z4 => k_is)
    (case z5 => k_is)
    (case z6 => k_is)
    (case z7 => k_is)
    (case z8 => k_is)
    (case z9 => k_is)
    (case z10 => k_is)
    (case z11 => k_is)
    (case z12 => k_is)
    (case z13 => k_is)
    (case z14 => k_is)
    (case y0 => k_is)
    (case y1 => k_is)
    (case y2 => k_is)
    (case y3 => k_is)
    (case y4 => k_is)
    (case ak => k_is)
    (case lk => k_is)
    (case aw => k_is)
    (case lw => k_is)
    (case rK => rfl)
    (case hK => k_is)
    (case iK => rfl)
    (case nK2 => first | kernel_rfl | rfl)
    (case rL => rfl)
    (case hL => k_is)
    (case iL => rfl)
    (case nL2 => first | kernel_rfl | rfl)
    (case rF => rfl)
    (case hF => k_is)
    (case iF => rfl)
    (case nF2 => first | kernel_rfl | rfl)
